import PyProof.Rows.All
import Wide.All
import OpenK.AllK
import Wide.FinOn
import PyProof.EqAt
import PyProof.EqKinds
import PyProof.TupleCall
import KE.BitLaws
import KE.OsGo
import Open.SpecLaws
import KE.KDictLaws
import KE.KRevIter
import PyProof.MaxThree
import PyProof.ListNew
import PyFlatLaws
import PySem.Challenge.RW_oneend_s01_answers
set_option Elab.async false
set_option linter.all false
set_option maxRecDepth 100000
namespace L2
open PySem
def inClass (s : Stmt) (j : Nat) : Stmt := match s with
  | .ClassDef _ _ _ body _ _ _ _ _ _ _ => body.getD j (.Pass ⟨0, 0, 0, 0⟩)
  | _ => .Pass ⟨0, 0, 0, 0⟩
def defArgs (s : Stmt) : Arguments := match s with
  | .FunctionDef _ a _ _ _ _ _ _ _ _ => a
  | _ => { posonlyargs := [], args := [], vararg := none, kwonlyargs := [], kw_defaults := [], kwarg := none, defaults := [] }
def defBody (s : Stmt) : List Stmt := match s with
  | .FunctionDef _ _ b _ _ _ _ _ _ _ => b
  | _ => []
def defScope (s : Stmt) : Scope := match s with
  | .FunctionDef _ _ _ _ _ _ sc _ _ _ => sc
  | _ => { kind := .function, names := [], isGenerator := false, isCoroutine := false }
end L2
namespace Pr
open PySem L2
def top (i : Nat) : Stmt := PySem.Challenge.pw_oneend_s01_answers.main.body.getD i (.Pass ⟨0, 0, 0, 0⟩)
abbrev s_is_right : Stmt := top 14
abbrev s_sum_is_right : Stmt := top 15
abbrev s_number_at : Stmt := top 16
abbrev s_place_of : Stmt := top 17
abbrev s_wanted_place_of : Stmt := top 18
abbrev s_window_of : Stmt := top 19
abbrev s_has_flag : Stmt := top 20
abbrev s_data_of : Stmt := top 21
abbrev s_segment_without_sum : Stmt := top 22
abbrev s_row_of : Stmt := top 23
abbrev s_nearest : Stmt := top 24
abbrev s_End_init : Stmt := inClass (top 35) 0
abbrev s_End_room : Stmt := inClass (top 35) 1
abbrev s_End_end_number : Stmt := inClass (top 35) 2
abbrev s_End_other_has_begun : Stmt := inClass (top 35) 3
abbrev s_End_next_in_order : Stmt := inClass (top 35) 4
abbrev s_End_window : Stmt := inClass (top 35) 5
abbrev s_End_whole : Stmt := inClass (top 35) 6
abbrev s_End_wanted : Stmt := inClass (top 35) 7
abbrev s_End_write : Stmt := inClass (top 35) 8
abbrev s_End_close : Stmt := inClass (top 35) 9
abbrev s_End_read : Stmt := inClass (top 35) 10
abbrev s_End_nothing_to_read : Stmt := inClass (top 35) 11
abbrev s_End_take_in : Stmt := inClass (top 35) 12
abbrev s_End_comes_too_early : Stmt := inClass (top 35) 13
abbrev s_End_take_break : Stmt := inClass (top 35) 14
abbrev s_End_wanted_place : Stmt := inClass (top 35) 15
abbrev s_End_take_answer : Stmt := inClass (top 35) 16
abbrev s_End_take_data : Stmt := inClass (top 35) 17
abbrev s_End_number_of_data : Stmt := inClass (top 35) 18
abbrev s_End_bring_in_order : Stmt := inClass (top 35) 19
abbrev s_End_out : Stmt := inClass (top 35) 20
abbrev s_End_beginning_is_due : Stmt := inClass (top 35) 21
abbrev s_End_data_due : Stmt := inClass (top 35) 22
abbrev s_End_end_is_due : Stmt := inClass (top 35) 23
abbrev s_End_answer_is_due : Stmt := inClass (top 35) 24
abbrev s_End_send : Stmt := inClass (top 35) 25
abbrev s_End_tick : Stmt := inClass (top 35) 26
abbrev s_End_waits : Stmt := inClass (top 35) 27
abbrev s_End_state : Stmt := inClass (top 35) 28
abbrev s_answers : Stmt := top 49
abbrev s_split_calls : Stmt := top 50
abbrev s_how_many_numbers : Stmt := top 51
abbrev s_in_range : Stmt := top 52
abbrev s_answer_call : Stmt := top 53
end Pr
namespace Pr
open PySem PySem.W
noncomputable def KK : Params → Frag := fun P =>
  (nat_lit 2, ({ cls := Value.none, data := Data.dict #[] } : Obj)) ::
  (nat_lit 3, ({ cls := Value.type "dict", data := Data.dict #[{ hash := PyData.keyHash P (Str.ofString "__name__"), key := .str (Str.ofString "__name__") 165, val := Value.str (Str.ofString "oneend.segments") 612 }, { hash := PyData.keyHash P (Str.ofString "__doc__"), key := .str (Str.ofString "__doc__") 166, val := Value.none }, { hash := PyData.keyHash P (Str.ofString "__package__"), key := .str (Str.ofString "__package__") 167, val := Value.none }, { hash := PyData.keyHash P (Str.ofString "__loader__"), key := .str (Str.ofString "__loader__") 168, val := Value.builtin "__main__.__loader__#opaque" }, { hash := PyData.keyHash P (Str.ofString "__spec__"), key := .str (Str.ofString "__spec__") 169, val := Value.none }, { hash := PyData.keyHash P (Str.ofString "__annotations__"), key := .str (Str.ofString "__annotations__") 170, val := Value.ref 6 }, { hash := PyData.keyHash P (Str.ofString "__builtins__"), key := .str (Str.ofString "__builtins__") 171, val := Value.ref 4 }, { hash := PyData.keyHash P (Str.ofString "__file__"), key := .str (Str.ofString "__file__") 173, val := Value.str (Str.ofString "/claim/cut.py") 172 }, { hash := PyData.keyHash P (Str.ofString "__cached__"), key := .str (Str.ofString "__cached__") 174, val := Value.none }, { hash := PyData.keyHash P (Str.ofString "HEAD"), key := .str (Str.ofString "HEAD") 190, val := Value.int 14 189 }, { hash := PyData.keyHash P (Str.ofString "WANTED_AT"), key := .str (Str.ofString "WANTED_AT") 192, val := Value.int 4 191 }, { hash := PyData.keyHash P (Str.ofString "FLAGS_AT"), key := .str (Str.ofString "FLAGS_AT") 194, val := Value.int 8 193 }, { hash := PyData.keyHash P (Str.ofString "ZERO_AT"), key := .str (Str.ofString "ZERO_AT") 196, val := Value.int 9 195 }, { hash := PyData.keyHash P (Str.ofString "WINDOW_AT"), key := .str (Str.ofString "WINDOW_AT") 198, val := Value.int 10 197 }, { hash := PyData.keyHash P (Str.ofString "BEGINS"), key := .str (Str.ofString "BEGINS") 200, val := Value.int 1 199 }, { hash := PyData.keyHash P (Str.ofString "ENDS"), key := .str (Str.ofString "ENDS") 202, val := Value.int 2 201 }, { hash := PyData.keyHash P (Str.ofString "ANSWERS"), key := .str (Str.ofString "ANSWERS") 204, val := Value.int 4 203 }, { hash := PyData.keyHash P (Str.ofString "BREAKS"), key := .str (Str.ofString "BREAKS") 206, val := Value.int 8 205 }, { hash := PyData.keyHash P (Str.ofString "ROUND"), key := .str (Str.ofString "ROUND") 208, val := Value.int 4294967296 207 }, { hash := PyData.keyHash P (Str.ofString "HALF_ROUND"), key := .str (Str.ofString "HALF_ROUND") 210, val := Value.int 2147483648 209 }, { hash := PyData.keyHash P (Str.ofString "WORD"), key := .str (Str.ofString "WORD") 212, val := Value.int 65536 211 }, { hash := PyData.keyHash P (Str.ofString "FULL_WORD"), key := .str (Str.ofString "FULL_WORD") 214, val := Value.int 65535 213 }, { hash := PyData.keyHash P (Str.ofString "is_right"), key := .str (Str.ofString "is_right") 221, val := Value.ref 21 }, { hash := PyData.keyHash P (Str.ofString "sum_is_right"), key := .str (Str.ofString "sum_is_right") 231, val := Value.ref 28 }, { hash := PyData.keyHash P (Str.ofString "number_at"), key := .str (Str.ofString "number_at") 242, val := Value.ref 35 }, { hash := PyData.keyHash P (Str.ofString "place_of"), key := .str (Str.ofString "place_of") 249, val := Value.ref 42 }, { hash := PyData.keyHash P (Str.ofString "wanted_place_of"), key := .str (Str.ofString "wanted_place_of") 256, val := Value.ref 49 }, { hash := PyData.keyHash P (Str.ofString "window_of"), key := .str (Str.ofString "window_of") 263, val := Value.ref 56 }, { hash := PyData.keyHash P (Str.ofString "has_flag"), key := .str (Str.ofString "has_flag") 271, val := Value.ref 63 }, { hash := PyData.keyHash P (Str.ofString "data_of"), key := .str (Str.ofString "data_of") 278, val := Value.ref 70 }, { hash := PyData.keyHash P (Str.ofString "segment_without_sum"), key := .str (Str.ofString "segment_without_sum") 289, val := Value.ref 77 }, { hash := PyData.keyHash P (Str.ofString "row_of"), key := .str (Str.ofString "row_of") 299, val := Value.ref 84 }, { hash := PyData.keyHash P (Str.ofString "nearest"), key := .str (Str.ofString "nearest") 308, val := Value.ref 91 }, { hash := PyData.keyHash P (Str.ofString "SEND_ROOM"), key := .str (Str.ofString "SEND_ROOM") 312, val := Value.int 16384 311 }, { hash := PyData.keyHash P (Str.ofString "FULL_WINDOW"), key := .str (Str.ofString "FULL_WINDOW") 314, val := Value.int 8192 313 }, { hash := PyData.keyHash P (Str.ofString "SMALL_WINDOW"), key := .str (Str.ofString "SMALL_WINDOW") 316, val := Value.int 536 315 }, { hash := PyData.keyHash P (Str.ofString "MOST_DATA"), key := .str (Str.ofString "MOST_DATA") 318, val := Value.int 536 317 }, { hash := PyData.keyHash P (Str.ofString "FIRST_PATIENCE"), key := .str (Str.ofString "FIRST_PATIENCE") 320, val := Value.int 1000 319 }, { hash := PyData.keyHash P (Str.ofString "MOST_PATIENCE"), key := .str (Str.ofString "MOST_PATIENCE") 322, val := Value.int 60000 321 }, { hash := PyData.keyHash P (Str.ofString "CLOSED_OR_BROKEN"), key := .str (Str.ofString "CLOSED_OR_BROKEN") 325, val := Value.int (-1) 324 }, { hash := PyData.keyHash P (Str.ofString "ALL_READ"), key := .str (Str.ofString "ALL_READ") 328, val := Value.int (-1) 327 }, { hash := PyData.keyHash P (Str.ofString "BROKEN"), key := .str (Str.ofString "BROKEN") 331, val := Value.int (-3) 330 }, { hash := PyData.keyHash P (Str.ofString "End"), key := .str (Str.ofString "End") 611, val := Value.ref 304 }, { hash := PyData.keyHash P (Str.ofString "OPEN"), key := .str (Str.ofString "OPEN") 615, val := Value.int 1 614 }, { hash := PyData.keyHash P (Str.ofString "WRITE"), key := .str (Str.ofString "WRITE") 617, val := Value.int 2 616 }, { hash := PyData.keyHash P (Str.ofString "CLOSE"), key := .str (Str.ofString "CLOSE") 619, val := Value.int 3 618 }, { hash := PyData.keyHash P (Str.ofString "READ"), key := .str (Str.ofString "READ") 621, val := Value.int 4 620 }, { hash := PyData.keyHash P (Str.ofString "IN"), key := .str (Str.ofString "IN") 623, val := Value.int 5 622 }, { hash := PyData.keyHash P (Str.ofString "OUT"), key := .str (Str.ofString "OUT") 625, val := Value.int 6 624 }, { hash := PyData.keyHash P (Str.ofString "TICK"), key := .str (Str.ofString "TICK") 627, val := Value.int 7 626 }, { hash := PyData.keyHash P (Str.ofString "STATE"), key := .str (Str.ofString "STATE") 629, val := Value.int 8 628 }, { hash := PyData.keyHash P (Str.ofString "MOST_READ"), key := .str (Str.ofString "MOST_READ") 631, val := Value.int 1000000 630 }, { hash := PyData.keyHash P (Str.ofString "LONGEST_SEGMENT"), key := .str (Str.ofString "LONGEST_SEGMENT") 633, val := Value.int 65535 632 }, { hash := PyData.keyHash P (Str.ofString "LONGEST_TICK"), key := .str (Str.ofString "LONGEST_TICK") 635, val := Value.int 1000000 634 }, { hash := PyData.keyHash P (Str.ofString "OUT_OF_RANGE"), key := .str (Str.ofString "OUT_OF_RANGE") 638, val := Value.int (-2) 637 }, { hash := PyData.keyHash P (Str.ofString "answers"), key := .str (Str.ofString "answers") 650, val := Value.ref 315 }, { hash := PyData.keyHash P (Str.ofString "split_calls"), key := .str (Str.ofString "split_calls") 662, val := Value.ref 322 }, { hash := PyData.keyHash P (Str.ofString "how_many_numbers"), key := .str (Str.ofString "how_many_numbers") 669, val := Value.ref 329 }, { hash := PyData.keyHash P (Str.ofString "in_range"), key := .str (Str.ofString "in_range") 677, val := Value.ref 336 }, { hash := PyData.keyHash P (Str.ofString "answer_call"), key := .str (Str.ofString "answer_call") 686, val := Value.ref 343 }] 60 } : Obj)) ::
  (nat_lit 20, ({ cls := Value.type "code", data := Data.fields #[Value.str (Str.ofString "is_right") 215, Value.str (Str.ofString "is_right") 216, Value.str (Str.ofString "/claim/cut.py") 217, Value.int 15 0, Value.int 1 0, Value.int 0 0, Value.int 0 0, Value.int 3 0, Value.ref 15, Value.bool true, Value.int 181 0, Value.ref 16, Value.none, Value.ref 17, Value.ref 18, Value.ref 19, Value.int 219 0, Value.int 15 0, Value.str (Str.ofString "/claim/cut.py") 220] } : Obj)) ::
  (nat_lit 21, ({ cls := Value.type "function", data := Data.func { name := Str.ofString "is_right", qualname := Str.ofString "is_right", params := L2.defArgs s_is_right, body := .stmts (L2.defBody s_is_right), scope := L2.defScope s_is_right, globals := 3, closure := [], defaults := Value.none, kwdefaults := Value.none, pyModule := Value.str (Str.ofString "oneend.layout") 187, code := Value.ref 20 } } : Obj)) ::
  (nat_lit 27, ({ cls := Value.type "code", data := Data.fields #[Value.str (Str.ofString "sum_is_right") 222, Value.str (Str.ofString "sum_is_right") 223, Value.str (Str.ofString "/claim/cut.py") 224, Value.int 17 0, Value.int 1 0, Value.int 0 0, Value.int 0 0, Value.int 3 0, Value.ref 22, Value.bool true, Value.int 181 0, Value.ref 23, Value.none, Value.ref 24, Value.ref 25, Value.ref 26, Value.int 229 0, Value.int 17 0, Value.str (Str.ofString "/claim/cut.py") 230] } : Obj)) ::
  (nat_lit 28, ({ cls := Value.type "function", data := Data.func { name := Str.ofString "sum_is_right", qualname := Str.ofString "sum_is_right", params := L2.defArgs s_sum_is_right, body := .stmts (L2.defBody s_sum_is_right), scope := L2.defScope s_sum_is_right, globals := 3, closure := [], defaults := Value.none, kwdefaults := Value.none, pyModule := Value.str (Str.ofString "oneend.layout") 187, code := Value.ref 27 } } : Obj)) ::
  (nat_lit 34, ({ cls := Value.type "code", data := Data.fields #[Value.str (Str.ofString "number_at") 232, Value.str (Str.ofString "number_at") 233, Value.str (Str.ofString "/claim/cut.py") 234, Value.int 24 0, Value.int 3 0, Value.int 0 0, Value.int 0 0, Value.int 3 0, Value.ref 29, Value.bool true, Value.int 181 0, Value.ref 30, Value.none, Value.ref 31, Value.ref 32, Value.ref 33, Value.int 240 0, Value.int 24 0, Value.str (Str.ofString "/claim/cut.py") 241] } : Obj)) ::
  (nat_lit 35, ({ cls := Value.type "function", data := Data.func { name := Str.ofString "number_at", qualname := Str.ofString "number_at", params := L2.defArgs s_number_at, body := .stmts (L2.defBody s_number_at), scope := L2.defScope s_number_at, globals := 3, closure := [], defaults := Value.none, kwdefaults := Value.none, pyModule := Value.str (Str.ofString "oneend.layout") 187, code := Value.ref 34 } } : Obj)) ::
  (nat_lit 41, ({ cls := Value.type "code", data := Data.fields #[Value.str (Str.ofString "place_of") 243, Value.str (Str.ofString "place_of") 244, Value.str (Str.ofString "/claim/cut.py") 245, Value.int 29 0, Value.int 1 0, Value.int 0 0, Value.int 0 0, Value.int 3 0, Value.ref 36, Value.bool true, Value.int 181 0, Value.ref 37, Value.none, Value.ref 38, Value.ref 39, Value.ref 40, Value.int 247 0, Value.int 29 0, Value.str (Str.ofString "/claim/cut.py") 248] } : Obj)) ::
  (nat_lit 42, ({ cls := Value.type "function", data := Data.func { name := Str.ofString "place_of", qualname := Str.ofString "place_of", params := L2.defArgs s_place_of, body := .stmts (L2.defBody s_place_of), scope := L2.defScope s_place_of, globals := 3, closure := [], defaults := Value.none, kwdefaults := Value.none, pyModule := Value.str (Str.ofString "oneend.layout") 187, code := Value.ref 41 } } : Obj)) ::
  (nat_lit 48, ({ cls := Value.type "code", data := Data.fields #[Value.str (Str.ofString "wanted_place_of") 250, Value.str (Str.ofString "wanted_place_of") 251, Value.str (Str.ofString "/claim/cut.py") 252, Value.int 31 0, Value.int 1 0, Value.int 0 0, Value.int 0 0, Value.int 3 0, Value.ref 43, Value.bool true, Value.int 181 0, Value.ref 44, Value.none, Value.ref 45, Value.ref 46, Value.ref 47, Value.int 254 0, Value.int 31 0, Value.str (Str.ofString "/claim/cut.py") 255] } : Obj)) ::
  (nat_lit 49, ({ cls := Value.type "function", data := Data.func { name := Str.ofString "wanted_place_of", qualname := Str.ofString "wanted_place_of", params := L2.defArgs s_wanted_place_of, body := .stmts (L2.defBody s_wanted_place_of), scope := L2.defScope s_wanted_place_of, globals := 3, closure := [], defaults := Value.none, kwdefaults := Value.none, pyModule := Value.str (Str.ofString "oneend.layout") 187, code := Value.ref 48 } } : Obj)) ::
  (nat_lit 55, ({ cls := Value.type "code", data := Data.fields #[Value.str (Str.ofString "window_of") 257, Value.str (Str.ofString "window_of") 258, Value.str (Str.ofString "/claim/cut.py") 259, Value.int 33 0, Value.int 1 0, Value.int 0 0, Value.int 0 0, Value.int 3 0, Value.ref 50, Value.bool true, Value.int 181 0, Value.ref 51, Value.none, Value.ref 52, Value.ref 53, Value.ref 54, Value.int 261 0, Value.int 33 0, Value.str (Str.ofString "/claim/cut.py") 262] } : Obj)) ::
  (nat_lit 56, ({ cls := Value.type "function", data := Data.func { name := Str.ofString "window_of", qualname := Str.ofString "window_of", params := L2.defArgs s_window_of, body := .stmts (L2.defBody s_window_of), scope := L2.defScope s_window_of, globals := 3, closure := [], defaults := Value.none, kwdefaults := Value.none, pyModule := Value.str (Str.ofString "oneend.layout") 187, code := Value.ref 55 } } : Obj)) ::
  (nat_lit 62, ({ cls := Value.type "code", data := Data.fields #[Value.str (Str.ofString "has_flag") 264, Value.str (Str.ofString "has_flag") 265, Value.str (Str.ofString "/claim/cut.py") 266, Value.int 35 0, Value.int 2 0, Value.int 0 0, Value.int 0 0, Value.int 3 0, Value.ref 57, Value.bool true, Value.int 181 0, Value.ref 58, Value.none, Value.ref 59, Value.ref 60, Value.ref 61, Value.int 269 0, Value.int 35 0, Value.str (Str.ofString "/claim/cut.py") 270] } : Obj)) ::
  (nat_lit 63, ({ cls := Value.type "function", data := Data.func { name := Str.ofString "has_flag", qualname := Str.ofString "has_flag", params := L2.defArgs s_has_flag, body := .stmts (L2.defBody s_has_flag), scope := L2.defScope s_has_flag, globals := 3, closure := [], defaults := Value.none, kwdefaults := Value.none, pyModule := Value.str (Str.ofString "oneend.layout") 187, code := Value.ref 62 } } : Obj)) ::
  (nat_lit 69, ({ cls := Value.type "code", data := Data.fields #[Value.str (Str.ofString "data_of") 272, Value.str (Str.ofString "data_of") 273, Value.str (Str.ofString "/claim/cut.py") 274, Value.int 37 0, Value.int 1 0, Value.int 0 0, Value.int 0 0, Value.int 3 0, Value.ref 64, Value.bool true, Value.int 181 0, Value.ref 65, Value.none, Value.ref 66, Value.ref 67, Value.ref 68, Value.int 276 0, Value.int 37 0, Value.str (Str.ofString "/claim/cut.py") 277] } : Obj)) ::
  (nat_lit 70, ({ cls := Value.type "function", data := Data.func { name := Str.ofString "data_of", qualname := Str.ofString "data_of", params := L2.defArgs s_data_of, body := .stmts (L2.defBody s_data_of), scope := L2.defScope s_data_of, globals := 3, closure := [], defaults := Value.none, kwdefaults := Value.none, pyModule := Value.str (Str.ofString "oneend.layout") 187, code := Value.ref 69 } } : Obj)) ::
  (nat_lit 76, ({ cls := Value.type "code", data := Data.fields #[Value.str (Str.ofString "segment_without_sum") 279, Value.str (Str.ofString "segment_without_sum") 280, Value.str (Str.ofString "/claim/cut.py") 281, Value.int 39 0, Value.int 5 0, Value.int 0 0, Value.int 0 0, Value.int 3 0, Value.ref 71, Value.bool true, Value.int 181 0, Value.ref 72, Value.none, Value.ref 73, Value.ref 74, Value.ref 75, Value.int 287 0, Value.int 39 0, Value.str (Str.ofString "/claim/cut.py") 288] } : Obj)) ::
  (nat_lit 77, ({ cls := Value.type "function", data := Data.func { name := Str.ofString "segment_without_sum", qualname := Str.ofString "segment_without_sum", params := L2.defArgs s_segment_without_sum, body := .stmts (L2.defBody s_segment_without_sum), scope := L2.defScope s_segment_without_sum, globals := 3, closure := [], defaults := Value.none, kwdefaults := Value.none, pyModule := Value.str (Str.ofString "oneend.layout") 187, code := Value.ref 76 } } : Obj)) ::
  (nat_lit 83, ({ cls := Value.type "code", data := Data.fields #[Value.str (Str.ofString "row_of") 290, Value.str (Str.ofString "row_of") 291, Value.str (Str.ofString "/claim/cut.py") 292, Value.int 41 0, Value.int 2 0, Value.int 0 0, Value.int 0 0, Value.int 3 0, Value.ref 78, Value.bool true, Value.int 181 0, Value.ref 79, Value.none, Value.ref 80, Value.ref 81, Value.ref 82, Value.int 297 0, Value.int 41 0, Value.str (Str.ofString "/claim/cut.py") 298] } : Obj)) ::
  (nat_lit 84, ({ cls := Value.type "function", data := Data.func { name := Str.ofString "row_of", qualname := Str.ofString "row_of", params := L2.defArgs s_row_of, body := .stmts (L2.defBody s_row_of), scope := L2.defScope s_row_of, globals := 3, closure := [], defaults := Value.none, kwdefaults := Value.none, pyModule := Value.str (Str.ofString "oneend.layout") 187, code := Value.ref 83 } } : Obj)) ::
  (nat_lit 90, ({ cls := Value.type "code", data := Data.fields #[Value.str (Str.ofString "nearest") 300, Value.str (Str.ofString "nearest") 301, Value.str (Str.ofString "/claim/cut.py") 302, Value.int 47 0, Value.int 2 0, Value.int 0 0, Value.int 0 0, Value.int 3 0, Value.ref 85, Value.bool true, Value.int 181 0, Value.ref 86, Value.none, Value.ref 87, Value.ref 88, Value.ref 89, Value.int 306 0, Value.int 47 0, Value.str (Str.ofString "/claim/cut.py") 307] } : Obj)) ::
  (nat_lit 91, ({ cls := Value.type "function", data := Data.func { name := Str.ofString "nearest", qualname := Str.ofString "nearest", params := L2.defArgs s_nearest, body := .stmts (L2.defBody s_nearest), scope := L2.defScope s_nearest, globals := 3, closure := [], defaults := Value.none, kwdefaults := Value.none, pyModule := Value.str (Str.ofString "oneend.layout") 187, code := Value.ref 90 } } : Obj)) ::
  (nat_lit 104, ({ cls := Value.type "code", data := Data.fields #[Value.str (Str.ofString "__init__") 344, Value.str (Str.ofString "End.__init__") 345, Value.str (Str.ofString "/claim/cut.py") 346, Value.int 64 0, Value.int 3 0, Value.int 0 0, Value.int 0 0, Value.int 3 0, Value.ref 99, Value.bool true, Value.int 181 0, Value.ref 100, Value.none, Value.ref 101, Value.ref 102, Value.ref 103, Value.int 350 0, Value.int 64 0, Value.str (Str.ofString "/claim/cut.py") 351] } : Obj)) ::
  (nat_lit 105, ({ cls := Value.type "function", data := Data.func { name := Str.ofString "__init__", qualname := Str.ofString "End.__init__", params := L2.defArgs s_End_init, body := .stmts (L2.defBody s_End_init), scope := L2.defScope s_End_init, globals := 3, closure := [], defaults := Value.none, kwdefaults := Value.none, pyModule := Value.str (Str.ofString "oneend.ends") 309, code := Value.ref 104 } } : Obj)) ::
  (nat_lit 111, ({ cls := Value.type "code", data := Data.fields #[Value.str (Str.ofString "room") 353, Value.str (Str.ofString "End.room") 354, Value.str (Str.ofString "/claim/cut.py") 355, Value.int 84 0, Value.int 1 0, Value.int 0 0, Value.int 0 0, Value.int 3 0, Value.ref 106, Value.bool true, Value.int 181 0, Value.ref 107, Value.none, Value.ref 108, Value.ref 109, Value.ref 110, Value.int 358 0, Value.int 84 0, Value.str (Str.ofString "/claim/cut.py") 359] } : Obj)) ::
  (nat_lit 112, ({ cls := Value.type "function", data := Data.func { name := Str.ofString "room", qualname := Str.ofString "End.room", params := L2.defArgs s_End_room, body := .stmts (L2.defBody s_End_room), scope := L2.defScope s_End_room, globals := 3, closure := [], defaults := Value.none, kwdefaults := Value.none, pyModule := Value.str (Str.ofString "oneend.ends") 309, code := Value.ref 111 } } : Obj)) ::
  (nat_lit 118, ({ cls := Value.type "code", data := Data.fields #[Value.str (Str.ofString "end_number") 361, Value.str (Str.ofString "End.end_number") 362, Value.str (Str.ofString "/claim/cut.py") 363, Value.int 88 0, Value.int 1 0, Value.int 0 0, Value.int 0 0, Value.int 3 0, Value.ref 113, Value.bool true, Value.int 181 0, Value.ref 114, Value.none, Value.ref 115, Value.ref 116, Value.ref 117, Value.int 365 0, Value.int 88 0, Value.str (Str.ofString "/claim/cut.py") 366] } : Obj)) ::
  (nat_lit 119, ({ cls := Value.type "function", data := Data.func { name := Str.ofString "end_number", qualname := Str.ofString "End.end_number", params := L2.defArgs s_End_end_number, body := .stmts (L2.defBody s_End_end_number), scope := L2.defScope s_End_end_number, globals := 3, closure := [], defaults := Value.none, kwdefaults := Value.none, pyModule := Value.str (Str.ofString "oneend.ends") 309, code := Value.ref 118 } } : Obj)) ::
  (nat_lit 125, ({ cls := Value.type "code", data := Data.fields #[Value.str (Str.ofString "other_has_begun") 368, Value.str (Str.ofString "End.other_has_begun") 369, Value.str (Str.ofString "/claim/cut.py") 370, Value.int 91 0, Value.int 1 0, Value.int 0 0, Value.int 0 0, Value.int 3 0, Value.ref 120, Value.bool true, Value.int 181 0, Value.ref 121, Value.none, Value.ref 122, Value.ref 123, Value.ref 124, Value.int 372 0, Value.int 91 0, Value.str (Str.ofString "/claim/cut.py") 373] } : Obj)) ::
  (nat_lit 126, ({ cls := Value.type "function", data := Data.func { name := Str.ofString "other_has_begun", qualname := Str.ofString "End.other_has_begun", params := L2.defArgs s_End_other_has_begun, body := .stmts (L2.defBody s_End_other_has_begun), scope := L2.defScope s_End_other_has_begun, globals := 3, closure := [], defaults := Value.none, kwdefaults := Value.none, pyModule := Value.str (Str.ofString "oneend.ends") 309, code := Value.ref 125 } } : Obj)) ::
  (nat_lit 132, ({ cls := Value.type "code", data := Data.fields #[Value.str (Str.ofString "next_in_order") 375, Value.str (Str.ofString "End.next_in_order") 376, Value.str (Str.ofString "/claim/cut.py") 377, Value.int 94 0, Value.int 1 0, Value.int 0 0, Value.int 0 0, Value.int 3 0, Value.ref 127, Value.bool true, Value.int 181 0, Value.ref 128, Value.none, Value.ref 129, Value.ref 130, Value.ref 131, Value.int 379 0, Value.int 94 0, Value.str (Str.ofString "/claim/cut.py") 380] } : Obj)) ::
  (nat_lit 133, ({ cls := Value.type "function", data := Data.func { name := Str.ofString "next_in_order", qualname := Str.ofString "End.next_in_order", params := L2.defArgs s_End_next_in_order, body := .stmts (L2.defBody s_End_next_in_order), scope := L2.defScope s_End_next_in_order, globals := 3, closure := [], defaults := Value.none, kwdefaults := Value.none, pyModule := Value.str (Str.ofString "oneend.ends") 309, code := Value.ref 132 } } : Obj)) ::
  (nat_lit 139, ({ cls := Value.type "code", data := Data.fields #[Value.str (Str.ofString "window") 382, Value.str (Str.ofString "End.window") 383, Value.str (Str.ofString "/claim/cut.py") 384, Value.int 97 0, Value.int 1 0, Value.int 0 0, Value.int 0 0, Value.int 3 0, Value.ref 134, Value.bool true, Value.int 181 0, Value.ref 135, Value.none, Value.ref 136, Value.ref 137, Value.ref 138, Value.int 386 0, Value.int 97 0, Value.str (Str.ofString "/claim/cut.py") 387] } : Obj)) ::
  (nat_lit 140, ({ cls := Value.type "function", data := Data.func { name := Str.ofString "window", qualname := Str.ofString "End.window", params := L2.defArgs s_End_window, body := .stmts (L2.defBody s_End_window), scope := L2.defScope s_End_window, globals := 3, closure := [], defaults := Value.none, kwdefaults := Value.none, pyModule := Value.str (Str.ofString "oneend.ends") 309, code := Value.ref 139 } } : Obj)) ::
  (nat_lit 146, ({ cls := Value.type "code", data := Data.fields #[Value.str (Str.ofString "whole") 389, Value.str (Str.ofString "End.whole") 390, Value.str (Str.ofString "/claim/cut.py") 391, Value.int 100 0, Value.int 1 0, Value.int 0 0, Value.int 0 0, Value.int 3 0, Value.ref 141, Value.bool true, Value.int 181 0, Value.ref 142, Value.none, Value.ref 143, Value.ref 144, Value.ref 145, Value.int 393 0, Value.int 100 0, Value.str (Str.ofString "/claim/cut.py") 394] } : Obj)) ::
  (nat_lit 147, ({ cls := Value.type "function", data := Data.func { name := Str.ofString "whole", qualname := Str.ofString "End.whole", params := L2.defArgs s_End_whole, body := .stmts (L2.defBody s_End_whole), scope := L2.defScope s_End_whole, globals := 3, closure := [], defaults := Value.none, kwdefaults := Value.none, pyModule := Value.str (Str.ofString "oneend.ends") 309, code := Value.ref 146 } } : Obj)) ::
  (nat_lit 153, ({ cls := Value.type "code", data := Data.fields #[Value.str (Str.ofString "wanted") 396, Value.str (Str.ofString "End.wanted") 397, Value.str (Str.ofString "/claim/cut.py") 398, Value.int 103 0, Value.int 1 0, Value.int 0 0, Value.int 0 0, Value.int 3 0, Value.ref 148, Value.bool true, Value.int 181 0, Value.ref 149, Value.none, Value.ref 150, Value.ref 151, Value.ref 152, Value.int 400 0, Value.int 103 0, Value.str (Str.ofString "/claim/cut.py") 401] } : Obj)) ::
  (nat_lit 154, ({ cls := Value.type "function", data := Data.func { name := Str.ofString "wanted", qualname := Str.ofString "End.wanted", params := L2.defArgs s_End_wanted, body := .stmts (L2.defBody s_End_wanted), scope := L2.defScope s_End_wanted, globals := 3, closure := [], defaults := Value.none, kwdefaults := Value.none, pyModule := Value.str (Str.ofString "oneend.ends") 309, code := Value.ref 153 } } : Obj)) ::
  (nat_lit 160, ({ cls := Value.type "code", data := Data.fields #[Value.str (Str.ofString "write") 403, Value.str (Str.ofString "End.write") 404, Value.str (Str.ofString "/claim/cut.py") 405, Value.int 106 0, Value.int 2 0, Value.int 0 0, Value.int 0 0, Value.int 3 0, Value.ref 155, Value.bool true, Value.int 181 0, Value.ref 156, Value.none, Value.ref 157, Value.ref 158, Value.ref 159, Value.int 409 0, Value.int 106 0, Value.str (Str.ofString "/claim/cut.py") 410] } : Obj)) ::
  (nat_lit 161, ({ cls := Value.type "function", data := Data.func { name := Str.ofString "write", qualname := Str.ofString "End.write", params := L2.defArgs s_End_write, body := .stmts (L2.defBody s_End_write), scope := L2.defScope s_End_write, globals := 3, closure := [], defaults := Value.none, kwdefaults := Value.none, pyModule := Value.str (Str.ofString "oneend.ends") 309, code := Value.ref 160 } } : Obj)) ::
  (nat_lit 167, ({ cls := Value.type "code", data := Data.fields #[Value.str (Str.ofString "close") 412, Value.str (Str.ofString "End.close") 413, Value.str (Str.ofString "/claim/cut.py") 414, Value.int 113 0, Value.int 1 0, Value.int 0 0, Value.int 0 0, Value.int 3 0, Value.ref 162, Value.bool true, Value.int 181 0, Value.ref 163, Value.none, Value.ref 164, Value.ref 165, Value.ref 166, Value.int 416 0, Value.int 113 0, Value.str (Str.ofString "/claim/cut.py") 417] } : Obj)) ::
  (nat_lit 168, ({ cls := Value.type "function", data := Data.func { name := Str.ofString "close", qualname := Str.ofString "End.close", params := L2.defArgs s_End_close, body := .stmts (L2.defBody s_End_close), scope := L2.defScope s_End_close, globals := 3, closure := [], defaults := Value.none, kwdefaults := Value.none, pyModule := Value.str (Str.ofString "oneend.ends") 309, code := Value.ref 167 } } : Obj)) ::
  (nat_lit 174, ({ cls := Value.type "code", data := Data.fields #[Value.str (Str.ofString "read") 419, Value.str (Str.ofString "End.read") 420, Value.str (Str.ofString "/claim/cut.py") 421, Value.int 119 0, Value.int 2 0, Value.int 0 0, Value.int 0 0, Value.int 3 0, Value.ref 169, Value.bool true, Value.int 181 0, Value.ref 170, Value.none, Value.ref 171, Value.ref 172, Value.ref 173, Value.int 426 0, Value.int 119 0, Value.str (Str.ofString "/claim/cut.py") 427] } : Obj)) ::
  (nat_lit 175, ({ cls := Value.type "function", data := Data.func { name := Str.ofString "read", qualname := Str.ofString "End.read", params := L2.defArgs s_End_read, body := .stmts (L2.defBody s_End_read), scope := L2.defScope s_End_read, globals := 3, closure := [], defaults := Value.none, kwdefaults := Value.none, pyModule := Value.str (Str.ofString "oneend.ends") 309, code := Value.ref 174 } } : Obj)) ::
  (nat_lit 181, ({ cls := Value.type "code", data := Data.fields #[Value.str (Str.ofString "nothing_to_read") 429, Value.str (Str.ofString "End.nothing_to_read") 430, Value.str (Str.ofString "/claim/cut.py") 431, Value.int 129 0, Value.int 1 0, Value.int 0 0, Value.int 0 0, Value.int 3 0, Value.ref 176, Value.bool true, Value.int 181 0, Value.ref 177, Value.none, Value.ref 178, Value.ref 179, Value.ref 180, Value.int 433 0, Value.int 129 0, Value.str (Str.ofString "/claim/cut.py") 434] } : Obj)) ::
  (nat_lit 182, ({ cls := Value.type "function", data := Data.func { name := Str.ofString "nothing_to_read", qualname := Str.ofString "End.nothing_to_read", params := L2.defArgs s_End_nothing_to_read, body := .stmts (L2.defBody s_End_nothing_to_read), scope := L2.defScope s_End_nothing_to_read, globals := 3, closure := [], defaults := Value.none, kwdefaults := Value.none, pyModule := Value.str (Str.ofString "oneend.ends") 309, code := Value.ref 181 } } : Obj)) ::
  (nat_lit 188, ({ cls := Value.type "code", data := Data.fields #[Value.str (Str.ofString "take_in") 436, Value.str (Str.ofString "End.take_in") 437, Value.str (Str.ofString "/claim/cut.py") 438, Value.int 136 0, Value.int 2 0, Value.int 0 0, Value.int 0 0, Value.int 3 0, Value.ref 183, Value.bool true, Value.int 181 0, Value.ref 184, Value.none, Value.ref 185, Value.ref 186, Value.ref 187, Value.int 441 0, Value.int 136 0, Value.str (Str.ofString "/claim/cut.py") 442] } : Obj)) ::
  (nat_lit 189, ({ cls := Value.type "function", data := Data.func { name := Str.ofString "take_in", qualname := Str.ofString "End.take_in", params := L2.defArgs s_End_take_in, body := .stmts (L2.defBody s_End_take_in), scope := L2.defScope s_End_take_in, globals := 3, closure := [], defaults := Value.none, kwdefaults := Value.none, pyModule := Value.str (Str.ofString "oneend.ends") 309, code := Value.ref 188 } } : Obj)) ::
  (nat_lit 195, ({ cls := Value.type "code", data := Data.fields #[Value.str (Str.ofString "comes_too_early") 444, Value.str (Str.ofString "End.comes_too_early") 445, Value.str (Str.ofString "/claim/cut.py") 446, Value.int 149 0, Value.int 2 0, Value.int 0 0, Value.int 0 0, Value.int 3 0, Value.ref 190, Value.bool true, Value.int 181 0, Value.ref 191, Value.none, Value.ref 192, Value.ref 193, Value.ref 194, Value.int 451 0, Value.int 149 0, Value.str (Str.ofString "/claim/cut.py") 452] } : Obj)) ::
  (nat_lit 196, ({ cls := Value.type "function", data := Data.func { name := Str.ofString "comes_too_early", qualname := Str.ofString "End.comes_too_early", params := L2.defArgs s_End_comes_too_early, body := .stmts (L2.defBody s_End_comes_too_early), scope := L2.defScope s_End_comes_too_early, globals := 3, closure := [], defaults := Value.none, kwdefaults := Value.none, pyModule := Value.str (Str.ofString "oneend.ends") 309, code := Value.ref 195 } } : Obj)) ::
  (nat_lit 202, ({ cls := Value.type "code", data := Data.fields #[Value.str (Str.ofString "take_break") 454, Value.str (Str.ofString "End.take_break") 455, Value.str (Str.ofString "/claim/cut.py") 456, Value.int 156 0, Value.int 2 0, Value.int 0 0, Value.int 0 0, Value.int 3 0, Value.ref 197, Value.bool true, Value.int 181 0, Value.ref 198, Value.none, Value.ref 199, Value.ref 200, Value.ref 201, Value.int 459 0, Value.int 156 0, Value.str (Str.ofString "/claim/cut.py") 460] } : Obj)) ::
  (nat_lit 203, ({ cls := Value.type "function", data := Data.func { name := Str.ofString "take_break", qualname := Str.ofString "End.take_break", params := L2.defArgs s_End_take_break, body := .stmts (L2.defBody s_End_take_break), scope := L2.defScope s_End_take_break, globals := 3, closure := [], defaults := Value.none, kwdefaults := Value.none, pyModule := Value.str (Str.ofString "oneend.ends") 309, code := Value.ref 202 } } : Obj)) ::
  (nat_lit 209, ({ cls := Value.type "code", data := Data.fields #[Value.str (Str.ofString "wanted_place") 462, Value.str (Str.ofString "End.wanted_place") 463, Value.str (Str.ofString "/claim/cut.py") 464, Value.int 160 0, Value.int 1 0, Value.int 0 0, Value.int 0 0, Value.int 3 0, Value.ref 204, Value.bool true, Value.int 181 0, Value.ref 205, Value.none, Value.ref 206, Value.ref 207, Value.ref 208, Value.int 466 0, Value.int 160 0, Value.str (Str.ofString "/claim/cut.py") 467] } : Obj)) ::
  (nat_lit 210, ({ cls := Value.type "function", data := Data.func { name := Str.ofString "wanted_place", qualname := Str.ofString "End.wanted_place", params := L2.defArgs s_End_wanted_place, body := .stmts (L2.defBody s_End_wanted_place), scope := L2.defScope s_End_wanted_place, globals := 3, closure := [], defaults := Value.none, kwdefaults := Value.none, pyModule := Value.str (Str.ofString "oneend.ends") 309, code := Value.ref 209 } } : Obj)) ::
  (nat_lit 216, ({ cls := Value.type "code", data := Data.fields #[Value.str (Str.ofString "take_answer") 469, Value.str (Str.ofString "End.take_answer") 470, Value.str (Str.ofString "/claim/cut.py") 471, Value.int 163 0, Value.int 2 0, Value.int 0 0, Value.int 0 0, Value.int 3 0, Value.ref 211, Value.bool true, Value.int 181 0, Value.ref 212, Value.none, Value.ref 213, Value.ref 214, Value.ref 215, Value.int 475 0, Value.int 163 0, Value.str (Str.ofString "/claim/cut.py") 476] } : Obj)) ::
  (nat_lit 217, ({ cls := Value.type "function", data := Data.func { name := Str.ofString "take_answer", qualname := Str.ofString "End.take_answer", params := L2.defArgs s_End_take_answer, body := .stmts (L2.defBody s_End_take_answer), scope := L2.defScope s_End_take_answer, globals := 3, closure := [], defaults := Value.none, kwdefaults := Value.none, pyModule := Value.str (Str.ofString "oneend.ends") 309, code := Value.ref 216 } } : Obj)) ::
  (nat_lit 223, ({ cls := Value.type "code", data := Data.fields #[Value.str (Str.ofString "take_data") 478, Value.str (Str.ofString "End.take_data") 479, Value.str (Str.ofString "/claim/cut.py") 480, Value.int 178 0, Value.int 2 0, Value.int 0 0, Value.int 0 0, Value.int 3 0, Value.ref 218, Value.bool true, Value.int 181 0, Value.ref 219, Value.none, Value.ref 220, Value.ref 221, Value.ref 222, Value.int 488 0, Value.int 178 0, Value.str (Str.ofString "/claim/cut.py") 489] } : Obj)) ::
  (nat_lit 224, ({ cls := Value.type "function", data := Data.func { name := Str.ofString "take_data", qualname := Str.ofString "End.take_data", params := L2.defArgs s_End_take_data, body := .stmts (L2.defBody s_End_take_data), scope := L2.defScope s_End_take_data, globals := 3, closure := [], defaults := Value.none, kwdefaults := Value.none, pyModule := Value.str (Str.ofString "oneend.ends") 309, code := Value.ref 223 } } : Obj)) ::
  (nat_lit 230, ({ cls := Value.type "code", data := Data.fields #[Value.str (Str.ofString "number_of_data") 491, Value.str (Str.ofString "End.number_of_data") 492, Value.str (Str.ofString "/claim/cut.py") 493, Value.int 191 0, Value.int 2 0, Value.int 0 0, Value.int 0 0, Value.int 3 0, Value.ref 225, Value.bool true, Value.int 181 0, Value.ref 226, Value.none, Value.ref 227, Value.ref 228, Value.ref 229, Value.int 497 0, Value.int 191 0, Value.str (Str.ofString "/claim/cut.py") 498] } : Obj)) ::
  (nat_lit 231, ({ cls := Value.type "function", data := Data.func { name := Str.ofString "number_of_data", qualname := Str.ofString "End.number_of_data", params := L2.defArgs s_End_number_of_data, body := .stmts (L2.defBody s_End_number_of_data), scope := L2.defScope s_End_number_of_data, globals := 3, closure := [], defaults := Value.none, kwdefaults := Value.none, pyModule := Value.str (Str.ofString "oneend.ends") 309, code := Value.ref 230 } } : Obj)) ::
  (nat_lit 237, ({ cls := Value.type "code", data := Data.fields #[Value.str (Str.ofString "bring_in_order") 500, Value.str (Str.ofString "End.bring_in_order") 501, Value.str (Str.ofString "/claim/cut.py") 502, Value.int 195 0, Value.int 1 0, Value.int 0 0, Value.int 0 0, Value.int 3 0, Value.ref 232, Value.bool true, Value.int 181 0, Value.ref 233, Value.none, Value.ref 234, Value.ref 235, Value.ref 236, Value.int 504 0, Value.int 195 0, Value.str (Str.ofString "/claim/cut.py") 505] } : Obj)) ::
  (nat_lit 238, ({ cls := Value.type "function", data := Data.func { name := Str.ofString "bring_in_order", qualname := Str.ofString "End.bring_in_order", params := L2.defArgs s_End_bring_in_order, body := .stmts (L2.defBody s_End_bring_in_order), scope := L2.defScope s_End_bring_in_order, globals := 3, closure := [], defaults := Value.none, kwdefaults := Value.none, pyModule := Value.str (Str.ofString "oneend.ends") 309, code := Value.ref 237 } } : Obj)) ::
  (nat_lit 244, ({ cls := Value.type "code", data := Data.fields #[Value.str (Str.ofString "out") 507, Value.str (Str.ofString "End.out") 508, Value.str (Str.ofString "/claim/cut.py") 509, Value.int 200 0, Value.int 2 0, Value.int 0 0, Value.int 0 0, Value.int 3 0, Value.ref 239, Value.bool true, Value.int 181 0, Value.ref 240, Value.none, Value.ref 241, Value.ref 242, Value.ref 243, Value.int 513 0, Value.int 200 0, Value.str (Str.ofString "/claim/cut.py") 514] } : Obj)) ::
  (nat_lit 245, ({ cls := Value.type "function", data := Data.func { name := Str.ofString "out", qualname := Str.ofString "End.out", params := L2.defArgs s_End_out, body := .stmts (L2.defBody s_End_out), scope := L2.defScope s_End_out, globals := 3, closure := [], defaults := Value.none, kwdefaults := Value.none, pyModule := Value.str (Str.ofString "oneend.ends") 309, code := Value.ref 244 } } : Obj)) ::
  (nat_lit 251, ({ cls := Value.type "code", data := Data.fields #[Value.str (Str.ofString "beginning_is_due") 516, Value.str (Str.ofString "End.beginning_is_due") 517, Value.str (Str.ofString "/claim/cut.py") 518, Value.int 212 0, Value.int 1 0, Value.int 0 0, Value.int 0 0, Value.int 3 0, Value.ref 246, Value.bool true, Value.int 181 0, Value.ref 247, Value.none, Value.ref 248, Value.ref 249, Value.ref 250, Value.int 520 0, Value.int 212 0, Value.str (Str.ofString "/claim/cut.py") 521] } : Obj)) ::
  (nat_lit 252, ({ cls := Value.type "function", data := Data.func { name := Str.ofString "beginning_is_due", qualname := Str.ofString "End.beginning_is_due", params := L2.defArgs s_End_beginning_is_due, body := .stmts (L2.defBody s_End_beginning_is_due), scope := L2.defScope s_End_beginning_is_due, globals := 3, closure := [], defaults := Value.none, kwdefaults := Value.none, pyModule := Value.str (Str.ofString "oneend.ends") 309, code := Value.ref 251 } } : Obj)) ::
  (nat_lit 258, ({ cls := Value.type "code", data := Data.fields #[Value.str (Str.ofString "data_due") 523, Value.str (Str.ofString "End.data_due") 524, Value.str (Str.ofString "/claim/cut.py") 525, Value.int 215 0, Value.int 2 0, Value.int 0 0, Value.int 0 0, Value.int 3 0, Value.ref 253, Value.bool true, Value.int 181 0, Value.ref 254, Value.none, Value.ref 255, Value.ref 256, Value.ref 257, Value.int 531 0, Value.int 215 0, Value.str (Str.ofString "/claim/cut.py") 532] } : Obj)) ::
  (nat_lit 259, ({ cls := Value.type "function", data := Data.func { name := Str.ofString "data_due", qualname := Str.ofString "End.data_due", params := L2.defArgs s_End_data_due, body := .stmts (L2.defBody s_End_data_due), scope := L2.defScope s_End_data_due, globals := 3, closure := [], defaults := Value.none, kwdefaults := Value.none, pyModule := Value.str (Str.ofString "oneend.ends") 309, code := Value.ref 258 } } : Obj)) ::
  (nat_lit 265, ({ cls := Value.type "code", data := Data.fields #[Value.str (Str.ofString "end_is_due") 534, Value.str (Str.ofString "End.end_is_due") 535, Value.str (Str.ofString "/claim/cut.py") 536, Value.int 225 0, Value.int 2 0, Value.int 0 0, Value.int 0 0, Value.int 3 0, Value.ref 260, Value.bool true, Value.int 181 0, Value.ref 261, Value.none, Value.ref 262, Value.ref 263, Value.ref 264, Value.int 539 0, Value.int 225 0, Value.str (Str.ofString "/claim/cut.py") 540] } : Obj)) ::
  (nat_lit 266, ({ cls := Value.type "function", data := Data.func { name := Str.ofString "end_is_due", qualname := Str.ofString "End.end_is_due", params := L2.defArgs s_End_end_is_due, body := .stmts (L2.defBody s_End_end_is_due), scope := L2.defScope s_End_end_is_due, globals := 3, closure := [], defaults := Value.none, kwdefaults := Value.none, pyModule := Value.str (Str.ofString "oneend.ends") 309, code := Value.ref 265 } } : Obj)) ::
  (nat_lit 272, ({ cls := Value.type "code", data := Data.fields #[Value.str (Str.ofString "answer_is_due") 542, Value.str (Str.ofString "End.answer_is_due") 543, Value.str (Str.ofString "/claim/cut.py") 544, Value.int 228 0, Value.int 1 0, Value.int 0 0, Value.int 0 0, Value.int 3 0, Value.ref 267, Value.bool true, Value.int 181 0, Value.ref 268, Value.none, Value.ref 269, Value.ref 270, Value.ref 271, Value.int 546 0, Value.int 228 0, Value.str (Str.ofString "/claim/cut.py") 547] } : Obj)) ::
  (nat_lit 273, ({ cls := Value.type "function", data := Data.func { name := Str.ofString "answer_is_due", qualname := Str.ofString "End.answer_is_due", params := L2.defArgs s_End_answer_is_due, body := .stmts (L2.defBody s_End_answer_is_due), scope := L2.defScope s_End_answer_is_due, globals := 3, closure := [], defaults := Value.none, kwdefaults := Value.none, pyModule := Value.str (Str.ofString "oneend.ends") 309, code := Value.ref 272 } } : Obj)) ::
  (nat_lit 279, ({ cls := Value.type "code", data := Data.fields #[Value.str (Str.ofString "send") 549, Value.str (Str.ofString "End.send") 550, Value.str (Str.ofString "/claim/cut.py") 551, Value.int 231 0, Value.int 3 0, Value.int 0 0, Value.int 0 0, Value.int 3 0, Value.ref 274, Value.bool true, Value.int 181 0, Value.ref 275, Value.none, Value.ref 276, Value.ref 277, Value.ref 278, Value.int 559 0, Value.int 231 0, Value.str (Str.ofString "/claim/cut.py") 560] } : Obj)) ::
  (nat_lit 280, ({ cls := Value.type "function", data := Data.func { name := Str.ofString "send", qualname := Str.ofString "End.send", params := L2.defArgs s_End_send, body := .stmts (L2.defBody s_End_send), scope := L2.defScope s_End_send, globals := 3, closure := [], defaults := Value.none, kwdefaults := Value.none, pyModule := Value.str (Str.ofString "oneend.ends") 309, code := Value.ref 279 } } : Obj)) ::
  (nat_lit 286, ({ cls := Value.type "code", data := Data.fields #[Value.str (Str.ofString "tick") 562, Value.str (Str.ofString "End.tick") 563, Value.str (Str.ofString "/claim/cut.py") 564, Value.int 246 0, Value.int 2 0, Value.int 0 0, Value.int 0 0, Value.int 3 0, Value.ref 281, Value.bool true, Value.int 181 0, Value.ref 282, Value.none, Value.ref 283, Value.ref 284, Value.ref 285, Value.int 567 0, Value.int 246 0, Value.str (Str.ofString "/claim/cut.py") 568] } : Obj)) ::
  (nat_lit 287, ({ cls := Value.type "function", data := Data.func { name := Str.ofString "tick", qualname := Str.ofString "End.tick", params := L2.defArgs s_End_tick, body := .stmts (L2.defBody s_End_tick), scope := L2.defScope s_End_tick, globals := 3, closure := [], defaults := Value.none, kwdefaults := Value.none, pyModule := Value.str (Str.ofString "oneend.ends") 309, code := Value.ref 286 } } : Obj)) ::
  (nat_lit 293, ({ cls := Value.type "code", data := Data.fields #[Value.str (Str.ofString "waits") 570, Value.str (Str.ofString "End.waits") 571, Value.str (Str.ofString "/claim/cut.py") 572, Value.int 258 0, Value.int 1 0, Value.int 0 0, Value.int 0 0, Value.int 3 0, Value.ref 288, Value.bool true, Value.int 181 0, Value.ref 289, Value.none, Value.ref 290, Value.ref 291, Value.ref 292, Value.int 575 0, Value.int 258 0, Value.str (Str.ofString "/claim/cut.py") 576] } : Obj)) ::
  (nat_lit 294, ({ cls := Value.type "function", data := Data.func { name := Str.ofString "waits", qualname := Str.ofString "End.waits", params := L2.defArgs s_End_waits, body := .stmts (L2.defBody s_End_waits), scope := L2.defScope s_End_waits, globals := 3, closure := [], defaults := Value.none, kwdefaults := Value.none, pyModule := Value.str (Str.ofString "oneend.ends") 309, code := Value.ref 293 } } : Obj)) ::
  (nat_lit 300, ({ cls := Value.type "code", data := Data.fields #[Value.str (Str.ofString "state") 578, Value.str (Str.ofString "End.state") 579, Value.str (Str.ofString "/claim/cut.py") 580, Value.int 262 0, Value.int 1 0, Value.int 0 0, Value.int 0 0, Value.int 3 0, Value.ref 295, Value.bool true, Value.int 181 0, Value.ref 296, Value.none, Value.ref 297, Value.ref 298, Value.ref 299, Value.int 583 0, Value.int 262 0, Value.str (Str.ofString "/claim/cut.py") 584] } : Obj)) ::
  (nat_lit 301, ({ cls := Value.type "function", data := Data.func { name := Str.ofString "state", qualname := Str.ofString "End.state", params := L2.defArgs s_End_state, body := .stmts (L2.defBody s_End_state), scope := L2.defScope s_End_state, globals := 3, closure := [], defaults := Value.none, kwdefaults := Value.none, pyModule := Value.str (Str.ofString "oneend.ends") 309, code := Value.ref 300 } } : Obj)) ::
  (nat_lit 303, ({ cls := Value.type "dict", data := Data.dict #[{ hash := PyData.keyHash P (Str.ofString "__module__"), key := .str (Str.ofString "__module__") 339, val := Value.str (Str.ofString "oneend.ends") 309 }, { hash := PyData.keyHash P (Str.ofString "__firstlineno__"), key := .str (Str.ofString "__firstlineno__") 343, val := Value.int 62 342 }, { hash := PyData.keyHash P (Str.ofString "__init__"), key := .str (Str.ofString "__init__") 352, val := Value.ref 105 }, { hash := PyData.keyHash P (Str.ofString "room"), key := .str (Str.ofString "room") 360, val := Value.ref 112 }, { hash := PyData.keyHash P (Str.ofString "end_number"), key := .str (Str.ofString "end_number") 367, val := Value.ref 119 }, { hash := PyData.keyHash P (Str.ofString "other_has_begun"), key := .str (Str.ofString "other_has_begun") 374, val := Value.ref 126 }, { hash := PyData.keyHash P (Str.ofString "next_in_order"), key := .str (Str.ofString "next_in_order") 381, val := Value.ref 133 }, { hash := PyData.keyHash P (Str.ofString "window"), key := .str (Str.ofString "window") 388, val := Value.ref 140 }, { hash := PyData.keyHash P (Str.ofString "whole"), key := .str (Str.ofString "whole") 395, val := Value.ref 147 }, { hash := PyData.keyHash P (Str.ofString "wanted"), key := .str (Str.ofString "wanted") 402, val := Value.ref 154 }, { hash := PyData.keyHash P (Str.ofString "write"), key := .str (Str.ofString "write") 411, val := Value.ref 161 }, { hash := PyData.keyHash P (Str.ofString "close"), key := .str (Str.ofString "close") 418, val := Value.ref 168 }, { hash := PyData.keyHash P (Str.ofString "read"), key := .str (Str.ofString "read") 428, val := Value.ref 175 }, { hash := PyData.keyHash P (Str.ofString "nothing_to_read"), key := .str (Str.ofString "nothing_to_read") 435, val := Value.ref 182 }, { hash := PyData.keyHash P (Str.ofString "take_in"), key := .str (Str.ofString "take_in") 443, val := Value.ref 189 }, { hash := PyData.keyHash P (Str.ofString "comes_too_early"), key := .str (Str.ofString "comes_too_early") 453, val := Value.ref 196 }, { hash := PyData.keyHash P (Str.ofString "take_break"), key := .str (Str.ofString "take_break") 461, val := Value.ref 203 }, { hash := PyData.keyHash P (Str.ofString "wanted_place"), key := .str (Str.ofString "wanted_place") 468, val := Value.ref 210 }, { hash := PyData.keyHash P (Str.ofString "take_answer"), key := .str (Str.ofString "take_answer") 477, val := Value.ref 217 }, { hash := PyData.keyHash P (Str.ofString "take_data"), key := .str (Str.ofString "take_data") 490, val := Value.ref 224 }, { hash := PyData.keyHash P (Str.ofString "number_of_data"), key := .str (Str.ofString "number_of_data") 499, val := Value.ref 231 }, { hash := PyData.keyHash P (Str.ofString "bring_in_order"), key := .str (Str.ofString "bring_in_order") 506, val := Value.ref 238 }, { hash := PyData.keyHash P (Str.ofString "out"), key := .str (Str.ofString "out") 515, val := Value.ref 245 }, { hash := PyData.keyHash P (Str.ofString "beginning_is_due"), key := .str (Str.ofString "beginning_is_due") 522, val := Value.ref 252 }, { hash := PyData.keyHash P (Str.ofString "data_due"), key := .str (Str.ofString "data_due") 533, val := Value.ref 259 }, { hash := PyData.keyHash P (Str.ofString "end_is_due"), key := .str (Str.ofString "end_is_due") 541, val := Value.ref 266 }, { hash := PyData.keyHash P (Str.ofString "answer_is_due"), key := .str (Str.ofString "answer_is_due") 548, val := Value.ref 273 }, { hash := PyData.keyHash P (Str.ofString "send"), key := .str (Str.ofString "send") 561, val := Value.ref 280 }, { hash := PyData.keyHash P (Str.ofString "tick"), key := .str (Str.ofString "tick") 569, val := Value.ref 287 }, { hash := PyData.keyHash P (Str.ofString "waits"), key := .str (Str.ofString "waits") 577, val := Value.ref 294 }, { hash := PyData.keyHash P (Str.ofString "state"), key := .str (Str.ofString "state") 585, val := Value.ref 301 }, { hash := PyData.keyHash P (Str.ofString "__static_attributes__"), key := .str (Str.ofString "__static_attributes__") 604, val := Value.ref 302 }, { hash := PyData.keyHash P (Str.ofString "__dict__"), key := .str (Str.ofString "__dict__") 606, val := Value.ref 305 }, { hash := PyData.keyHash P (Str.ofString "__weakref__"), key := .str (Str.ofString "__weakref__") 608, val := Value.ref 306 }, { hash := PyData.keyHash P (Str.ofString "__doc__"), key := .str (Str.ofString "__doc__") 609, val := Value.none }] 4 } : Obj)) ::
  (nat_lit 304, ({ cls := Value.type "type", data := Data.cls { name := Str.ofString "End", bases := [Value.type "object"], mro := [Value.ref 304, Value.type "object"], ns := 303, qualname := Str.ofString "End" }, slots := #[none, none, some (Value.str (Str.ofString "End") 332), some (Value.str (Str.ofString "End") 340), some (Value.builtin "object.__new__"), some (Value.bool true)] } : Obj)) ::
  (nat_lit 305, ({ cls := Value.type "getset_descriptor", data := Data.fields #[Value.str (Str.ofString "__dict__") 605, Value.ref 304, Value.builtin "function.__dict__", Value.builtin "function.__dict__#set"] } : Obj)) ::
  (nat_lit 306, ({ cls := Value.type "getset_descriptor", data := Data.fields #[Value.str (Str.ofString "__weakref__") 607, Value.ref 304, Value.builtin "ExceptionGroup.__weakref__", Value.none] } : Obj)) ::
  (nat_lit 314, ({ cls := Value.type "code", data := Data.fields #[Value.str (Str.ofString "answers") 639, Value.str (Str.ofString "answers") 640, Value.str (Str.ofString "/claim/cut.py") 641, Value.int 282 0, Value.int 1 0, Value.int 0 0, Value.int 0 0, Value.int 3 0, Value.ref 309, Value.bool true, Value.int 181 0, Value.ref 310, Value.none, Value.ref 311, Value.ref 312, Value.ref 313, Value.int 648 0, Value.int 282 0, Value.str (Str.ofString "/claim/cut.py") 649] } : Obj)) ::
  (nat_lit 315, ({ cls := Value.type "function", data := Data.func { name := Str.ofString "answers", qualname := Str.ofString "answers", params := L2.defArgs s_answers, body := .stmts (L2.defBody s_answers), scope := L2.defScope s_answers, globals := 3, closure := [], defaults := Value.none, kwdefaults := Value.none, pyModule := Value.str (Str.ofString "oneend.segments") 612, code := Value.ref 314 } } : Obj)) ::
  (nat_lit 321, ({ cls := Value.type "code", data := Data.fields #[Value.str (Str.ofString "split_calls") 651, Value.str (Str.ofString "split_calls") 652, Value.str (Str.ofString "/claim/cut.py") 653, Value.int 294 0, Value.int 1 0, Value.int 0 0, Value.int 0 0, Value.int 3 0, Value.ref 316, Value.bool true, Value.int 181 0, Value.ref 317, Value.none, Value.ref 318, Value.ref 319, Value.ref 320, Value.int 660 0, Value.int 294 0, Value.str (Str.ofString "/claim/cut.py") 661] } : Obj)) ::
  (nat_lit 322, ({ cls := Value.type "function", data := Data.func { name := Str.ofString "split_calls", qualname := Str.ofString "split_calls", params := L2.defArgs s_split_calls, body := .stmts (L2.defBody s_split_calls), scope := L2.defScope s_split_calls, globals := 3, closure := [], defaults := Value.none, kwdefaults := Value.none, pyModule := Value.str (Str.ofString "oneend.segments") 612, code := Value.ref 321 } } : Obj)) ::
  (nat_lit 328, ({ cls := Value.type "code", data := Data.fields #[Value.str (Str.ofString "how_many_numbers") 663, Value.str (Str.ofString "how_many_numbers") 664, Value.str (Str.ofString "/claim/cut.py") 665, Value.int 308 0, Value.int 1 0, Value.int 0 0, Value.int 0 0, Value.int 3 0, Value.ref 323, Value.bool true, Value.int 181 0, Value.ref 324, Value.none, Value.ref 325, Value.ref 326, Value.ref 327, Value.int 667 0, Value.int 308 0, Value.str (Str.ofString "/claim/cut.py") 668] } : Obj)) ::
  (nat_lit 329, ({ cls := Value.type "function", data := Data.func { name := Str.ofString "how_many_numbers", qualname := Str.ofString "how_many_numbers", params := L2.defArgs s_how_many_numbers, body := .stmts (L2.defBody s_how_many_numbers), scope := L2.defScope s_how_many_numbers, globals := 3, closure := [], defaults := Value.none, kwdefaults := Value.none, pyModule := Value.str (Str.ofString "oneend.segments") 612, code := Value.ref 328 } } : Obj)) ::
  (nat_lit 335, ({ cls := Value.type "code", data := Data.fields #[Value.str (Str.ofString "in_range") 670, Value.str (Str.ofString "in_range") 671, Value.str (Str.ofString "/claim/cut.py") 672, Value.int 310 0, Value.int 2 0, Value.int 0 0, Value.int 0 0, Value.int 3 0, Value.ref 330, Value.bool true, Value.int 181 0, Value.ref 331, Value.none, Value.ref 332, Value.ref 333, Value.ref 334, Value.int 675 0, Value.int 310 0, Value.str (Str.ofString "/claim/cut.py") 676] } : Obj)) ::
  (nat_lit 336, ({ cls := Value.type "function", data := Data.func { name := Str.ofString "in_range", qualname := Str.ofString "in_range", params := L2.defArgs s_in_range, body := .stmts (L2.defBody s_in_range), scope := L2.defScope s_in_range, globals := 3, closure := [], defaults := Value.none, kwdefaults := Value.none, pyModule := Value.str (Str.ofString "oneend.segments") 612, code := Value.ref 335 } } : Obj)) ::
  (nat_lit 342, ({ cls := Value.type "code", data := Data.fields #[Value.str (Str.ofString "answer_call") 678, Value.str (Str.ofString "answer_call") 679, Value.str (Str.ofString "/claim/cut.py") 680, Value.int 320 0, Value.int 3 0, Value.int 0 0, Value.int 0 0, Value.int 3 0, Value.ref 337, Value.bool true, Value.int 181 0, Value.ref 338, Value.none, Value.ref 339, Value.ref 340, Value.ref 341, Value.int 684 0, Value.int 320 0, Value.str (Str.ofString "/claim/cut.py") 685] } : Obj)) ::
  (nat_lit 343, ({ cls := Value.type "function", data := Data.func { name := Str.ofString "answer_call", qualname := Str.ofString "answer_call", params := L2.defArgs s_answer_call, body := .stmts (L2.defBody s_answer_call), scope := L2.defScope s_answer_call, globals := 3, closure := [], defaults := Value.none, kwdefaults := Value.none, pyModule := Value.str (Str.ofString "oneend.segments") 612, code := Value.ref 342 } } : Obj)) :: []
noncomputable def KA : List Addr := [2, 3, 20, 21, 27, 28, 34, 35, 41, 42, 48, 49, 55, 56, 62, 63, 69, 70, 76, 77, 83, 84, 90, 91, 104, 105, 111, 112, 118, 119, 125, 126, 132, 133, 139, 140, 146, 147, 153, 154, 160, 161, 167, 168, 174, 175, 181, 182, 188, 189, 195, 196, 202, 203, 209, 210, 216, 217, 223, 224, 230, 231, 237, 238, 244, 245, 251, 252, 258, 259, 265, 266, 272, 273, 279, 280, 286, 287, 293, 294, 300, 301, 303, 304, 305, 306, 314, 315, 321, 322, 328, 329, 335, 336, 342, 343]
theorem KE : ∀ P, KA = (KK P).map (·.1) := fun _ => by kernel_rfl
noncomputable def Q0 : Program := { PySem.Challenge.pw_oneend_s01_answers with main := { PySem.Challenge.pw_oneend_s01_answers.main with body := [top 1, top 2, top 3, top 4, top 5, top 6, top 7, top 8, top 9, top 10, top 11, top 12, top 13, top 14, top 15, top 16, top 17, top 18, top 19, top 20, top 21, top 22, top 23, top 24, top 26, top 27, top 28, top 29, top 30, top 31, top 32, top 33, top 34, top 35, top 37, top 38, top 39, top 40, top 41, top 42, top 43, top 44, top 45, top 46, top 47, top 48, top 49, top 50, top 51, top 52, top 53] } }
noncomputable abbrev HK : Hook := kHook KK KA KE
noncomputable abbrev XQ : Shared → Bool := fun s => xlAt Q0 [] s && recOk [] s
noncomputable abbrev OE (w : World) : Option Shared := openEnds treeTable PySem.Challenge.pw_oneend_s01_answers w 4110
noncomputable abbrev OS (s : Shared) := openSeen Q0 [] (importedModules PySem.Challenge.pw_oneend_s01_answers.main.body) XQ true s
section
open PySem.Calls PyProof.Rows
theorem map_pair {S A B : Type} {o : Option S} {f : S → A} {g : S → B} {a : A} {b : B} (h1 : o.map f = some a) (h2 : o.map g = some b) : o.map (fun s => (f s, g s)) = some (a, b) := by
  cases o with
  | none => cases h1
  | some s =>
    have e1 : f s = a := Option.some.inj h1
    have e2 : g s = b := Option.some.inj h2
    rw [← e1, ← e2]
    rfl
theorem map_one {S A B : Type} {o : Option S} {f : S → A} {g : S → B} {a : A} {b : B} (h : o.map (fun s => (f s, g s)) = some (a, b)) : o.map f = some a := by
  cases o with
  | none => cases h
  | some s => exact congrArg some (Prod.mk.inj (Option.some.inj h)).1
theorem map_two {S A B : Type} {o : Option S} {f : S → A} {g : S → B} {a : A} {b : B} (h : o.map (fun s => (f s, g s)) = some (a, b)) : o.map g = some b := by
  cases o with
  | none => cases h
  | some s => exact congrArg some (Prod.mk.inj (Option.some.inj h)).2
set_option maxHeartbeats 0 in
theorem leftD : ∀ w, (OE w).map (fun s => ((OS s).2.2.1)) = some (true) := fun w => by kernel_rfl
set_option maxHeartbeats 0 in
theorem leftC : ∀ w, (OE w).map (fun s => ((OS s).2.2.2.2.2.1)) = some (plainGoodE Q0 (looseW Q0 [])) := fun w => by kernel_rfl
set_option maxHeartbeats 0 in
theorem leftB : ∀ w, (OE w).map (fun s => ((OS s).2.2.2.1, (OS s).2.2.2.2.2.2.2.1)) = some (true, wideGood Q0) := fun w => by kernel_rfl
set_option maxHeartbeats 0 in
theorem leftA : ∀ w, (OE w).map (fun s => ((OS s).1, (OS s).2.1, (OS s).2.2.2.2.1, (OS s).2.2.2.2.2.2.1, (OS s).2.2.2.2.2.2.2.2, Hook.obs HK s)) = some ((openGood Q0 []).1, bltViewBooted, pinGoodD (drecsOf Q0), plainGoodD Q0 [], clsGoodW Q0 [], Hook.val HK w) := fun w => by kernel_rfl
theorem look_2 (w : World) : (OE w).map (fun s => (OS s).2.2.1) = some (true) := leftD w
theorem look_5 (w : World) : (OE w).map (fun s => (OS s).2.2.2.2.2.1) = some (plainGoodE Q0 (looseW Q0 [])) := leftC w
theorem look_3 (w : World) : (OE w).map (fun s => (OS s).2.2.2.1) = some (true) := map_one (leftB w)
theorem look_7 (w : World) : (OE w).map (fun s => (OS s).2.2.2.2.2.2.2.1) = some (wideGood Q0) := map_two (leftB w)
theorem look_0 (w : World) : (OE w).map (fun s => (OS s).1) = some ((openGood Q0 []).1) := map_one (leftA w)
theorem look_1 (w : World) : (OE w).map (fun s => (OS s).2.1) = some (bltViewBooted) := map_one (map_two (leftA w))
theorem look_4 (w : World) : (OE w).map (fun s => (OS s).2.2.2.2.1) = some (pinGoodD (drecsOf Q0)) := map_one (map_two (map_two (leftA w)))
theorem look_6 (w : World) : (OE w).map (fun s => (OS s).2.2.2.2.2.2.1) = some (plainGoodD Q0 []) := map_one (map_two (map_two (map_two (leftA w))))
theorem look_8 (w : World) : (OE w).map (fun s => (OS s).2.2.2.2.2.2.2.2) = some (clsGoodW Q0 []) := map_one (map_two (map_two (map_two (map_two (leftA w)))))
theorem look_h (w : World) : (OE w).map (fun s => Hook.obs HK s) = some (Hook.val HK w) := map_two (map_two (map_two (map_two (map_two (leftA w)))))
theorem left : LeftO PySem.Challenge.pw_oneend_s01_answers Q0 [] (fun s => xlAt Q0 [] s && recOk [] s) (Hook.obs HK) (Hook.val HK) 4110 := fun w => map_pair (f := OS) (map_pair (look_0 w) (map_pair (look_1 w) (map_pair (look_2 w) (map_pair (look_3 w) (map_pair (look_4 w) (map_pair (look_5 w) (map_pair (look_6 w) (map_pair (look_7 w) (look_8 w))))))))) (look_h w)
end
end Pr
set_option Elab.async false
set_option linter.all false
set_option maxRecDepth 100000
/-! THE HAND LAYER, for ints, bools, texts, own classes, lists, tuples, dicts, comprehensions, walks over dicts, enumerate, zip, reversed, texts, calls, loops. Paste it whole ahead of your own text; what your proof does not reach may be deleted. -/
namespace L2
open PySem PySem.Spec PyProof.Rows

/-- a key: an int or a str -/
abbrev Key := Sum Int Str
def keyIs : Key → Value → Bool
  | .inl k, v => Value.isInt k v
  | .inr x, v => Value.isStrOf x v
def keyH (w : World) : Key → Int
  | .inl k => hashInt k
  | .inr x => hashStr w x
theorem keyIs_shape : ∀ {k : Key} {v : Value}, keyIs k v = true → (∃ i t, k = Sum.inl i ∧ v = Value.int i t) ∨ (∃ x t, k = Sum.inr x ∧ v = Value.str x t)
  | .inl i, v, h => by
    obtain ⟨t, e⟩ := Value.isInt_shape (k := i) (v := v) h
    exact .inl ⟨i, t, rfl, e⟩
  | .inr x, v, h => by
    obtain ⟨t, e⟩ := Value.isStrOf_shape (x := x) (v := v) h
    exact .inr ⟨x, t, rfl, e⟩
theorem keyIs_int (i : Int) (t : Tok) : keyIs (.inl i) (.int i t) = true := by simp [keyIs, Value.isInt]
theorem keyIs_str (x : Str) (t : Tok) : keyIs (.inr x) (.str x t) = true := by simp [keyIs, Value.isStrOf]
theorem key_ll (a b : Int) : decide ((Sum.inl a : Key) = Sum.inl b) = (a == b) := by
  by_cases e : a = b
  · subst e; simp
  · have h : ¬ (Sum.inl a : Key) = Sum.inl b := fun q => e (Sum.inl.inj q)
    rw [decide_eq_false h]
    exact (beq_eq_false_iff_ne.mpr e).symm
theorem key_rr (a b : Str) : decide ((Sum.inr a : Key) = Sum.inr b) = decide (a = b) := by
  by_cases e : a = b
  · subst e; simp
  · have h : ¬ (Sum.inr a : Key) = Sum.inr b := fun q => e (Sum.inr.inj q)
    rw [decide_eq_false h, decide_eq_false e]
theorem key_lr (a : Int) (b : Str) : decide ((Sum.inl a : Key) = Sum.inr b) = false := decide_eq_false (fun q => nomatch q)
theorem key_rl (a : Str) (b : Int) : decide ((Sum.inr a : Key) = Sum.inl b) = false := decide_eq_false (fun q => nomatch q)

def mixKind (prog : Program) (w : World) : PySem.KeyKind prog w Key where
  is := keyIs
  hash := keyH w
  inj := fun v a b ha hb => by
    rcases keyIs_shape ha with ⟨i, t, rfl, rfl⟩ | ⟨x, t, rfl, rfl⟩
    · rcases keyIs_shape hb with ⟨j, u, rfl, e⟩ | ⟨y, u, rfl, e⟩
      · injection e with e1 _; rw [e1]
      · exact nomatch e
    · rcases keyIs_shape hb with ⟨j, u, rfl, e⟩ | ⟨y, u, rfl, e⟩
      · exact nomatch e
      · injection e with e1 _; rw [e1]
  byValue := fun k v h => by
    rcases keyIs_shape h with ⟨i, t, rfl, rfl⟩ | ⟨x, t, rfl, rfl⟩ <;> rfl
  pyHash := fun hv h => by
    rcases keyIs_shape hv with ⟨i, t, rfl, rfl⟩ | ⟨x, t, rfl, rfl⟩
    · exact wpAny_pyHash_int h
    · exact wpAny_pyHash_str h
  eqBool := fun hu hv h => by
    rcases keyIs_shape hu with ⟨i, t, rfl, rfl⟩ | ⟨x, t, rfl, rfl⟩
    · rcases keyIs_shape hv with ⟨j, u, rfl, rfl⟩ | ⟨y, u, rfl, rfl⟩
      · rw [key_ll] at h; exact wpAny_eqBool_int h
      · rw [key_lr] at h; exact SeqAt.EqAt.int_str i t y u _ _ _ _ h
    · rcases keyIs_shape hv with ⟨j, u, rfl, rfl⟩ | ⟨y, u, rfl, rfl⟩
      · rw [key_rl] at h; exact SeqAt.EqAt.str_int x t j u _ _ _ _ h
      · rw [key_rr] at h; exact wpAny_eqBool_str h
  «strs» := fun k x t v h => by
    rcases keyIs_shape h with ⟨i, u, rfl, e⟩ | ⟨y, u, rfl, e⟩
    · exact nomatch e
    · injection e with e1 _
      subst e1
      cases v <;> rfl

theorem mixKind_int (prog : Program) (w : World) (i : Int) (t : Tok) : (mixKind prog w).is (.inl i) (.int i t) = true := keyIs_int i t
theorem mixKind_str (prog : Program) (w : World) (x : Str) (t : Tok) : (mixKind prog w).is (.inr x) (.str x t) = true := keyIs_str x t
end L2

namespace L2
open PySem PySem.Spec PyProof.Rows

/-- a value, without the heap -/
inductive V where
  | non | bl (b : Bool) | int (i : Int) | str (x : Str) | byt (b : Array UInt8) | flt (b : UInt64) | ref (a : Addr) | ty (n : String)
  deriving DecidableEq

def RelV : V → Value → Prop
  | .non, u => u = Value.none
  | .bl b, u => u = Value.bool b
  | .int i, u => ∃ t, u = Value.int i t
  | .str x, u => ∃ t, u = Value.str x t
  | .byt b, u => ∃ t, u = Value.bytes b t
  | .flt b, u => ∃ t, u = Value.float b t
  | .ref a, u => u = Value.ref a
  | .ty n, u => u = Value.type n

abbrev Vals : List V → List Value → Prop := Paired RelV
theorem Vals.length {xs : List V} {us : List Value} (r : Vals xs us) : xs.length = us.length := Paired.length r
theorem Vals.get : ∀ {xs : List V} {us : List Value} {i : Nat} {x : V}, Vals xs us → xs[i]? = some x → ∃ u, us[i]? = some u ∧ RelV x u
  | _, _, _, _, .nil, e => by simp at e
  | _, _, 0, _, .cons r _, e => by simp at e; subst e; exact ⟨_, rfl, r⟩
  | _, _, i + 1, x, .cons _ t, e => by
    obtain ⟨u, h1, h2⟩ := Vals.get (i := i) (x := x) t (by simpa using e)
    exact ⟨u, by simpa using h1, h2⟩
theorem Vals.append : ∀ {xs ys : List V} {us ws : List Value}, Vals xs us → Vals ys ws → Vals (xs ++ ys) (us ++ ws)
  | _, _, _, _, .nil, s => s
  | _, _, _, _, .cons r t, s => .cons r (Vals.append t s)
theorem Vals.take : ∀ {xs : List V} {us : List Value} (n : Nat), Vals xs us → Vals (xs.take n) (us.take n)
  | _, _, 0, _ => .nil
  | _, _, _ + 1, .nil => .nil
  | _, _, n + 1, .cons r t => .cons r (Vals.take n t)
theorem Vals.drop : ∀ {xs : List V} {us : List Value} (n : Nat), Vals xs us → Vals (xs.drop n) (us.drop n)
  | _, _, 0, r => r
  | _, _, _ + 1, .nil => .nil
  | _, _, n + 1, .cons _ t => Vals.drop n t
def RelO : Option V → Option Value → Prop
  | some v, some u => RelV v u
  | none, none => True
  | _, _ => False
def KV {κ : Type} : List (κ × V) → List (κ × Value) → Prop := Paired fun (p : κ × V) (q : κ × Value) => p.1 = q.1 ∧ RelV p.2 q.2

/-- a key of a dict (00_mix): an int or a text -/
def kV : Key → V
  | .inl i => .int i
  | .inr x => .str x

/-- what stands at a tracked address -/
inductive HO where
  /-- a list -/
  | lst (xs : List V)
  /-- a tuple (never changes) -/
  | tup (xs : List V)
  /-- a dict whose keys are ints and texts; one whose keys are tuples of ints and texts (the empty one is both) -/
  | dK (kvs : List (Key × V)) | dT (kvs : List (List Key × V))
  /-- a set of ints: its members, its size -/
  | set (S : Int → Bool) (n : Nat)
  /-- an instance of the class at C, its dict at dx, its attributes -/
  | ins (C dx : Addr) (fs : List (Str × V))
  /-- the dict of the instance at x -/
  | own (x : Addr)
  /-- the dict of an exception -/
  | xd (fs : List (Str × V))
  /-- a bound method, f of x -/
  | met (f x : Addr)
  /-- a range object lo, lo + 1, .. below hi -/
  | rng (lo hi : Int)
  /-- a thing that is known to the object (the script; a dict while a loop walks it): read, never written while it is so -/
  | frz (o : Obj) (u : HO)
  /-- a code object's table -/
  | tbl (ps : Array Value)
  /-- any other thing, by what is true of its one object (a def of one's own: SetO a S n := HO.ext fun h => ..) -/
  | ext (φ : Heap → Prop)

abbrev Hp := Addr → Option HO
def upd (H : Hp) (a : Addr) (o : HO) : Hp := fun b => if b = a then some o else H b
theorem upd_same {H : Hp} {a : Addr} {o : HO} : upd H a o a = some o := by unfold upd; rw [if_pos rfl]
theorem upd_ne {H : Hp} {a b : Addr} {o : HO} (h : b ≠ a) : upd H a o b = H b := by unfold upd; rw [if_neg h]
theorem upd_upd {H : Hp} {a : Addr} {o u : HO} : upd (upd H a o) a u = upd H a u := by
  funext b; unfold upd; split <;> rfl
/-- two objects of different content stand apart -/
theorem ne_of {H : Hp} {a b : Addr} {o u : HO} (h : H a = some o) (h' : H b = some u) (d : o ≠ u) : a ≠ b := by
  intro e; subst e; rw [h] at h'; exact d (Option.some.inj h')
theorem ne_of_none {H : Hp} {a b : Addr} {o : HO} (h : H a = some o) (h' : H b = none) : a ≠ b := by
  intro e; subst e; rw [h] at h'; cases h'

section
variable (P : Program) (w : World)
def ObjOk (H : Hp) (h : Heap) (a : Addr) : HO → Prop
  | .lst xs => xs.length ≤ sizeLine ∧ ∃ (its : List Value) (n : Nat), Vals xs its ∧ h.get? a = some { cls := .type "list", data := .seq its.toArray n }
  | .tup xs => xs.length ≤ sizeLine ∧ ∃ its : List Value, Vals xs its ∧ IsTup h a its.toArray
  | .dK kvs => kvs.length ≤ sizeLine ∧ (a == sysModules) = false ∧ ∃ vs, KV kvs vs ∧ h.DictOf (mixKind P w) a vs
  | .dT kvs => kvs.length ≤ sizeLine ∧ (a == sysModules) = false ∧ ∃ xs : List (List Key × Addr × Value),
      Paired (fun (p : List Key × V) (q : List Key × Addr × Value) => p.1 = q.1 ∧ H q.2.1 = some (.tup (p.1.map kV)) ∧ RelV p.2 q.2.2) kvs xs ∧
      ∃ o es ep, h.get? a = some o ∧ o.ExactDict ∧ o.data = .dict es ep ∧ es.toList = xs.map (entryOfKey (tupleKind (mixKind P w))) ∧ (xs.map (·.1)).Nodup
  | .set S n => h.SetOf (intKind P w) a S n
  | .ins C dx fs => H dx = some (.own a) ∧ fs.length ≤ 1000 ∧ dx ≠ a ∧ h.get? a = some (PySem.W.instObj C dx) ∧
      ∃ mA, h.Ns1 dx mA ∧ (∀ f, RelO (fs.lookup f) (mA f)) ∧ PySem.Within mA (fs.map (·.1))
  | .own _ => ∃ o, h.get? a = some o
  | .xd fs => ∃ mA, h.Ns1 a mA ∧ ∀ f, RelO (fs.lookup f) (mA f)
  | .rng lo hi => ∃ t u v, h.get? a = some { cls := .type "range", data := .fields #[.int lo t, .int hi u, .int 1 v] }
  | .frz o u => h.get? a = some o ∧ ObjOk H h a u
  | .tbl ps => h.get? a = some { cls := .none, data := .fields ps }
  | .met f x => h.get? a = some (PySem.W.methodObj (.ref f) (.ref x))
  | .ext φ => φ h ∧ (∃ o, h.get? a = some o) ∧ ∀ h1 h2 : Heap, φ h1 → (∀ o, h1.get? a = some o → h2.get? a = some o) → φ h2
/-- the abstract heap is held -/
def HOk (H : Hp) (h : Heap) : Prop := ∀ a o, H a = some o → ObjOk P w H h a o
end

section
variable {P : Program} {w : World} {H H' : Hp} {h h' : Heap} {a : Addr} {o : HO}
theorem ObjOk.lt (x : ObjOk P w H h a o) : a < h.objs.size := by
  cases o with
  | lst xs => obtain ⟨_, _, _, _, e⟩ := x; exact Heap.lt_size e
  | tup xs => obtain ⟨_, _, _, p⟩ := x; exact p.lt
  | dK kvs => obtain ⟨_, _, _, _, o, _, _, e, _⟩ := x; exact Heap.lt_size e
  | dT kvs => obtain ⟨_, _, _, _, o, _, _, e, _⟩ := x; exact Heap.lt_size e
  | set S n => obtain ⟨o, _, _, _, e, _⟩ := x; exact Heap.lt_size e
  | ins C dx fs => obtain ⟨_, _, _, e, _⟩ := x; exact Heap.lt_size e
  | own y => obtain ⟨_, e⟩ := x; exact Heap.lt_size e
  | xd fs => obtain ⟨_, ⟨_, _, _, e, _⟩, _⟩ := x; exact Heap.lt_size e
  | rng lo hi => obtain ⟨_, _, _, e⟩ := x; exact Heap.lt_size e
  | frz ob u => obtain ⟨e, _⟩ := x; exact Heap.lt_size e
  | tbl ps => exact Heap.lt_size (show h.get? a = some _ from x)
  | met f y => exact Heap.lt_size (show h.get? a = some _ from x)
  | ext φ => obtain ⟨_, ⟨_, e⟩, _⟩ := x; exact Heap.lt_size e
theorem Paired.mapP {α β : Type} {F G : α → β → Prop} : ∀ {l₁ : List α} {l₂ : List β}, Paired F l₁ l₂ → (∀ a b, F a b → G a b) → Paired G l₁ l₂
  | _, _, .nil, _ => .nil
  | _, _, .cons r t, f => .cons (f _ _ r) (Paired.mapP t f)
/-- what an object's description leans on: its own object, its own dict, the tuples -/
theorem ObjOk.stay (x : ObjOk P w H h a o) (k : ∀ b u, (b = a ∨ H b = some (.own a)) → h.get? b = some u → h'.get? b = some u)
    (ho : ∀ b, H b = some (.own a) → H' b = some (.own a)) (ht : ∀ b xs, H b = some (.tup xs) → H' b = some (.tup xs)) : ObjOk P w H' h' a o := by
  induction o with
  | lst xs => obtain ⟨z, its, n, r, e⟩ := x; exact ⟨z, its, n, r, k _ _ (.inl rfl) e⟩
  | tup xs => obtain ⟨z, its, r, ob, e, c⟩ := x; exact ⟨z, its, r, ob, k _ _ (.inl rfl) e, c⟩
  | dK kvs => obtain ⟨z, y, vs, r, ob, es, ep, e, c⟩ := x; exact ⟨z, y, vs, r, ob, es, ep, k _ _ (.inl rfl) e, c⟩
  | dT kvs =>
    obtain ⟨z, y, xs, r, ob, es, ep, e, c⟩ := x
    exact ⟨z, y, xs, Paired.mapP r fun p q z => ⟨z.1, ht _ _ z.2.1, z.2.2⟩, ob, es, ep, k _ _ (.inl rfl) e, c⟩
  | set S n => obtain ⟨ob, es, ep, t, e, c⟩ := x; exact ⟨ob, es, ep, t, k _ _ (.inl rfl) e, c⟩
  | ins C dx fs =>
    obtain ⟨d, z, ne, e, mA, ⟨od, es, ep, e2, c⟩, r⟩ := x
    exact ⟨ho _ d, z, ne, k _ _ (.inl rfl) e, mA, ⟨od, es, ep, k _ _ (.inr d) e2, c⟩, r⟩
  | own y => obtain ⟨ob, e⟩ := x; exact ⟨ob, k _ _ (.inl rfl) e⟩
  | xd fs => obtain ⟨mA, ⟨od, es, ep, e, c⟩, r⟩ := x; exact ⟨mA, ⟨od, es, ep, k _ _ (.inl rfl) e, c⟩, r⟩
  | rng lo hi => obtain ⟨t, u, v, e⟩ := x; exact ⟨t, u, v, k _ _ (.inl rfl) e⟩
  | frz ob u ih => obtain ⟨e, q⟩ := x; exact ⟨k _ _ (.inl rfl) e, ih q⟩
  | tbl ps =>
    have e : h.get? a = some { cls := .none, data := .fields ps } := x
    show h'.get? a = some { cls := .none, data := .fields ps }
    exact k a _ (.inl rfl) e
  | met f y =>
    have e : h.get? a = some (PySem.W.methodObj (.ref f) (.ref y)) := x
    show h'.get? a = some (PySem.W.methodObj (.ref f) (.ref y))
    exact k a _ (.inl rfl) e
  | ext φ => obtain ⟨p, ⟨o, e⟩, st⟩ := x; exact ⟨st _ _ p fun o q => k _ _ (.inl rfl) q, ⟨o, k _ _ (.inl rfl) e⟩, st⟩
theorem HOk.lt (x : HOk P w H h) (e : H a = some o) : a < h.objs.size := (x a o e).lt
theorem HOk.fresh (x : HOk P w H h) (e : h.objs.size ≤ a) : H a = none := by
  cases q : H a with
  | none => rfl
  | some u => exact absurd (Nat.lt_of_lt_of_le (x.lt q) e) (Nat.lt_irrefl _)
/-- every object of the heap is kept -/
theorem HOk.kept (x : HOk P w H h) (k : ∀ b u, h.get? b = some u → h'.get? b = some u) : HOk P w H h' := fun a o e =>
  (x a o e).stay (fun b u _ q => k b u q) (fun _ q => q) fun _ _ q => q
/-- a new object is laid and tracked -/
theorem HOk.laid (x : HOk P w H h) (k : ∀ b u, h.get? b = some u → h'.get? b = some u) (hp : h.objs.size ≤ a) (new : ObjOk P w (upd H a o) h' a o) : HOk P w (upd H a o) h' := fun b u e => by
  have hn := x.fresh hp
  by_cases hb : b = a
  · subst hb; rw [upd_same] at e; cases e; exact new
  · rw [upd_ne hb] at e
    exact (x b u e).stay (fun c v _ q => k c v q) (fun c q => by rw [upd_ne (ne_of_none q hn)]; exact q) fun c xs q => by rw [upd_ne (ne_of_none q hn)]; exact q
end

/-- what may be read as u: it is u, or a known u -/
def Rd (H : Hp) (a : Addr) (u : HO) : Prop := H a = some u ∨ ∃ o, H a = some (.frz o u)
theorem Rd.ok {P : Program} {w : World} {H : Hp} {h : Heap} {a : Addr} {u : HO} (r : Rd H a u) (x : HOk P w H h) : ObjOk P w H h a u := by
  rcases r with r | ⟨o, r⟩
  · exact x a u r
  · obtain ⟨_, q⟩ := x a _ r
    exact q
/-- what may be written -/
def Mut : Option HO → Prop
  | some (.lst _) => True
  | some (.dK _) => True
  | some (.dT _) => True
  | some (.set _ _) => True
  | some (.ins _ _ _) => True
  | some (.ext _) => True
  | _ => False
section
variable {P : Program} {w : World} {H : Hp} {h h' : Heap} {x e : Addr} {o' : HO}
/-- the object at e is changed: x itself, or the dict of the instance x -/
theorem HOk.write (ok : HOk P w H h) (mu : Mut (H x)) (he : e = x ∨ H e = some (.own x)) (k : ∀ b u, b ≠ e → h.get? b = some u → h'.get? b = some u) (heo : ∃ u, h'.get? e = some u)
    (new : ObjOk P w (upd H x o') h' x o') : HOk P w (upd H x o') h' := fun b u q => by
  have nown : ∀ c y, H c = some (.own y) → c ≠ x := fun c y r z => by subst z; rw [r] at mu; exact mu
  have ntup : ∀ c xs, H c = some (.tup xs) → c ≠ x := fun c xs r z => by subst z; rw [r] at mu; exact mu
  by_cases hb : b = x
  · subst hb; rw [upd_same] at q; cases q; exact new
  · rw [upd_ne hb] at q
    by_cases hbe : b = e
    · have q' : H b = some (.own x) := by
        rcases he with z | z
        · exact absurd (hbe.trans z) hb
        · rw [hbe]; exact z
      rw [q] at q'; cases q'
      obtain ⟨v, hv⟩ := heo
      exact ⟨v, by rw [hbe]; exact hv⟩
    · refine (ok b u q).stay (fun c v hc r => k c v ?_ r) (fun c r => by rw [upd_ne (nown c b r)]; exact r) fun c xs r => by rw [upd_ne (ntup c xs r)]; exact r
      rcases hc with rfl | hc
      · exact hbe
      · rintro rfl
        rcases he with z | z
        · exact nown c b hc z
        · rw [hc] at z; cases z; exact hb rfl
end

/-! ### kept unless tracked; of the frames at fs (the callers') the slots may change (an exception that passes writes there); of the records at ex (iterators) nothing is said -/
structure Un (fs ex : List Addr) (H H' : Hp) (h h' : Heap) : Prop where
  keep : ∀ b o, h.get? b = some o → H b = none → b ∉ fs → b ∉ ex → h'.get? b = some o
  slot : ∀ b o, h.get? b = some o → H b = none → b ∈ fs → b ∉ ex → ∃ sl, h'.get? b = some { o with slots := sl }
  free : ∀ b o, h.get? b = some o → H b = none → b ∉ ex → H' b = none
  there : ∀ b o, h.get? b = some o → b ∉ ex → ∃ o', h'.get? b = some o'
  tups : ∀ b xs, H b = some (.tup xs) → H' b = some (.tup xs)
  frzs : ∀ b o u, H b = some (.frz o u) → H' b = some (.frz o u)
  tbls : ∀ b ps, H b = some (.tbl ps) → ∃ more, H' b = some (.tbl (ps ++ more))
section
variable {fs fs' ex ex' : List Addr} {H H1 H2 : Hp} {h h1 h2 h' : Heap} {a x e : Addr} {o : HO}
theorem Un.any (u : Un fs ex H H1 h h1) {b : Addr} {ob : Obj} (q : h.get? b = some ob) (n : H b = none) (hx : b ∉ ex) : ∃ sl, h1.get? b = some { ob with slots := sl } := by
  by_cases hb : b ∈ fs
  · exact u.slot b ob q n hb hx
  · exact ⟨ob.slots, u.keep b ob q n hb hx⟩
theorem Un.kept (k : ∀ b u, h.get? b = some u → h'.get? b = some u) : Un fs ex H H h h' :=
  ⟨fun b ob q _ _ _ => k b ob q, fun b ob q _ _ _ => ⟨ob.slots, k b ob q⟩, fun _ _ _ n _ => n, fun b ob q _ => ⟨ob, k b ob q⟩, fun _ _ q => q, fun _ _ _ q => q, fun _ ps q => ⟨#[], by rw [q]; simp⟩⟩
theorem Un.refl : Un fs ex H H h h := Un.kept fun _ _ q => q
theorem Un.laid (k : ∀ b u, h.get? b = some u → h'.get? b = some u) (hp : h.objs.size ≤ a) (hn : H a = none) : Un fs ex H (upd H a o) h h' where
  keep := fun b u q _ _ _ => k b u q
  slot := fun b u q _ _ _ => ⟨u.slots, k b u q⟩
  free := fun b u q n _ => by rw [upd_ne (Nat.ne_of_lt (Nat.lt_of_lt_of_le (Heap.lt_size q) hp))]; exact n
  there := fun b u q _ => ⟨u, k b u q⟩
  tups := fun b xs q => by rw [upd_ne (ne_of_none q hn)]; exact q
  frzs := fun b u xs q => by rw [upd_ne (ne_of_none q hn)]; exact q
  tbls := fun b ps q => ⟨#[], by rw [upd_ne (ne_of_none q hn), q]; simp⟩
theorem Un.write (mu : Mut (H x)) (he : e = x ∨ H e = some (.own x)) (k : ∀ b u, b ≠ e → h.get? b = some u → h'.get? b = some u) (heo : ∃ u, h'.get? e = some u) : Un fs ex H (upd H x o) h h' := by
  have hx : ∀ b, H b = none → b ≠ x := fun b n z => by subst z; rw [n] at mu; exact mu
  have hb : ∀ b, H b = none → b ≠ e := fun b n z => by
    subst z
    rcases he with r | r
    · exact hx b n r
    · rw [n] at r; cases r
  have hm : ∀ b u, H b = some u → ¬ Mut (some u) → b ≠ x := fun b u q nm z => by subst z; rw [q] at mu; exact nm mu
  refine ⟨fun b u q n _ _ => k b u (hb b n) q, fun b u q n _ _ => ⟨u.slots, k b u (hb b n) q⟩, fun b u q n _ => by rw [upd_ne (hx b n)]; exact n, fun b u q _ => ?_,
    fun b xs q => by rw [upd_ne (hm b _ q fun z => z)]; exact q, fun b u xs q => by rw [upd_ne (hm b _ q fun z => z)]; exact q, fun b ps q => ⟨#[], by rw [upd_ne (hm b _ q fun z => z), q]; simp⟩⟩
  by_cases hbe : b = e
  · subst hbe; exact heo
  · exact ⟨u, k b u hbe q⟩
end

/-! ### the heap without what is tracked -/
def trk (h : Heap) (H : Hp) : List Addr := (List.range h.objs.size).filter fun a => (H a).isSome
def hidT (h : Heap) (H : Hp) : Heap := PySem.W.hideAll h (trk h H)
theorem hidT_size (h : Heap) (H : Hp) : (hidT h H).objs.size = h.objs.size := PySem.W.hideAll_size _ _
theorem hidT_get {h : Heap} {H : Hp} {b : Addr} {o : Obj} (e : h.get? b = some o) (n : H b = none) : (hidT h H).get? b = some o :=
  PySem.W.hideAll_get _ e fun hm => by
    have q : (H b).isSome = true := (List.mem_filter.mp hm).2
    rw [n] at q; simp at q
theorem of_hidT {h : Heap} {H : Hp} {b : Addr} {o : Obj} (e : (hidT h H).get? b = some o) : h.get? b = some o ∧ H b = none := by
  have e' : h.get? b = some o := PySem.W.of_hideAll (trk h H) e
  refine ⟨e', ?_⟩
  cases q : H b with
  | none => rfl
  | some x =>
    have hm : b ∈ trk h H := List.mem_filter.mpr ⟨List.mem_range.mpr (Heap.lt_size e'), by simp [q]⟩
    have z : (hidT h H).get? b = none := PySem.W.hideAll_none (trk h H) hm
    rw [z] at e; cases e

/-! ### OpenK's ledger, filled with every new object but one -/
end L2

namespace L2
open PySem PySem.Spec PyProof.Rows

/-- the module's facts, over the base: the heap at the law's entry without what is tracked there -/
structure Mod (K : PySem.W.Frag) (mg : Str → Option Value) (base : Heap) : Prop where
  kin : K.In base
  glob : base.Ns mainGlobals mg
  blt : ∃ mb, base.Ns builtinsNs mb ∧ ∀ x : Str, x ≠ "__name__" → mb x = bootBuiltins x
  nolimit : base.NoLimit

/-- the context: a def's body (or a comprehension's block) running. base: fixed through the whole law; s₀, H₀: the entry; outer: the frames whose slots others may change (a def's callers); stack: all frames that run;
   ex: iterators that were made ahead of the entry and are walked here (a comprehension's); fn: the names whose cells were made at the entry (a def: all; a comprehension's block: its own); calm: not within an except suite; pn: pins that every state bears; xe: what is wanted of an exception that leaves the code -/
structure Cx where
  prog : Program
  w : World
  K : PySem.W.Frag
  mg : Str → Option Value
  base : Heap
  A : Around
  N : List Str
  s₀ : Shared
  H₀ : Hp
  env : Env
  outer : List Env
  stack : List Env
  ex : List Addr
  fn : Str → Bool
  calm : Bool
  pn : List (Addr × Obj)
  xe : Value → Shared → Prop
/-- the callers' frames -/
def frs (l : List Env) : List Addr := l.filterMap (·.frame)
abbrev Cx.fs (X : Cx) : List Addr := frs X.outer

def Vis (sc : Scope) (x : Str) : Prop := sc.names.lookup x = some .local ∨ sc.names.lookup x = some .cell ∨ sc.names.lookup x = some .free
def Loc (sc : Scope) (x : Str) : Prop := sc.names.lookup x = some .local ∨ sc.names.lookup x = some .cell
def Look (env : Env) (h : Heap) (m : Str → Option Value) (x : Str) (u : Value) : Prop :=
  (env.kindOf x = some .local ∧ m x = some u) ∨ ((env.kindOf x = some .cell ∨ env.kindOf x = some .free) ∧ ∃ c, env.cells.lookup x = some c ∧ h.IsCell c (some u))

structure Cx.Ok (X : Cx) : Prop where
  mod : Mod X.K X.mg X.base
  kind : X.env.scope.kind = .function
  glob : X.env.globals = mainGlobals
  blt : X.env.builtins = builtinsNs
  above : X.s₀.heap.objs.size ≤ X.env.locals
  inj : ∀ x y c, X.env.cells.lookup x = some c → X.env.cells.lookup y = some c → x = y
  has : ∀ x, (X.env.kindOf x = some .cell ∨ X.env.kindOf x = some .free) → ∃ c, X.env.cells.lookup x = some c
  cab : ∀ x c, X.fn x = true → X.env.cells.lookup x = some c → X.s₀.heap.objs.size ≤ c
  hd : X.calm = true → X.A.handled = none
  frames : X.A.frames = some X.stack
  stk : X.stack = X.outer ∨ (X.stack = X.env :: X.outer ∧ X.env.frame = some X.env.locals)
  exf : ∀ b ∈ X.ex, b ≠ X.env.locals ∧ ∀ x c, X.env.cells.lookup x = some c → c ≠ b
  bs : ∀ b o, X.base.get? b = some o → X.s₀.heap.get? b = some o ∧ X.H₀ b = none
  bsz : X.base.objs.size ≤ X.s₀.heap.objs.size
  noex : ∀ b o, X.base.get? b = some o → b ∉ X.ex
  exfs : ∀ b ∈ X.ex, b ∉ X.fs
  funs : X.s₀.heap.FunFrames X.base X.outer
  frf : ∀ b ∈ X.fs, X.H₀ b = none

structure Inv (X : Cx) (pins : List (Addr × Obj)) (σ : List (Option V)) (H : Hp) (s : Shared) : Prop where
  ok : X.Ok
  os : s.os = X.s₀.os
  bare : AllBare s.gens
  base : Un X.fs X.ex X.H₀ H X.s₀.heap s.heap
  loc : ∃ m, s.heap.Ns X.env.locals m ∧ ∀ (i : Nat) (x : Str) (v : V), X.N[i]? = some x → σ[i]? = some (some v) → Vis X.env.scope x → ∃ u, RelV v u ∧ Look X.env s.heap m x u
  cell : ∀ x c, X.env.cells.lookup x = some c → ∃ v, s.heap.IsCell c v
  free : H X.env.locals = none
  freeC : ∀ x c, X.env.cells.lookup x = some c → H c = none
  pin : ∀ p ∈ X.pn ++ pins, s.heap.get? p.1 = some p.2 ∧ H p.1 = none ∧ p.1 ≠ X.env.locals ∧ p.1 ∉ X.fs ∧ ∀ v, p.2.data ≠ .cell v
  hok : HOk X.prog X.w H s.heap
  len : σ.length = X.N.length

section
variable {X : Cx} {pins : List (Addr × Obj)} {σ : List (Option V)} {H H' : Hp} {s : Shared} {h' : Heap}

theorem Cx.Ok.nofr (ok : X.Ok) {b : Addr} {o : Obj} (e : X.base.get? b = some o) : b ∉ X.fs := fun hb => by
  have := (ok.funs.mem hb).1
  rw [e] at this; cases this
theorem Inv.bs (I : Inv X pins σ H s) : ∀ b o, X.base.get? b = some o → s.heap.get? b = some o ∧ H b = none := fun b o e =>
  ⟨I.base.keep b o (I.ok.bs b o e).1 (I.ok.bs b o e).2 (I.ok.nofr e) (I.ok.noex b o e), I.base.free b o (I.ok.bs b o e).1 (I.ok.bs b o e).2 (I.ok.noex b o e)⟩
theorem Inv.bk (I : Inv X pins σ H s) : ∀ b o, X.base.get? b = some o → s.heap.get? b = some o := fun b o e => (I.bs b o e).1
theorem Inv.mod (I : Inv X pins σ H s) : Mod X.K X.mg X.base := I.ok.mod
theorem Inv.kIn (I : Inv X pins σ H s) : X.K.In s.heap := I.ok.mod.kin.keeps I.bk
theorem Inv.lt (I : Inv X pins σ H s) : X.env.locals < s.heap.objs.size := let ⟨_, hn, _⟩ := I.loc; hn.lt
theorem Inv.sz (I : Inv X pins σ H s) : X.s₀.heap.objs.size ≤ s.heap.objs.size := Nat.le_trans I.ok.above (Nat.le_of_lt I.lt)
theorem Inv.nofs (I : Inv X pins σ H s) {a : Addr} (h : s.heap.objs.size ≤ a) : a ∉ X.fs := fun hb => by
  obtain ⟨_, o, ho, _⟩ := I.ok.funs.mem hb
  exact absurd (Nat.lt_of_lt_of_le (Heap.lt_size ho) (Nat.le_trans I.sz h)) (Nat.lt_irrefl _)
theorem Inv.cne (I : Inv X pins σ H s) : ∀ x c, X.env.cells.lookup x = some c → c ≠ X.env.locals := fun x c e z => by
  obtain ⟨v, o, ho, hd⟩ := I.cell x c e
  obtain ⟨m, ⟨o', es, ep, ho', hd', _⟩, _⟩ := I.loc
  rw [z, ho'] at ho; cases ho; rw [hd'] at hd; cases hd
theorem Inv.funs (I : Inv X pins σ H s) : s.heap.FunFrames X.base X.outer := by
  have all : ∀ (l : List Env), (∀ b ∈ frs l, b ∈ X.fs) → X.s₀.heap.FunFrames X.base l → s.heap.FunFrames X.base l := by
    intro l
    induction l with
    | nil => intro _ _; trivial
    | cons env r ih =>
      intro hs hl
      obtain ⟨hk, ⟨L, o, hf, hn, ho, hd⟩, hr⟩ := hl
      have hL : L ∈ X.fs := hs L (by unfold frs; rw [List.filterMap_cons, hf]; exact List.mem_cons_self)
      obtain ⟨sl, e⟩ := I.base.slot L o ho (I.ok.frf L hL) hL fun z => I.ok.exfs L z hL
      exact ⟨hk, ⟨L, _, hf, hn, e, hd⟩, ih (fun b hb => hs b (by unfold frs; rw [List.filterMap_cons, hf]; exact List.mem_cons_of_mem _ hb)) hr⟩
  exact all X.outer (fun _ hb => hb) I.ok.funs

/-- the frames that run, for a call -/
theorem Inv.stack (I : Inv X pins σ H s) : s.heap.FunFrames X.base X.stack := by
  rcases I.ok.stk with e | ⟨e, hf⟩
  · rw [e]; exact I.funs
  · rw [e]
    obtain ⟨m, hn, _⟩ := I.loc
    refine .cons (by rw [I.ok.kind]; decide) hf hn ?_ I.funs
    exact Heap.get?_none_of_le (Nat.le_trans I.ok.bsz I.ok.above)
theorem Inv.stkSub (I : Inv X pins σ H s) : ∀ b ∈ frs X.stack, b ∈ X.env.locals :: X.fs := fun b hb => by
  rcases I.ok.stk with e | ⟨e, hf⟩
  · rw [e] at hb; exact List.mem_cons_of_mem _ hb
  · rw [e] at hb
    unfold frs at hb
    rw [List.filterMap_cons, hf] at hb
    exact hb
theorem Inv.stkFree (I : Inv X pins σ H s) : ∀ b ∈ frs X.stack, H b = none := fun b hb => by
  rcases List.mem_cons.mp (I.stkSub b hb) with e | hb
  · rw [e]; exact I.free
  · obtain ⟨_, o, ho, _⟩ := I.ok.funs.mem hb
    exact I.base.free b o ho (I.ok.frf b hb) fun z => I.ok.exfs b z hb

/-- THE STEP: the untracked objects but the frame and the records at ch are kept (the callers' frames up to slots), the frame's map is kept, the new abstract heap is held -/
theorem Inv.step {g' : Array GenState} {t' : Nat} {d' : Drawn} {ch : List Addr} (I : Inv X pins σ H s)
    (hch : ∀ b ∈ ch, (b ∈ X.ex ∨ X.s₀.heap.objs.size ≤ b) ∧ b ≠ X.env.locals ∧ (∀ x c, X.env.cells.lookup x = some c → c ≠ b) ∧ ∀ p ∈ X.pn ++ pins, p.1 ≠ b)
    (keep : ∀ b o, b ≠ X.env.locals → b ∉ X.fs → b ∉ ch → s.heap.get? b = some o → H b = none → h'.get? b = some o)
    (slot : ∀ b o, b ≠ X.env.locals → b ∈ X.fs → b ∉ ch → s.heap.get? b = some o → H b = none → ∃ sl, h'.get? b = some { o with slots := sl }) (free : ∀ b o, b ∉ ch → s.heap.get? b = some o → H b = none → H' b = none)
    (there : ∀ b o, b ∉ ch → s.heap.get? b = some o → ∃ o', h'.get? b = some o')
    (tups : ∀ b xs, H b = some (.tup xs) → H' b = some (.tup xs)) (frzs : ∀ b o u, H b = some (.frz o u) → H' b = some (.frz o u)) (tbls : ∀ b ps, H b = some (.tbl ps) → ∃ more, H' b = some (.tbl (ps ++ more)))
    (ns : ∀ m, s.heap.Ns X.env.locals m → h'.Ns X.env.locals m) (hok : HOk X.prog X.w H' h') (hg : AllBare g') :
    Inv X pins σ H' { s with heap := h', gens := g', drawn := d', toks := t' } := by
  have neL : ∀ b o, X.s₀.heap.get? b = some o → b ≠ X.env.locals := fun b o e => Nat.ne_of_lt (Nat.lt_of_lt_of_le (Heap.lt_size e) I.ok.above)
  have neC : ∀ b o, X.s₀.heap.get? b = some o → b ∉ X.ex → b ∉ ch := fun b o e hx hb => by
    rcases (hch b hb).1 with z | z
    · exact hx z
    · exact absurd (Nat.lt_of_lt_of_le (Heap.lt_size e) z) (Nat.lt_irrefl _)
  have cellK : ∀ x c, X.env.cells.lookup x = some c → ∀ v, s.heap.IsCell c v → h'.IsCell c v := fun x c e v ⟨o, ho, hd⟩ => by
    have nch : c ∉ ch := fun z => (hch c z).2.2.1 x c e rfl
    by_cases hc : c ∈ X.fs
    · obtain ⟨sl, q⟩ := slot c o (I.cne x c e) hc nch ho (I.freeC x c e)
      exact ⟨_, q, hd⟩
    · exact ⟨o, keep c o (I.cne x c e) hc nch ho (I.freeC x c e), hd⟩
  refine ⟨I.ok, I.os, hg, ⟨fun b o e n hb hx => ?_, fun b o e n hb hx => ?_, fun b o e n hx => ?_, fun b o e hx => ?_, fun b xs e => tups b xs (I.base.tups b xs e), fun b o xs e => frzs b o xs (I.base.frzs b o xs e), fun b ps e => ?_⟩, ?_, fun x c e => ?_, ?_, fun x c e => ?_, fun p hp => ?_, hok, I.len⟩
  · exact keep b o (neL b o e) hb (neC b o e hx) (I.base.keep b o e n hb hx) (I.base.free b o e n hx)
  · obtain ⟨sl, e1⟩ := I.base.slot b o e n hb hx
    obtain ⟨sl', e2⟩ := slot b _ (neL b o e) hb (neC b o e hx) e1 (I.base.free b o e n hx)
    exact ⟨sl', e2⟩
  · obtain ⟨o', e1⟩ := I.base.there b o e hx
    exact free b o' (neC b o e hx) e1 (I.base.free b o e n hx)
  · obtain ⟨o', e1⟩ := I.base.there b o e hx
    exact there b o' (neC b o e hx) e1
  · obtain ⟨m1, e1⟩ := I.base.tbls b ps e
    obtain ⟨m2, e2⟩ := tbls b _ e1
    exact ⟨m1 ++ m2, by rw [e2, Array.append_assoc]⟩
  · obtain ⟨m, hn, hl⟩ := I.loc
    refine ⟨m, ns m hn, fun i x v e1 e2 e3 => ?_⟩
    obtain ⟨u, r, l⟩ := hl i x v e1 e2 e3
    refine ⟨u, r, ?_⟩
    rcases l with l | ⟨k, c, e, z⟩
    · exact .inl l
    · exact .inr ⟨k, c, e, cellK x c e _ z⟩
  · obtain ⟨v, z⟩ := I.cell x c e
    exact ⟨v, cellK x c e v z⟩
  · obtain ⟨m, ⟨o, _, _, ho, _⟩, _⟩ := I.loc
    exact free _ o (fun z => (hch _ z).2.1 rfl) ho I.free
  · obtain ⟨v, o, ho, hd⟩ := I.cell x c e
    exact free c o (fun z => (hch c z).2.2.1 x c e rfl) ho (I.freeC x c e)
  · obtain ⟨e, n, ne, nf, d⟩ := I.pin p hp
    have nch : p.1 ∉ ch := fun z => (hch p.1 z).2.2.2 p hp rfl
    exact ⟨keep p.1 p.2 ne nf nch e n, free p.1 p.2 nch e n, ne, nf, d⟩
/-- .. where the frame's own object is kept too -/
theorem Inv.un {t' : Nat} (I : Inv X pins σ H s) (u : Un X.fs [] H H' s.heap h') (hok : HOk X.prog X.w H' h') : Inv X pins σ H' { s with heap := h', toks := t' } := by
  obtain ⟨m, ⟨o, es, ep, ho, r⟩, _⟩ := id I.loc
  obtain ⟨sl, hL⟩ := u.any ho I.free (by simp)
  exact I.step (g' := s.gens) (d' := s.drawn) (ch := []) (fun _ z => nomatch z) (fun b o _ hb _ e n => u.keep b o e n hb (by simp)) (fun b o _ hb _ e n => u.slot b o e n hb (by simp)) (fun b o _ e n => u.free b o e n (by simp)) (fun b o _ e => u.there b o e (by simp)) u.tups u.frzs u.tbls (fun m' hm => by
    obtain ⟨o', es', ep', ho', r'⟩ := hm
    rw [ho] at ho'; cases ho'
    exact ⟨_, es', ep', hL, r'⟩) hok I.bare
/-- behind a call (or a comprehension's block): the slots of this frame may have changed too, the records at ch may have turned -/
theorem Inv.call {g' : Array GenState} {t' : Nat} {d' : Drawn} {ch : List Addr} (I : Inv X pins σ H s) (u : Un (frs X.stack) ch H H' s.heap h') (hok : HOk X.prog X.w H' h') (hg : AllBare g')
    (hch : ∀ b ∈ ch, (b ∈ X.ex ∨ X.s₀.heap.objs.size ≤ b) ∧ b ≠ X.env.locals ∧ (∀ x c, X.env.cells.lookup x = some c → c ≠ b) ∧ ∀ p ∈ X.pn ++ pins, p.1 ≠ b) :
    Inv X pins σ H' { s with heap := h', gens := g', drawn := d', toks := t' } := by
  obtain ⟨m, ⟨o, es, ep, ho, r⟩, _⟩ := id I.loc
  obtain ⟨sl, hL⟩ := u.any ho I.free fun z => (hch _ z).2.1 rfl
  exact I.step (ch := ch) hch (fun b o hL hb hc e n => u.keep b o e n (fun z => (List.mem_cons.mp (I.stkSub b z)).elim hL hb) hc) (fun b o _ _ hc e n => u.any e n hc) (fun b o hc e n => u.free b o e n hc) (fun b o hc e => u.there b o e hc) u.tups u.frzs u.tbls (fun m' hm => by
    obtain ⟨o', es', ep', ho', r'⟩ := hm
    rw [ho] at ho'; cases ho'
    exact ⟨_, es', ep', hL, r'⟩) hok hg
/-- an untracked record of ours (an iterator) has turned -/
theorem Inv.turned {t' : Nat} {it : Addr} (I : Inv X pins σ H s) (k : ∀ b o, b ≠ it → s.heap.get? b = some o → h'.get? b = some o) (hn : H it = none) (hL : it ≠ X.env.locals)
    (h1 : it ∈ X.ex ∨ X.s₀.heap.objs.size ≤ it) (h2 : ∀ x c, X.env.cells.lookup x = some c → c ≠ it) (h3 : ∀ p ∈ X.pn ++ pins, p.1 ≠ it) : Inv X pins σ H { s with heap := h', toks := t' } := by
  have nit : ∀ b u, H b = some u → b ≠ it := fun b u e z => by rw [z, hn] at e; cases e
  refine I.step (g' := s.gens) (d' := s.drawn) (ch := [it]) (fun b hb => ?_) (fun b o _ _ hc e _ => k b o (fun z => hc (by simp [z])) e) (fun b o _ _ hc e _ => ⟨o.slots, k b o (fun z => hc (by simp [z])) e⟩) (fun _ _ _ _ n => n)
    (fun b o hc e => ⟨o, k b o (fun z => hc (by simp [z])) e⟩) (fun _ _ e => e) (fun _ _ _ e => e) (fun b ps e => ⟨#[], by rw [e]; simp⟩) (fun m hm => ?_) (fun b u e => ?_) I.bare
  · have e : b = it := by simpa using hb
    subst e
    exact ⟨h1, hL, h2, h3⟩
  · obtain ⟨o, es, ep, ho, r⟩ := hm
    exact ⟨o, es, ep, k _ o (Ne.symm hL) ho, r⟩
  · refine (I.hok b u e).stay (fun c v hc q => k c v ?_ q) (fun _ q => q) fun _ _ q => q
    rcases hc with z | z
    · rw [z]; exact nit b u e
    · exact nit c _ z
theorem Inv.tok (I : Inv X pins σ H s) (t : Nat) : Inv X pins σ H { s with toks := t } := I.un (h' := s.heap) (t' := t) Un.refl I.hok
/-- all objects kept -/
theorem Inv.kept {t' : Nat} (I : Inv X pins σ H s) (k : ∀ b u, s.heap.get? b = some u → h'.get? b = some u) : Inv X pins σ H { s with heap := h', toks := t' } := I.un (Un.kept k) (I.hok.kept k)
/-- a new object laid and tracked -/
theorem Inv.laid {a : Addr} {o : HO} {t' : Nat} (I : Inv X pins σ H s) (k : ∀ b u, s.heap.get? b = some u → h'.get? b = some u) (hp : s.heap.objs.size ≤ a) (new : ObjOk X.prog X.w (upd H a o) h' a o) :
    Inv X pins σ (upd H a o) { s with heap := h', toks := t' } := I.un (Un.laid k hp (I.hok.fresh hp)) (I.hok.laid k hp new)
/-- an object written -/
theorem Inv.write {x e : Addr} {o : HO} {t' : Nat} (I : Inv X pins σ H s) (mu : Mut (H x)) (he : e = x ∨ H e = some (.own x)) (k : ∀ b u, b ≠ e → s.heap.get? b = some u → h'.get? b = some u) (heo : ∃ u, h'.get? e = some u)
    (new : ObjOk X.prog X.w (upd H x o) h' x o) : Inv X pins σ (upd H x o) { s with heap := h', toks := t' } := I.un (Un.write mu he k heo) (I.hok.write mu he k heo new)
theorem Inv.pins_of {pins' : List (Addr × Obj)} (I : Inv X pins σ H s) (h : ∀ p ∈ pins', s.heap.get? p.1 = some p.2 ∧ H p.1 = none ∧ p.1 ≠ X.env.locals ∧ p.1 ∉ X.fs ∧ ∀ v, p.2.data ≠ .cell v) : Inv X pins' σ H s :=
  ⟨I.ok, I.os, I.bare, I.base, I.loc, I.cell, I.free, I.freeC, fun p hp => (List.mem_append.mp hp).elim (fun z => I.pin p (List.mem_append_left _ z)) (h p), I.hok, I.len⟩

theorem nodup_ix {N : List Str} (hN : N.Nodup) {i j : Nat} {x : Str} (a : N[i]? = some x) (b : N[j]? = some x) : i = j := by
  obtain ⟨h1, e1⟩ := List.getElem?_eq_some_iff.mp a
  obtain ⟨h2, e2⟩ := List.getElem?_eq_some_iff.mp b
  exact (List.getElem_inj hN).mp (e1.trans e2.symm)

/-- a name is stored; what changed -/
theorem store_ok2 {M : Model} {A : Around} {E : Value → Shared → Prop} {i : Nat} {x : Str} {v : V} {u : Value} {Q : Unit → Shared → Prop} (I : Inv X pins σ H s) (hN : X.N.Nodup) (hi : X.N[i]? = some x) (hx : Loc X.env.scope x) (r : RelV v u)
    (h : ∀ s', Inv X pins (σ.set i (some v)) H s' → (∃ a, Heap.SameBut a s.heap s'.heap ∧ (a = X.env.locals ∨ X.env.cells.lookup x = some a)) → Q () s') (hf : X.fn x = true ∨ X.env.scope.names.lookup x = some .local := by first | exact .inl rfl | exact .inr rfl | assumption) : wpAny M A (storeName X.env x u) Q E s := by
  obtain ⟨m, hn, hl⟩ := id I.loc
  have hcls : (X.env.scope.kind == .class || (X.env.scope.kind == .module && X.env.locals != X.env.globals)) = false := by rw [I.ok.kind]; rfl
  have hiσ : i < σ.length := by rw [I.len]; exact (List.getElem?_eq_some_iff.mp hi).1
  have cne := I.cne
  have tracked : ∀ {a : Addr} {h' : Heap}, (∃ o, s.heap.get? a = some o ∧ H a = none) → Heap.SameBut a s.heap h' → HOk X.prog X.w H h' := fun {a h'} ha hs b ob e => by
    obtain ⟨_, _, hfree⟩ := ha
    refine (I.hok b ob e).stay (fun c w' hc q => (hs.2 c ?_).trans q) (fun _ q => q) fun _ _ q => q
    rintro rfl
    rcases hc with rfl | hc
    · rw [hfree] at e; cases e
    · rw [hfree] at hc; cases hc
  rcases hx with hk | hk
  · refine wpAny_storeName_local hk hn (fun h' hn' hs => ?_) hcls
    obtain ⟨oL, _, _, hoL, _⟩ := id hn
    refine h _ ⟨I.ok, I.os, I.bare, ⟨fun b o e n hb hx => ?_, fun b o e n hb hx => ?_, I.base.free, fun b o e hx => ?_, I.base.tups, I.base.frzs, I.base.tbls⟩, ⟨_, hn', fun j y v' e1 e2 e3 => ?_⟩, fun y c e => ?_, I.free, I.freeC, fun p hp => ?_, tracked ⟨oL, hoL, I.free⟩ hs, by simpa using I.len⟩ ⟨_, hs, .inl rfl⟩
    · exact (hs.2 b (Nat.ne_of_lt (Nat.lt_of_lt_of_le (Heap.lt_size e) I.ok.above))).trans (I.base.keep b o e n hb hx)
    · obtain ⟨sl, e1⟩ := I.base.slot b o e n hb hx
      exact ⟨sl, (hs.2 b (Nat.ne_of_lt (Nat.lt_of_lt_of_le (Heap.lt_size e) I.ok.above))).trans e1⟩
    · obtain ⟨o', e1⟩ := I.base.there b o e hx
      exact ⟨o', (hs.2 b (Nat.ne_of_lt (Nat.lt_of_lt_of_le (Heap.lt_size e) I.ok.above))).trans e1⟩
    · by_cases hj : j = i
      · subst hj
        rw [hi] at e1; cases e1
        rw [List.getElem?_set_self hiσ] at e2
        cases e2
        exact ⟨u, r, .inl ⟨hk, by simp⟩⟩
      · rw [List.getElem?_set_ne (Ne.symm hj)] at e2
        obtain ⟨u', r', q⟩ := hl j y v' e1 e2 e3
        refine ⟨u', r', ?_⟩
        rcases q with ⟨k, e⟩ | ⟨k, c, e, z⟩
        · refine .inl ⟨k, ?_⟩
          have : y ≠ x := fun e => hj (nodup_ix hN e1 (e ▸ hi))
          simp [this, e]
        · exact .inr ⟨k, c, e, z.sameBut hs (cne y c e)⟩
    · obtain ⟨w', z⟩ := I.cell y c e
      exact ⟨w', z.sameBut hs (cne y c e)⟩
    · obtain ⟨e, n, ne, nf, d⟩ := I.pin p hp
      exact ⟨(hs.2 p.1 ne).trans e, n, ne, nf, d⟩
  · have hfn : X.fn x = true := by
      rcases hf with z | z
      · exact z
      · rw [z] at hk; cases hk
    obtain ⟨c, hc⟩ := I.ok.has x (.inl hk)
    obtain ⟨w', z⟩ := I.cell x c hc
    refine wpAny_storeName_cell I.ok.kind hk hc z (fun h' hc' hs => ?_)
    obtain ⟨oc, hoc, hocd⟩ := id z
    refine h { s with heap := h' } ⟨I.ok, I.os, I.bare, ⟨fun b o e n hb hx => ?_, fun b o e n hb hx => ?_, I.base.free, fun b o e hx => ?_, I.base.tups, I.base.frzs, I.base.tbls⟩, ⟨m, hn.sameBut hs (Ne.symm (cne x c hc)), fun j y v' e1 e2 e3 => ?_⟩, fun y c' e => ?_, I.free, I.freeC, fun p hp => ?_, tracked ⟨oc, hoc, I.freeC x c hc⟩ hs, by simpa using I.len⟩ ⟨c, hs, .inr hc⟩
    · exact (hs.2 b (Nat.ne_of_lt (Nat.lt_of_lt_of_le (Heap.lt_size e) (I.ok.cab x c hfn hc)))).trans (I.base.keep b o e n hb hx)
    · obtain ⟨sl, e1⟩ := I.base.slot b o e n hb hx
      exact ⟨sl, (hs.2 b (Nat.ne_of_lt (Nat.lt_of_lt_of_le (Heap.lt_size e) (I.ok.cab x c hfn hc)))).trans e1⟩
    · obtain ⟨o', e1⟩ := I.base.there b o e hx
      exact ⟨o', (hs.2 b (Nat.ne_of_lt (Nat.lt_of_lt_of_le (Heap.lt_size e) (I.ok.cab x c hfn hc)))).trans e1⟩
    · by_cases hj : j = i
      · subst hj
        rw [hi] at e1; cases e1
        rw [List.getElem?_set_self hiσ] at e2
        cases e2
        exact ⟨u, r, .inr ⟨.inl hk, c, hc, hc'⟩⟩
      · rw [List.getElem?_set_ne (Ne.symm hj)] at e2
        obtain ⟨u', r', q⟩ := hl j y v' e1 e2 e3
        refine ⟨u', r', ?_⟩
        rcases q with q | ⟨k, c', e, z'⟩
        · exact .inl q
        · refine .inr ⟨k, c', e, z'.sameBut hs ?_⟩
          rintro rfl
          exact hj (nodup_ix hN e1 (I.ok.inj _ _ _ e hc ▸ hi))
    · by_cases hcc : c' = c
      · subst hcc; exact ⟨_, hc'⟩
      · obtain ⟨w2, z2⟩ := I.cell y c' e
        exact ⟨w2, z2.sameBut hs hcc⟩
    · obtain ⟨e, n, ne, nf, d⟩ := I.pin p hp
      refine ⟨(hs.2 p.1 ?_).trans e, n, ne, nf, d⟩
      intro q
      rw [q, hoc] at e
      have q' : oc = p.2 := Option.some.inj e
      exact d w' (by rw [← q']; exact hocd)
theorem store_ok {M : Model} {A : Around} {E : Value → Shared → Prop} {i : Nat} {x : Str} {v : V} {u : Value} {Q : Unit → Shared → Prop} (I : Inv X pins σ H s) (hN : X.N.Nodup) (hi : X.N[i]? = some x) (hx : Loc X.env.scope x) (r : RelV v u)
    (h : ∀ s', Inv X pins (σ.set i (some v)) H s' → Q () s') (hf : X.fn x = true ∨ X.env.scope.names.lookup x = some .local := by first | exact .inl rfl | exact .inr rfl | assumption) : wpAny M A (storeName X.env x u) Q E s :=
  store_ok2 I hN hi hx r (fun s' I' _ => h s' I') hf
end

/-! ### the judgements -/
/-- an exception: its class, its own dict's address (where it has one), the abstract heap behind it -/
abbrev XK := Value → Option Addr → Hp → Prop
abbrev St := List (Option V)
abbrev VK := V → Hp → Prop
/-- an expression's reading; a test's; an argument list's -/
abbrev TE := St → Hp → VK → Prop
abbrev TT := St → Hp → (Bool → Hp → Prop) → Prop
abbrev TA := St → Hp → (List V → Hp → Prop) → Prop
/-- what is wanted behind a statement -/
structure Ends where
  nx : St → Hp → Prop
  rt : VK
  bk : St → Hp → Prop := fun _ _ => False
  ct : St → Hp → Prop := fun _ _ => False
abbrev TS := Ends → St → Hp → Prop

def EP (X : Cx) (pins : List (Addr × Obj)) (σ : St) (Q : VK) (u : Value) (s' : Shared) : Prop := ∃ v H', Inv X pins σ H' s' ∧ RelV v u ∧ Q v H'
def TP (X : Cx) (pins : List (Addr × Obj)) (σ : St) (Q : Bool → Hp → Prop) (b : Bool) (s' : Shared) : Prop := ∃ H', Inv X pins σ H' s' ∧ Q b H'
def AP (X : Cx) (pins : List (Addr × Obj)) (σ : St) (Q : List V → Hp → Prop) (us : List Value) (s' : Shared) : Prop := ∃ vs H', Inv X pins σ H' s' ∧ Vals vs us ∧ Q vs H'
def SP (X : Cx) (pins : List (Addr × Obj)) (D : Ends) (f : Flow) (s' : Shared) : Prop :=
  match f with
  | .next => ∃ σ' H', Inv X pins σ' H' s' ∧ D.nx σ' H'
  | .brk => ∃ σ' H', Inv X pins σ' H' s' ∧ D.bk σ' H'
  | .cont => ∃ σ' H', Inv X pins σ' H' s' ∧ D.ct σ' H'
  | .ret u => ∃ v σ' H', Inv X pins σ' H' s' ∧ RelV v u ∧ D.rt v H'

def PE (X : Cx) (e : Expr) (t : TE) : Prop :=
  ∀ (pins : List (Addr × Obj)) (s : Shared) (σ : St) (H : Hp) (Q : VK), Inv X pins σ H s → t σ H Q → wpAny (model X.prog X.w) X.A (eval e X.env) (EP X pins σ Q) X.xe s
def PT (X : Cx) (e : Expr) (t : TT) : Prop :=
  ∀ (pins : List (Addr × Obj)) (s : Shared) (σ : St) (H : Hp) (Q : Bool → Hp → Prop), Inv X pins σ H s → t σ H Q → wpAny (model X.prog X.w) X.A (isTrue e X.env (eval e X.env)) (TP X pins σ Q) X.xe s
/-- a test whatever its 'whole' is (and, or) -/
def PW (X : Cx) (e : Expr) (t : TT) : Prop :=
  ∀ (whole : Sem Value) (pins : List (Addr × Obj)) (s : Shared) (σ : St) (H : Hp) (Q : Bool → Hp → Prop), Inv X pins σ H s → t σ H Q → wpAny (model X.prog X.w) X.A (isTrue e X.env whole) (TP X pins σ Q) X.xe s
theorem PW.pt {X : Cx} {e : Expr} {t : TT} (h : PW X e t) : PT X e t := h _
/-- an argument list (no star), from the left -/
def PA (X : Cx) (es : List Expr) (t : TA) : Prop :=
  ∀ (pos : Pos) (pins : List (Addr × Obj)) (s : Shared) (σ : St) (H : Hp) (Q : List V → Hp → Prop), Inv X pins σ H s → t σ H Q → wpAny (model X.prog X.w) X.A (spliced (backTo pos (starEach es X.env))) (AP X pins σ Q) X.xe s
def PS (X : Cx) (st : Stmt) (t : TS) : Prop :=
  ∀ (pins : List (Addr × Obj)) (s : Shared) (σ : St) (H : Hp) (D : Ends), Inv X pins σ H s → t D σ H → wpAny (model X.prog X.w) X.A (exec st X.env) (SP X pins D) X.xe s
def PSs (X : Cx) (st : List Stmt) (t : TS) : Prop :=
  ∀ (pins : List (Addr × Obj)) (s : Shared) (σ : St) (H : Hp) (D : Ends), Inv X pins σ H s → t D σ H → wpAny (model X.prog X.w) X.A (execs st X.env) (SP X pins D) X.xe s
/-- weaken the end -/
theorem thn {α : Type} {t : Sem α} {Q Q' : α → Shared → Prop} {M : Model} {A : Around} {E : Value → Shared → Prop} {s : Shared} (h : wpAny M A t Q E s) (hQ : ∀ a s, Q a s → Q' a s) : wpAny M A t Q' E s := wpAny_mono h hQ fun _ _ x => x
end L2

namespace L2
open PySem PySem.Spec PyProof.Rows
section
variable {X : Cx}

/-- two expressions in a row -/
theorem bin {a b : Expr} {ta tb : TE} (ha : PE X a ta) (hb : PE X b tb) {pins : List (Addr × Obj)} {s : Shared} {σ : St} {H : Hp} {R : V → V → Hp → Prop} (I : Inv X pins σ H s) (h : ta σ H fun x H1 => tb σ H1 fun y H2 => R x y H2)
    {α : Type} {Q : α → Shared → Prop} {f : Value → Value → Sem α}
    (hf : ∀ v u s2 x y H2, Inv X pins σ H2 s2 → RelV x v → RelV y u → R x y H2 → wpAny (model X.prog X.w) X.A (f v u) Q X.xe s2) :
    wpAny (model X.prog X.w) X.A (eval a X.env) (fun v s₁ => wpAny (model X.prog X.w) X.A (eval b X.env) (fun u s₂ => wpAny (model X.prog X.w) X.A (f v u) Q X.xe s₂) X.xe s₁) X.xe s := by
  refine thn (ha pins s σ H _ I h) fun v s1 ⟨x, H1, I1, r1, q1⟩ => ?_
  refine thn (hb pins s1 σ H1 _ I1 q1) fun u s2 ⟨y, H2, I2, r2, q2⟩ => ?_
  exact hf v u s2 x y H2 I2 r1 r2 q2

/-! ### names and constants -/
def tVar (i : Nat) : TE := fun σ H Q => ∃ v, σ[i]? = some (some v) ∧ Q v H
def tC (v : V) : TE := fun _ H Q => Q v H
theorem pe_var {i : Nat} {x : Str} {pos : Pos} (hN : X.N[i]? = some x) (hv : Vis X.env.scope x) (hd : (x == ("__debug__" : Str)) = false := by decide) (hcd : (x == ("__classdict__" : Str)) = false := by decide) : PE X (.Name x pos) (tVar i) := by
  intro pins s σ H Q I h
  obtain ⟨v, e, h⟩ := h
  obtain ⟨m, hn, hl⟩ := I.loc
  obtain ⟨u, r, l⟩ := hl i x v hN e hv
  have fin : EP X pins σ Q u s := ⟨v, H, I, r, h⟩
  rcases l with ⟨hk, hm⟩ | ⟨hk, c, hc, hcell⟩
  · exact wpAny_Name (wpAny_loadName_local I.ok.kind hk hn hm fin) hd
  · rcases hk with hk | hk
    · exact wpAny_Name (wpAny_loadName_cell I.ok.kind hk hc hcell fin) hd
    · exact wpAny_Name (wpAny_loadName_free I.ok.kind hk hc hcell fin hcd) hd
theorem pe_int {i j pos} : PE X (.Constant (.int i) j pos) (tC (.int i)) := fun _ _ _ H _ I h => wpAny_Constant_int ⟨.int i, H, I.tok _, ⟨_, rfl⟩, h⟩
theorem pe_bl {b j pos} : PE X (.Constant (.bool b) j pos) (tC (.bl b)) := fun _ _ _ H _ I h => Constant_bool ⟨.bl b, H, I, rfl, h⟩
theorem pe_non {j pos} : PE X (.Constant .none j pos) (tC .non) := fun _ _ _ H _ I h => Constant_none ⟨.non, H, I, rfl, h⟩
/-- a global name of the def -/
def Gl (X : Cx) (x : Str) : Prop := X.env.kindOf x = some .globalImplicit
theorem ld_glob {E : Value → Shared → Prop} {pins : List (Addr × Obj)} {s : Shared} {σ : St} {H : Hp} {x : Str} {u : Value} {pos : Pos} {Q : Value → Shared → Prop} (I : Inv X pins σ H s) (hg : Gl X x) (hm : X.mg x = some u) (h : Q u s)
    (hd : (x == ("__debug__" : Str)) = false := by decide) : wpAny (model X.prog X.w) X.A (eval (.Name x pos) X.env) Q E s :=
  Calls.Name_function_global I.ok.kind hg (Calls.loadGlobal_global (by rw [I.ok.glob]; exact I.mod.glob.keeps I.bk) hm h) hd
theorem ld_blt {E : Value → Shared → Prop} {pins : List (Addr × Obj)} {s : Shared} {σ : St} {H : Hp} {x : Str} {u : Value} {pos : Pos} {Q : Value → Shared → Prop} (I : Inv X pins σ H s) (hg : Gl X x) (hm : X.mg x = none) (hv : bootBuiltins x = some u) (h : Q u s)
    (hn : x ≠ "__name__" := by decide) (hd : (x == ("__debug__" : Str)) = false := by decide) : wpAny (model X.prog X.w) X.A (eval (.Name x pos) X.env) Q E s := by
  obtain ⟨mb, h1, h2⟩ := I.mod.blt
  exact Calls.Name_function_global I.ok.kind hg (Calls.loadGlobal_builtin (by rw [I.ok.glob]; exact I.mod.glob.keeps I.bk) hm (by rw [I.ok.blt]; exact h1.keeps I.bk) ((h2 x hn).trans hv) h) hd
/-- a module's constant, a class, a function, as a value -/
theorem pe_glob {x : Str} {v : V} {u : Value} {pos : Pos} (hg : Gl X x) (hm : X.mg x = some u) (r : RelV v u) (hd : (x == ("__debug__" : Str)) = false := by decide) : PE X (.Name x pos) (tC v) :=
  fun _ _ _ H _ I h => ld_glob I hg hm ⟨v, H, I, r, h⟩ hd
/-! ### arithmetic -/
variable {a b : Expr} {ta tb : TE} {pos : Pos}
/-! ### comparisons -/
def PC (X : Cx) (op : CmpOp) (a b : Expr) (t : TE) : Prop :=
  ∀ (pins : List (Addr × Obj)) (s : Shared) (σ : St) (H : Hp) (Q : VK), Inv X pins σ H s → t σ H Q →
    wpAny (model X.prog X.w) X.A (eval a X.env) (fun v s₁ => wpAny (model X.prog X.w) X.A (eval b X.env) (fun u s₂ => wpAny (model X.prog X.w) X.A (compareOp op v u) (EP X pins σ Q) X.xe s₂) X.xe s₁) X.xe s
/-- a comparison as a value, as a test -/
def tB (t : TE) : TT := fun σ H Q => t σ H fun x H1 => ∃ c, x = .bl c ∧ Q c H1
theorem pt_cmp {op : CmpOp} {t : TE} (h : PC X op a b t) (h1 : behindInMarks op b = false := by first | exact nobehind _ (by decide) (by decide) | rfl) : PT X (.Compare a [op] [b] pos) (tB t) := by
  intro pins s σ H Q I hw
  refine wpAny_isTrue_Compare1 (thn (h pins s σ H _ I hw) fun v s1 h1 => thn h1 fun u s2 h2 => thn h2 fun c s3 ⟨x, H1, I1, r1, q1⟩ => ?_) h1
  obtain ⟨d, rfl, q⟩ := q1
  cases r1
  exact wpAny_truthy_bool ⟨H1, I1, q⟩
/-- an expression whose value is a bool, as a test -/
theorem pt_val {e : Expr} {t : TE} (h : PE X e t) (he : ∀ whole, isTrue e X.env whole = (do let v ← whole; standAt e.pos; holding [v] (truthy v)) := by intro _; rfl) : PT X e (tB t) := by
  intro pins s σ H Q I hw
  refine isTrue_plain (thn (h pins s σ H _ I hw) fun v s1 ⟨x, H1, I1, r1, q1⟩ => ?_) (he _)
  obtain ⟨d, rfl, q⟩ := q1
  cases r1
  exact wpAny_truthy_bool ⟨H1, I1, q⟩

/-! ### and, or, not -/
variable {tA tB' : TT} {rest : List Expr}
def tAnd (t u : TT) : TT := fun σ H Q => t σ H fun c H1 => if c = true then u σ H1 Q else Q false H1
def tOr (t u : TT) : TT := fun σ H Q => t σ H fun c H1 => if c = true then Q true H1 else u σ H1 Q
def tNot (t : TT) : TT := fun σ H Q => t σ H fun c H1 => Q (!c) H1
theorem pw_and1 (ha : PT X a tA) : PW X (.BoolOp .And [a] pos) tA := by
  intro wh pins s σ H Q I h
  refine isTrue_and (thn (ha pins s σ H Q I h) fun c s1 e => ?_)
  cases c with
  | true => exact isTrue_and_nil e
  | false => exact e
theorem pw_or1 (ha : PT X a tA) : PW X (.BoolOp .Or [a] pos) tA := by
  intro wh pins s σ H Q I h
  refine isTrue_or (thn (ha pins s σ H Q I h) fun c s1 e => ?_)
  cases c with
  | false => exact isTrue_or_nil e
  | true => exact e
theorem pw_and (ha : PT X a tA) (hb : PW X (.BoolOp .And (b :: rest) pos) tB') : PW X (.BoolOp .And (a :: b :: rest) pos) (tAnd tA tB') := by
  intro wh pins s σ H Q I h
  refine isTrue_and (thn (ha pins s σ H _ I h) fun c s1 ⟨H1, I1, q1⟩ => ?_)
  cases c with
  | true => exact hb wh pins s1 σ H1 Q I1 q1
  | false => exact ⟨H1, I1, q1⟩
theorem pw_or (ha : PT X a tA) (hb : PW X (.BoolOp .Or (b :: rest) pos) tB') : PW X (.BoolOp .Or (a :: b :: rest) pos) (tOr tA tB') := by
  intro wh pins s σ H Q I h
  refine isTrue_or (thn (ha pins s σ H _ I h) fun c s1 ⟨H1, I1, q1⟩ => ?_)
  cases c with
  | true => exact ⟨H1, I1, q1⟩
  | false => exact hb wh pins s1 σ H1 Q I1 q1
theorem pt_not (ha : PT X a tA) : PT X (.UnaryOp .Not a pos) (tNot tA) := by
  intro pins s σ H Q I h
  exact isTrue_not (ha pins s σ H (fun c H1 => Q (!c) H1) I h)
/-- .. as values (bools) -/
def tAndV (ta tb : TE) : TE := fun σ H Q => ta σ H fun x H1 => ∃ c, x = .bl c ∧ if c = true then tb σ H1 Q else Q (.bl false) H1
def tOrV (ta tb : TE) : TE := fun σ H Q => ta σ H fun x H1 => ∃ c, x = .bl c ∧ if c = true then Q (.bl true) H1 else tb σ H1 Q
def tNotV (ta : TE) : TE := fun σ H Q => ta σ H fun x H1 => ∃ c, x = .bl c ∧ Q (.bl (!c)) H1
theorem pe_one {op} {t : TE} (h : PE X a t) : PE X (.BoolOp op [a] pos) t := fun pins s σ H Q I hw => BoolOp_one (h pins s σ H Q I hw)
theorem pe_and (ha : PE X a ta) (hb : PE X (.BoolOp .And (b :: rest) pos) tb) : PE X (.BoolOp .And (a :: b :: rest) pos) (tAndV ta tb) := by
  intro pins s σ H Q I h
  refine BoolOp_and (thn (ha pins s σ H _ I h) fun v s1 ⟨x, H1, I1, r1, q1⟩ => ?_)
  obtain ⟨c, rfl, q1⟩ := q1
  cases r1
  refine wpAny_truthy_bool ?_
  cases c with
  | true => exact hb pins s1 σ H1 Q I1 q1
  | false => exact ⟨.bl false, H1, I1, rfl, q1⟩
theorem pe_or (ha : PE X a ta) (hb : PE X (.BoolOp .Or (b :: rest) pos) tb) : PE X (.BoolOp .Or (a :: b :: rest) pos) (tOrV ta tb) := by
  intro pins s σ H Q I h
  refine BoolOp_or (thn (ha pins s σ H _ I h) fun v s1 ⟨x, H1, I1, r1, q1⟩ => ?_)
  obtain ⟨c, rfl, q1⟩ := q1
  cases r1
  refine wpAny_truthy_bool ?_
  cases c with
  | false => exact hb pins s1 σ H1 Q I1 q1
  | true => exact ⟨.bl true, H1, I1, rfl, q1⟩
theorem pe_not (ha : PE X a ta) : PE X (.UnaryOp .Not a pos) (tNotV ta) := by
  intro pins s σ H Q I h
  refine UnaryOp_ (thn (ha pins s σ H _ I h) fun v s1 ⟨x, H1, I1, r1, q1⟩ => ?_)
  obtain ⟨c, rfl, q1⟩ := q1
  cases r1
  exact not_of (wpAny_truthy_bool ⟨.bl (!c), H1, I1, rfl, q1⟩)
/-- a if t else b -/
def tIf (t : TT) (ta tb : TE) : TE := fun σ H Q => t σ H fun c H1 => if c = true then ta σ H1 Q else tb σ H1 Q
theorem pe_ifExp {c : Expr} (hc : PT X c tA) (ha : PE X a ta) (hb : PE X b tb) : PE X (.IfExp c a b pos) (tIf tA ta tb) := by
  intro pins s σ H Q I h
  refine wpAny_IfExp (thn (hc pins s σ H _ I h) fun d s1 ⟨H1, I1, q1⟩ => ?_)
  cases d with
  | true => exact ha pins s1 σ H1 Q I1 q1
  | false => exact hb pins s1 σ H1 Q I1 q1
end
end L2

namespace L2
open PySem PySem.Spec PyProof.Rows

/-! ### a list, a tuple that is read: tracked, frozen, or an object of the module -/
def SqL (K : PySem.W.Frag) (H : Hp) (a : Addr) (xs : List V) : Prop :=
  Rd H a (.lst xs) ∨
    ∃ (o : Obj) (its : Array Value) (n : Nat), K.lookup a = some o ∧ o.cls = .type "list" ∧ o.dict = none ∧ o.data = .seq its n ∧ its.size ≤ sizeLine ∧ Vals xs its.toList
def SqT (K : PySem.W.Frag) (H : Hp) (a : Addr) (xs : List V) : Prop :=
  Rd H a (.tup xs) ∨
    ∃ (o : Obj) (its : Array Value) (n : Nat), K.lookup a = some o ∧ o.cls = .type "tuple" ∧ o.data = .seq its n ∧ its.size ≤ sizeLine ∧ Vals xs its.toList
def absV : Value → Option V
  | .none => some .non
  | .bool b => some (.bl b)
  | .int i _ => some (.int i)
  | .str x _ => some (.str x)
  | .bytes b _ => some (.byt b)
  | .float b _ => some (.flt b)
  | .ref a => some (.ref a)
  | .type n => some (.ty n)
  | _ => none
theorem RelV.abs {x : V} {u : Value} (r : RelV x u) : absV u = some x := by
  cases x with
  | non => cases r; rfl
  | bl _ => cases r; rfl
  | int _ => obtain ⟨t, rfl⟩ := r; rfl
  | str _ => obtain ⟨t, rfl⟩ := r; rfl
  | byt _ => obtain ⟨t, rfl⟩ := r; rfl
  | flt _ => obtain ⟨t, rfl⟩ := r; rfl
  | ref _ => cases r; rfl
  | ty _ => cases r; rfl
theorem RelV.inj {x y : V} {u : Value} (r : RelV x u) (q : RelV y u) : x = y := Option.some.inj (r.abs.symm.trans q.abs)
theorem Vals.inj : ∀ {xs ys : List V} {us : List Value}, Vals xs us → Vals ys us → xs = ys
  | _, _, _, .nil, .nil => rfl
  | _, _, _, .cons r t, .cons r' t' => by rw [r.inj r', Vals.inj t t']
section
variable {X : Cx} {pins : List (Addr × Obj)} {σ : St} {H : Hp} {s : Shared} {a : Addr} {xs ys : List V}
theorem SqL.of {K : PySem.W.Frag} (h : H a = some (.lst xs)) : SqL K H a xs := .inl (.inl h)
theorem SqT.of {K : PySem.W.Frag} (h : H a = some (.tup xs)) : SqT K H a xs := .inl (.inl h)
theorem Inv.list (I : Inv X pins σ H s) (h : SqL X.K H a xs) : ∃ its : List Value, Vals xs its ∧ PlainL s.heap a its.toArray ∧ xs.length ≤ sizeLine := by
  rcases h with h | ⟨o, its, n, hk, hc, hd, hs, hz, r⟩
  · obtain ⟨z, its, n, r, e⟩ := h.ok I.hok
    exact ⟨its, r, ⟨_, n, e, rfl, rfl, rfl⟩, z⟩
  · refine ⟨its.toList, r, ⟨o, n, I.kIn a o hk, hc, hd, by simpa using hs⟩, ?_⟩
    have e := r.length
    simp only [Array.length_toList] at e
    omega
theorem Inv.tuple (I : Inv X pins σ H s) (h : SqT X.K H a xs) : ∃ its : List Value, Vals xs its ∧ IsTup s.heap a its.toArray ∧ xs.length ≤ sizeLine := by
  rcases h with h | ⟨o, its, n, hk, hc, hs, hz, r⟩
  · obtain ⟨z, its, r, p⟩ := h.ok I.hok
    exact ⟨its, r, p, z⟩
  · refine ⟨its.toList, r, ⟨o, I.kIn a o hk, hc, n, by simpa using hs⟩, ?_⟩
    have e := r.length
    simp only [Array.length_toList] at e
    omega
theorem Inv.list_inj (I : Inv X pins σ H s) (h : SqL X.K H a xs) (h' : SqL X.K H a ys) : xs = ys := by
  obtain ⟨its, r, ⟨o, n, e, _, _, d⟩, _⟩ := I.list h
  obtain ⟨its', r', ⟨o', n', e', _, _, d'⟩, _⟩ := I.list h'
  rw [e] at e'; cases e'
  rw [d] at d'
  injection d' with d1 _
  have : its = its' := by simpa using congrArg Array.toList d1
  subst this
  exact r.inj r'
end

/-! ### another wish about exceptions -/
abbrev Cx.wish (X : Cx) (E : Value → Shared → Prop) : Cx := { X with xe := E }
/-- no exception leaves -/
abbrev Cx.nox (X : Cx) : Cx := X.wish fun _ _ => False
theorem Cx.Ok.wish {X : Cx} (ok : X.Ok) (E : Value → Shared → Prop) : (X.wish E).Ok :=
  ⟨ok.mod, ok.kind, ok.glob, ok.blt, ok.above, ok.inj, ok.has, ok.cab, ok.hd, ok.frames, ok.stk, ok.exf, ok.bs, ok.bsz, ok.noex, ok.exfs, ok.funs, ok.frf⟩
theorem Cx.Ok.unwish {X : Cx} {E : Value → Shared → Prop} (ok : (X.wish E).Ok) : X.Ok :=
  ⟨ok.mod, ok.kind, ok.glob, ok.blt, ok.above, ok.inj, ok.has, ok.cab, ok.hd, ok.frames, ok.stk, ok.exf, ok.bs, ok.bsz, ok.noex, ok.exfs, ok.funs, ok.frf⟩
section
variable {X : Cx} {pins : List (Addr × Obj)} {σ : St} {H : Hp} {s : Shared} {E : Value → Shared → Prop}
theorem Inv.wish (I : Inv X pins σ H s) (E : Value → Shared → Prop) : Inv (X.wish E) pins σ H s := ⟨I.ok.wish E, I.os, I.bare, I.base, I.loc, I.cell, I.free, I.freeC, I.pin, I.hok, I.len⟩
theorem Inv.unwish (I : Inv (X.wish E) pins σ H s) : Inv X pins σ H s := ⟨I.ok.unwish, I.os, I.bare, I.base, I.loc, I.cell, I.free, I.freeC, I.pin, I.hok, I.len⟩
theorem SP.unwish {D : Ends} {f : Flow} {s' : Shared} (h : SP (X.wish E) pins D f s') : SP X pins D f s' := by
  cases f with
  | next => obtain ⟨σ', H', I, q⟩ := h; exact ⟨σ', H', I.unwish, q⟩
  | brk => obtain ⟨σ', H', I, q⟩ := h; exact ⟨σ', H', I.unwish, q⟩
  | cont => obtain ⟨σ', H', I, q⟩ := h; exact ⟨σ', H', I.unwish, q⟩
  | ret u => obtain ⟨v, σ', H', I, r, q⟩ := h; exact ⟨v, σ', H', I.unwish, r, q⟩
theorem PSs.nox {st : List Stmt} {t : TS} (h : PSs X.nox st t) : PSs X st t := fun pins s σ H D I hw =>
  wpAny_mono (h pins s σ H D (I.wish _) hw) (fun _ _ q => q.unwish) fun _ _ z => False.elim z
end

/-! ### blocks and small statements -/
section
variable {X : Cx} {st : Stmt} {rest : List Stmt} {t u : TS} {e : Expr} {te : TE} {pos : Pos}
def tNext : TS := fun D σ H => D.nx σ H
def tSeq (t u : TS) : TS := fun D σ H => t { D with nx := u D } σ H
theorem pss_nil : PSs X [] tNext := fun _ _ σ H _ I h => wpAny_execs_nil ⟨σ, H, I, h⟩
theorem pss_cons (h1 : PS X st t) (h2 : PSs X rest u) : PSs X (st :: rest) (tSeq t u) := by
  intro pins s σ H D I h
  refine wpAny_execs_cons (thn (h1 pins s σ H { D with nx := u D } I h) fun f s1 q => ?_)
  cases f with
  | next =>
    obtain ⟨σ', H', I', q⟩ := q
    exact h2 pins s1 σ' H' D I' q
  | ret v => exact q
  | brk => exact q
  | cont => exact q
theorem pss_one (h1 : PS X st t) : PSs X [st] t := by
  intro pins s σ H D I h
  refine wpAny_execs_cons (thn (h1 pins s σ H D I h) fun f s1 q => ?_)
  cases f with
  | next => exact wpAny_execs_nil q
  | ret v => exact q
  | brk => exact q
  | cont => exact q
/-- in a def's body nothing is shown -/
theorem Inv.quiet {pins : List (Addr × Obj)} {σ : St} {H : Hp} {s : Shared} (I : Inv X pins σ H s) : interactive X.env = false := by simp [interactive, I.ok.kind]
/-- an expression whose value is dropped -/
def tDrop (te : TE) : TS := fun D σ H => te σ H fun _ H1 => D.nx σ H1
theorem ps_expr (he : PE X e te) (hs : swapsWith e none pos.line X.env = pure false := by rfl) : PS X (.Expr e pos) (tDrop te) := by
  intro pins s σ H D I h
  exact wpAny_Expr_any (thn (he pins s σ H _ I h) fun v s1 ⟨x, H1, I1, r1, q1⟩ => ⟨σ, H1, I1, q1⟩) I.quiet hs
def tRet (te : TE) : TS := fun D σ H => te σ H D.rt
theorem ps_ret (he : PE X e te) : PS X (.Return (some e) pos) (tRet te) := by
  intro pins s σ H D I h
  exact wpAny_Return_some (thn (he pins s σ H _ I h) fun v s1 ⟨x, H1, I1, r1, q1⟩ => ⟨x, σ, H1, I1, r1, q1⟩)
def tIfS (c : TT) (t u : TS) : TS := fun D σ H => c σ H fun b H1 => if b = true then t D σ H1 else u D σ H1
theorem ps_if {c : Expr} {a b : List Stmt} {tc : TT} (hc : PT X c tc) (ha : PSs X a t) (hb : PSs X b u) : PS X (.If c a b pos) (tIfS tc t u) := by
  intro pins s σ H D I h
  refine wpAny_If (thn (hc pins s σ H _ I h) fun d s1 ⟨H1, I1, q1⟩ => ?_)
  cases d with
  | true => exact ha pins s1 σ H1 D I1 q1
  | false => exact hb pins s1 σ H1 D I1 q1
end

/-! ### targets -/
abbrev TG := V → St → Hp → (St → Hp → Prop) → Prop
abbrev TGs := List V → St → Hp → (St → Hp → Prop) → Prop
def PG (X : Cx) (target : Expr) (t : TG) : Prop :=
  ∀ (pins : List (Addr × Obj)) (s : Shared) (σ : St) (H : Hp) (v : V) (u : Value) (Q : St → Hp → Prop), Inv X pins σ H s → RelV v u → t v σ H Q →
    wpAny (model X.prog X.w) X.A (assign target X.env u) (fun _ s' => ∃ σ' H', Inv X pins σ' H' s' ∧ Q σ' H') X.xe s
/-- several targets, one after another -/
def PGs (X : Cx) (ts : List Expr) (t : TGs) : Prop :=
  ∀ (pins : List (Addr × Obj)) (s : Shared) (σ : St) (H : Hp) (vs : List V) (us : List Value) (Q : St → Hp → Prop), Inv X pins σ H s → Vals vs us → t vs σ H Q →
    wpAny (model X.prog X.w) X.A (assignInOrder ((assignEach ts X.env).map (·.2)) us) (fun _ s' => ∃ σ' H', Inv X pins σ' H' s' ∧ Q σ' H') X.xe s
/-- a op= b, by values -/
abbrev TIp := V → V → Hp → VK → Prop
def PIp (X : Cx) (op : Operator) (t : TIp) : Prop :=
  ∀ (pins : List (Addr × Obj)) (s : Shared) (σ : St) (H : Hp) (x y : V) (v u : Value) (Q : VK), Inv X pins σ H s → RelV x v → RelV y u → t x y H Q →
    wpAny (model X.prog X.w) X.A (inplaceOp op v u) (EP X pins σ Q) X.xe s
section
variable {X : Cx} {pos : Pos}
def gName (i : Nat) : TG := fun v σ H Q => Q (σ.set i (some v)) H
theorem pg_name {i : Nat} {x : Str} (hN : X.N.Nodup) (hi : X.N[i]? = some x) (hx : Loc X.env.scope x) (hf : X.fn x = true ∨ X.env.scope.names.lookup x = some .local := by first | exact .inl rfl | exact .inr rfl | assumption) : PG X (.Name x pos) (gName i) := by
  intro pins s σ H v u Q I r h
  exact wpAny_assign_Name (store_ok I hN hi hx r (fun s' I' => ⟨_, H, I', h⟩) hf)
def gNil : TGs := fun vs σ H Q => vs = [] ∧ Q σ H
def gCons (t : TG) (u : TGs) : TGs := fun vs σ H Q => ∃ v r, vs = v :: r ∧ t v σ H fun σ' H' => u r σ' H' Q
theorem pgs_nil : PGs X [] gNil := by
  intro pins s σ H vs us Q I r h
  obtain ⟨e, h⟩ := h
  subst e
  cases r
  exact assignInOrder_nil ⟨σ, H, I, h⟩
theorem pgs_cons {e : Expr} {es : List Expr} {t : TG} {u : TGs} (h1 : PG X e t) (h2 : PGs X es u)
    (hs : (assignEach (e :: es) X.env).map (·.2) = assign e X.env :: (assignEach es X.env).map (·.2) := by rfl) : PGs X (e :: es) (gCons t u) := by
  intro pins s σ H vs us Q I r h
  obtain ⟨v, vr, e1, h⟩ := h
  subst e1
  cases r with
  | cons r rr =>
    rw [hs]
    refine assignInOrder_cons (thn (h1 pins s σ H _ _ _ I r h) fun _ s1 ⟨σ1, H1, I1, q1⟩ => ?_)
    exact h2 pins s1 σ1 H1 _ _ Q I1 rr q1
/-- (a, b, ..) = a tuple of that length -/
def gTup (K : PySem.W.Frag) (n : Nat) (t : TGs) : TG := fun v σ H Q => ∃ a xs, v = .ref a ∧ SqT K H a xs ∧ xs.length = n ∧ t xs σ H Q
theorem pg_tup {es : List Expr} {k : Nat} {t : TGs} {n : Nat} (hc : X.calm = true) (h : PGs X es t)
    (hn : (assignEach es X.env).length = n := by rfl) (hst : (assignEach es X.env).findIdx? (·.1) = none := by rfl) : PG X (.Tuple es k pos) (gTup X.K n t) := by
  intro pins s σ H v u Q I r hw
  obtain ⟨a, xs, e1, hq, hl, hw⟩ := hw
  subst e1
  cases r
  obtain ⟨its, rv, ht, hz⟩ := I.tuple hq
  refine assign_Tuple_tuple (I.ok.hd hc) ht (by simp [hn, ← hl, rv.length]) hst fun h' hx => ?_
  have I1 : Inv X pins σ H { s with heap := h' } := I.kept (t' := s.toks) fun b o e => hx b o (Nat.ne_of_lt (Heap.lt_size e)) e
  exact h pins _ σ H xs _ Q I1 (by simpa using rv) hw
/-- target = value -/
def tAsg (te : TE) (g : TG) : TS := fun D σ H => te σ H fun x H1 => g x σ H1 D.nx
/-- name = value -/
theorem ps_set {i : Nat} {x : Str} {e : Expr} {te : TE} {pos' : Pos} (hN : X.N.Nodup) (hi : X.N[i]? = some x) (hx : Loc X.env.scope x) (he : PE X e te) (hs : swapsWith e (some (.Name x pos')) pos.line X.env = pure false := by rfl) (hf : X.fn x = true ∨ X.env.scope.names.lookup x = some .local := by first | exact .inl rfl | exact .inr rfl | assumption) :
    PS X (.Assign [.Name x pos'] e pos) (tAsg te (gName i)) := by
  intro pins s σ H D I h
  refine wpAny_Assign_Name (thn (he pins s σ H _ I h) fun v s1 ⟨y, H1, I1, r1, q1⟩ => ?_) hs
  exact store_ok I1 hN hi hx r1 (fun s2 I2 => ⟨_, H1, I2, q1⟩) hf
/-- name op= e -/
def tAug (i : Nat) (te : TE) (ti : TIp) : TS := fun D σ H => ∃ x, σ[i]? = some (some x) ∧ te σ H fun y H1 => ti x y H1 fun z H2 => D.nx (σ.set i (some z)) H2
theorem ps_aug {i : Nat} {x : Str} {e : Expr} {te : TE} {op : Operator} {ti : TIp} {pos' : Pos} (hN : X.N.Nodup) (hi : X.N[i]? = some x) (hx : Loc X.env.scope x) (he : PE X e te) (ho : PIp X op ti) (hf : X.fn x = true ∨ X.env.scope.names.lookup x = some .local := by first | exact .inl rfl | exact .inr rfl | assumption) :
    PS X (.AugAssign (.Name x pos') op e pos) (tAug i te ti) := by
  intro pins s σ H D I h
  obtain ⟨v, e1, h⟩ := h
  obtain ⟨m, hn, hl⟩ := I.loc
  have vis : Vis X.env.scope x := by rcases hx with k | k; exact .inl k; exact .inr (.inl k)
  obtain ⟨u, r, l⟩ := hl i x v hi e1 vis
  refine wpAny_AugAssign_Name ?_
  have go : wpAny (model X.prog X.w) X.A (eval e X.env) (fun w s₂ => wpAny (model X.prog X.w) X.A (inplaceOp op u w) (fun r s₃ => wpAny (model X.prog X.w) X.A (storeName X.env x r) (fun _ => SP X pins D .next) X.xe s₃) X.xe s₂) X.xe s := by
    refine thn (he pins s σ H _ I h) fun w s1 ⟨y, H1, I1, r1, q1⟩ => ?_
    refine thn (ho pins s1 σ H1 v y u w _ I1 r r1 q1) fun z s2 ⟨zv, H2, I2, r2, q2⟩ => ?_
    exact store_ok I2 hN hi hx r2 (fun s3 I3 => ⟨_, H2, I3, q2⟩) hf
  rcases l with ⟨hk, hm⟩ | ⟨hk, c, hc, hcell⟩
  · exact wpAny_loadName_local I.ok.kind hk hn hm go
  · rcases hk with hk | hk
    · exact wpAny_loadName_cell I.ok.kind hk hc hcell go
    · rcases hx with k | k
      · have : X.env.scope.names.lookup x = some .free := hk
        rw [k] at this; cases this
      · have : X.env.scope.names.lookup x = some .free := hk
        rw [k] at this; cases this
/-- ints -/
def ipI (f : Int → Int → Int) : TIp := fun x y H Q => ∃ i j, x = .int i ∧ y = .int j ∧ Q (.int (f i j)) H
theorem ip_add : PIp X .Add (ipI fun i j => i + j) := by
  intro pins s σ H x y v u Q I r1 r2 h
  obtain ⟨i, j, e1, e2, q⟩ := h
  subst e1; subst e2
  obtain ⟨t, rfl⟩ := r1
  obtain ⟨t', rfl⟩ := r2
  exact iadd_int ⟨.int _, H, I.tok _, ⟨_, rfl⟩, q⟩
end

/-! ### while -/
section
variable {X : Cx} {pos : Pos}
/-- the invariant W with its measure -/
def tWhile (c : TT) (tb : TS) : TS := fun D σ H => ∃ W : Nat → St → Hp → Prop, (∃ m, W m σ H) ∧ ∀ m σ H, W m σ H →
  c σ H fun b H1 => if b = true then ∃ N : St → Hp → Prop, (∀ σ' H', N σ' H' → ∃ m', m' < m ∧ W m' σ' H') ∧ tb { D with nx := N, ct := N, bk := D.nx } σ H1 else D.nx σ H1
theorem ps_while {c : Expr} {body : List Stmt} {tc : TT} {tb : TS} (hp : PassesOwn (model X.prog X.w) X.A X.env X.xe) (hc : PT X c tc) (hb : PSs X body tb) : PS X (.While c body [] pos) (tWhile tc tb) := by
  intro pins s σ H D I h
  obtain ⟨W, ⟨m0, w0⟩, turn⟩ := h
  refine wpAny_While (codeAny_whileLoop (fun n s' => ∃ σ' H', Inv X pins σ' H' s' ∧ W n σ' H') ?_ m0 ⟨σ, H, I, w0⟩)
  rintro n s1 ⟨σ1, H1, I1, w1⟩
  refine wpAny_passesOwn hp (thn (hc pins s1 σ1 H1 _ I1 (turn n σ1 H1 w1)) fun b s2 ⟨H2, I2, q2⟩ => ?_)
  cases b with
  | true =>
    obtain ⟨N, hN, q2⟩ := q2
    rw [if_pos rfl]
    refine wpAny_passesOwn hp (thn (hb pins s2 σ1 H2 _ I2 q2) fun f s3 q3 => ?_)
    cases f with
    | next =>
      obtain ⟨σ3, H3, I3, n3⟩ := q3
      obtain ⟨m', hm, w3⟩ := hN σ3 H3 n3
      exact ⟨m', hm, σ3, H3, I3, w3⟩
    | cont =>
      obtain ⟨σ3, H3, I3, n3⟩ := q3
      obtain ⟨m', hm, w3⟩ := hN σ3 H3 n3
      exact ⟨m', hm, σ3, H3, I3, w3⟩
    | brk => exact q3
    | ret v => exact q3
  | false =>
    rw [if_neg Bool.false_ne_true]
    exact wpAny_execs_nil ⟨σ1, H2, I2, q2⟩
end

/-! ### what a loop or a comprehension walks -/
/-- at turn i: it yields x (the heap may grow), or it stops -/
structure It where
  go : Nat → Hp → Prop
  yld : Nat → Hp → V → Hp → Prop
  stop : Nat → Hp → Prop
/-- the iterator's own objects may turn: they are not the frame's, not pinned, younger than the entry (or a comprehension's own) -/
def FpOk (X : Cx) (pins : List (Addr × Obj)) (H : Hp) (b : Addr) : Prop :=
  H b = none ∧ b ≠ X.env.locals ∧ b ∉ X.fs ∧ (b ∈ X.ex ∨ X.s₀.heap.objs.size ≤ b) ∧ (∀ x c, X.env.cells.lookup x = some c → c ≠ b) ∧ ∀ p ∈ X.pn ++ pins, p.1 ≠ b
theorem Inv.fpOk {X : Cx} {pins : List (Addr × Obj)} {σ : St} {H H' : Hp} {s : Shared} {b : Addr} (I : Inv X pins σ H s) (hb : s.heap.objs.size ≤ b) (hn : H' b = none) : FpOk X pins H' b := by
  refine ⟨hn, Nat.ne_of_gt (Nat.lt_of_lt_of_le I.lt hb), I.nofs hb, .inr (Nat.le_trans I.sz hb), fun x c e z => ?_, fun p hp z => ?_⟩
  · obtain ⟨v, q⟩ := I.cell x c e
    exact absurd (Nat.lt_of_lt_of_le q.lt (by rw [z]; exact hb)) (Nat.lt_irrefl _)
  · exact absurd (Nat.lt_of_lt_of_le (Heap.lt_size (I.pin p hp).1) (by rw [z]; exact hb)) (Nat.lt_irrefl _)
structure Turn (P : Program) (w : World) (K : PySem.W.Frag) (tg : Expr) (J : It) (fp : List Addr) (it : Addr) (tn : Nat → Heap → Prop) : Prop where
  mem : it ∈ fp
  obj : ∀ i h, tn i h → ∀ b ∈ fp, ∃ o, h.get? b = some o ∧ ∀ v, o.data ≠ .cell v
  keep : ∀ i h h', tn i h → (∀ b ∈ fp, ∀ o, h.get? b = some o → h'.get? b = some o) → tn i h'
  item : ∀ (X : Cx), X.prog = P → X.w = w → X.K = K → X.calm = true → ∀ (i : Nat) (pins : List (Addr × Obj)) (s : Shared) (σ : St) (H : Hp) (E : Value → Shared → Prop), Inv X pins σ H s → (∀ b ∈ fp, FpOk X pins H b) → tn i s.heap → J.go i H →
    wpAny (model P w) X.A (pyNext (.ref it)) (fun r s1 => ∃ u, r = some u ∧
      wpAny (model P w) X.A (letOwnedTupleGo tg (.ref it) u) (fun _ s2 => ∃ x H', Inv X pins σ H' s2 ∧ RelV x u ∧ J.yld i H x H' ∧ tn (i + 1) s2.heap ∧ ∀ b ∈ fp, H' b = none) E s1) E s
  done : ∀ (X : Cx), X.prog = P → X.w = w → X.K = K → X.calm = true → ∀ (i : Nat) (pins : List (Addr × Obj)) (s : Shared) (σ : St) (H : Hp) (E : Value → Shared → Prop), Inv X pins σ H s → (∀ b ∈ fp, FpOk X pins H b) → tn i s.heap → J.stop i H →
    wpAny (model P w) X.A (pyNext (.ref it)) (fun r s1 => r = none ∧ Inv X pins σ H s1) E s
  self : ∀ (A : Around) (i : Nat) (s : Shared) (Q : Value → Shared → Prop) (E : Value → Shared → Prop), tn i s.heap → Q (.ref it) s → wpAny (model P w) A (pyIter (.ref it)) Q E s
abbrev TI := St → Hp → (It → Hp → Prop) → Prop
/-- an iterator has come -/
def PIE (X : Cx) (pins : List (Addr × Obj)) (σ : St) (tg : Expr) (R : It → Hp → Prop) (itv : Value) (s2 : Shared) : Prop :=
  ∃ (it : Addr) (fp : List Addr) (tn : Nat → Heap → Prop) (J : It) (H' : Hp), itv = .ref it ∧ Inv X pins σ H' s2 ∧ Turn X.prog X.w X.K tg J fp it tn ∧ tn 0 s2.heap ∧ (∀ b ∈ fp, FpOk X pins H' b) ∧ R J H'
def PI (X : Cx) (tg iter : Expr) (wi : TI) : Prop :=
  ∀ (pins : List (Addr × Obj)) (s : Shared) (σ : St) (H : Hp) (R : It → Hp → Prop), Inv X pins σ H s → wi σ H R →
    wpAny (model X.prog X.w) X.A (eval iter X.env) (fun v s1 => wpAny (model X.prog X.w) X.A (pyIter v) (PIE X pins σ tg R) X.xe s1) X.xe s

/-- the step ahead of the store is nothing for an iterator that keeps no tuple -/
theorem go_of {M : Model} {A : Around} {E : Value → Shared → Prop} {s : Shared} {tg : Expr} {it : Addr} {u : Value} {o : Obj} {n : String} {vs : Array Value} {Q : Unit → Shared → Prop} (ho : s.heap.get? it = some o) (hc : o.cls = .type n) (hd : o.data = .fields vs)
    (hn : ["enumerate", "zip", "dict_itemiterator", "dict_reverseitemiterator", "odict_iterator", "itertools.zip_longest", "itertools.pairwise"].contains n = false) (hQ : Q () s) : wpAny M A (letOwnedTupleGo tg (.ref it) u) Q E s := by
  unfold letOwnedTupleGo
  cases tg <;> first
    | exact wpAny_pure hQ
    | (cases u <;> first
        | exact wpAny_pure hQ
        | (refine wpAny_bind (wpAny_load ho ?_)
           rw [hc, hd]
           show wpAny M A (if (["enumerate", "zip", "dict_itemiterator", "dict_reverseitemiterator", "odict_iterator", "itertools.zip_longest", "itertools.pairwise"].contains n && vs[0]? == some (rawInt _)) = true then _ else _) Q E s
           rw [if_neg (by intro h; rw [hn, Bool.false_and] at h; cases h)]
           exact wpAny_pure hQ))

/-- the list at a, as it stands at each turn (a loop may append to it) -/
def Itl (K : PySem.W.Frag) (a : Addr) : It :=
  ⟨fun i H => ∃ xs x, SqL K H a xs ∧ xs[i]? = some x, fun i H x H' => H' = H ∧ ∀ xs, SqL K H a xs → xs[i]? = some x, fun i H => ∃ xs, SqL K H a xs ∧ xs.length ≤ i⟩
/-- lo, lo + 1, .. (n of them) -/
def Itr (lo : Int) (n : Nat) : It := ⟨fun i _ => i < n, fun i H x H' => H' = H ∧ x = .int (lo + i), fun i _ => n ≤ i⟩
theorem turn_list {P : Program} {w : World} {K : PySem.W.Frag} {tg : Expr} (a it : Addr) : Turn P w K tg (Itl K a) [it] it (fun i h => h.IsListIter it a i) where
  mem := by simp
  obj := fun i h st b hb => by
    have e : b = it := by simpa using hb
    subst e
    obtain ⟨o, e, c, d⟩ := st
    exact ⟨o, e, fun v z => by rw [d] at z; cases z⟩
  keep := fun i h h' st k => st.at fun o e => k it (by simp) o e
  item := by
    intro X hP hw hK hc i pins s σ H E I hf st hg
    subst hP hw hK
    obtain ⟨xs, x, hq, hx⟩ := hg
    obtain ⟨its, rv, p, hz⟩ := I.list hq
    obtain ⟨u, hu, ru⟩ := rv.get hx
    obtain ⟨f0, f1, f2, f3, f4, f5⟩ := hf it (by simp)
    refine wpAny_pyNext_list_item st p.isList (x := u) (by simpa using hu) fun h' st' sb => ?_
    have I1 : Inv X pins σ H { s with heap := h' } := I.turned (t' := s.toks) (fun b o hb e => (sb.2 b hb).trans e) f0 f1 f3 f4 f5
    obtain ⟨o, e, c, d⟩ := id st'
    exact ⟨u, rfl, go_of (s := { s with heap := h' }) e c d (by decide) ⟨x, H, I1, ru, ⟨rfl, fun ys hy => by rw [I.list_inj hy hq]; exact hx⟩, st', fun b hb => (hf b hb).1⟩⟩
  done := by
    intro X hP hw hK hc i pins s σ H E I hf st hg
    subst hP hw hK
    obtain ⟨xs, hq, hx⟩ := hg
    obtain ⟨its, rv, p, hz⟩ := I.list hq
    obtain ⟨f0, f1, f2, f3, f4, f5⟩ := hf it (by simp)
    have hl := rv.length
    exact wpAny_pyNext_list_end (I.ok.hd hc) st p.isList (by simp; omega) fun h' eb => ⟨rfl, I.turned (t' := s.toks) (fun b o hb e => eb b o hb e) f0 f1 f3 f4 f5⟩
  self := fun _ _ _ _ _ st h => wpAny_pyIter_listiter st h
theorem turn_range {P : Program} {w : World} {K : PySem.W.Frag} {tg : Expr} (it : Addr) (lo : Int) (n : Nat) : Turn P w K tg (Itr lo n) [it] it (fun i h => IsRangeIter h it (lo + (i : Nat) * 1) ((n : Int) - (i : Nat)) 1) where
  mem := by simp
  obj := fun i h st b hb => by
    have e : b = it := by simpa using hb
    subst e
    exact ⟨_, st, fun v z => by
      have z' : Data.fields _ = Data.cell v := z
      cases z'⟩
  keep := fun i h h' st k => k it (by simp) _ st
  item := by
    intro X hP hw hK hc i pins s σ H E I hf st hg
    subst hP hw hK
    obtain ⟨f0, f1, f2, f3, f4, f5⟩ := hf it (by simp)
    have W := Walks.range (prog := X.prog) (w := X.w) (I.ok.hd hc) it lo 1 n
    refine W.item i s _ _ hg st fun v h' tk hv st' kk => ?_
    obtain ⟨t, rfl⟩ := hv
    have I1 : Inv X pins σ H { s with heap := h', toks := tk } := I.turned (fun b o hb e => kk b o (by simpa using hb) e) f0 f1 f3 f4 f5
    refine ⟨_, rfl, go_of (s := { s with heap := h', toks := tk }) (n := "range_iterator") st' rfl rfl (by decide) ⟨.int (lo + i), H, I1, ⟨t, ?_⟩, ⟨rfl, rfl⟩, st', fun b hb => (hf b hb).1⟩⟩
    rw [Int.mul_one]
  done := by
    intro X hP hw hK hc i pins s σ H E I hf st hg
    subst hP hw hK
    obtain ⟨f0, f1, f2, f3, f4, f5⟩ := hf it (by simp)
    exact wpAny_pyNext_range_end (I.ok.hd hc) st (by have : n ≤ i := hg; omega) fun h' eb => ⟨rfl, I.turned (t' := s.toks) (fun b o hb e => eb b o hb e) f0 f1 f3 f4 f5⟩
  self := fun _ _ _ _ _ st h => wpAny_pyIter_rangeiter st h
end L2

namespace L2
open PySem PySem.Spec PyProof.Rows
section
variable {X : Cx} {tg : Expr}
def iList (K : PySem.W.Frag) (tl : TE) : TI := fun σ H R => tl σ H fun x H1 => ∃ a, x = .ref a ∧ (∃ xs, SqL K H1 a xs) ∧ R (Itl K a) H1
theorem pi_list {l : Expr} {tl : TE} (hl : PE X l tl) : PI X tg l (iList X.K tl) := by
  intro pins s σ H R I h
  refine thn (hl pins s σ H _ I h) fun v s1 ⟨x, H1, I1, r1, q1⟩ => ?_
  obtain ⟨a, e, ⟨xs, hq⟩, q⟩ := q1
  subst e
  cases r1
  obtain ⟨its, rv, p, hz⟩ := I1.list hq
  refine wpAny_pyIter_list p.isList ?_
  refine ⟨s1.heap.objs.size, [s1.heap.objs.size], _, _, H1, rfl, I1.kept (t' := s1.toks) fun b o e => Heap.get?_push_of_some _ e, turn_list a _, ⟨_, Heap.get?_push_size _ rfl, rfl, rfl⟩, fun b hb => ?_, q⟩
  have e : b = s1.heap.objs.size := by simpa using hb
  subst e
  exact I1.fpOk (Nat.le_refl _) (I1.hok.fresh (Nat.le_refl _))
/-- a range object just made, walked -/
theorem range_it {pins : List (Addr × Obj)} {σ : St} {H : Hp} {s : Shared} {R : It → Hp → Prop} {E : Value → Shared → Prop} {lo hi : Int} {t u v : Tok} {tk : Nat} (I : Inv X pins σ H s) (h1 : -(2 ^ 62) ≤ lo) (h2 : lo < 2 ^ 62) (h3 : -(2 ^ 62) ≤ hi) (h4 : hi < 2 ^ 62)
    (q : R (Itr lo (hi - lo).toNat) H) : wpAny (model X.prog X.w) X.A (pyIter (.ref s.heap.objs.size)) (PIE X pins σ tg R) E { s with heap := s.heap.push { cls := .type "range", data := .fields #[.int lo t, .int hi u, .int 1 v] }, toks := tk } := by
  refine wpAny_pyIter_range (IsRange.new ..) (small_one h1 h2 h3 h4) ?_
  have I1 : Inv X pins σ H { s with heap := s.heap.push { cls := .type "range", data := .fields #[.int lo t, .int hi u, .int 1 v] }, toks := tk } := I.kept fun b o e => Heap.get?_push_of_some _ e
  refine ⟨(s.heap.push { cls := .type "range", data := .fields #[.int lo t, .int hi u, .int 1 v] }).objs.size, [(s.heap.push { cls := .type "range", data := .fields #[.int lo t, .int hi u, .int 1 v] }).objs.size], _, _, H, rfl,
    I1.kept (t' := tk) fun b o e => Heap.get?_push_of_some _ e, turn_range _ lo (hi - lo).toNat, ?_, fun b hb => ?_, q⟩
  · have e1 : lo + ((0 : Nat) : Int) * 1 = lo := by simp
    have e2 : (((hi - lo).toNat : Nat) : Int) - ((0 : Nat) : Int) = Builtin.Range.rangeSize lo hi 1 := by rw [rangeSize_one]; split <;> omega
    show IsRangeIter _ _ (lo + ((0 : Nat) : Int) * 1) ((((hi - lo).toNat : Nat) : Int) - ((0 : Nat) : Int)) 1
    rw [e1, e2]
    exact Heap.get?_push_size _ rfl
  · have e : b = (s.heap.push { cls := .type "range", data := .fields #[.int lo t, .int hi u, .int 1 v] }).objs.size := by simpa using hb
    subst e
    exact I1.fpOk (Nat.le_refl _) (I1.hok.fresh (Nat.le_refl _))
def iRng1 (ta : TA) : TI := fun σ H R => ta σ H fun vs H1 => ∃ j : Int, vs = [.int j] ∧ -(2 ^ 62) ≤ j ∧ j < 2 ^ 62 ∧ R (Itr 0 j.toNat) H1
def iRng2 (ta : TA) : TI := fun σ H R => ta σ H fun vs H1 => ∃ i j : Int, vs = [.int i, .int j] ∧ (-(2 ^ 62) ≤ i ∧ i < 2 ^ 62 ∧ -(2 ^ 62) ≤ j ∧ j < 2 ^ 62) ∧ R (Itr i (j - i).toNat) H1
theorem pi_range1 {a : Expr} {ta : TA} {p pos : Pos} (hg : Gl X "range") (hm : X.mg "range" = none) (ha : PA X [a] ta) (hs : starEach [a] X.env = [(false, eval a X.env)] := by rfl) : PI X tg (.Call (.Name "range" p) [a] [] pos) (iRng1 ta) := by
  intro pins s σ H R I h
  refine Call_ (ld_blt I hg hm boot_range (PyProof.Rows.callWith_type1 (thn (ha pos pins s σ H _ I h) fun us s1 ⟨vs, H1, I1, r1, q1⟩ => ?_) hs rfl))
  obtain ⟨j, e, q1, q2, q⟩ := q1
  subst e
  cases r1 with
  | cons r rr =>
    cases rr
    obtain ⟨t, rfl⟩ := r
    exact call_range_1 (range_it I1 (by omega) (by omega) q1 q2 (by simpa using q))
theorem pi_range2 {a b : Expr} {ta : TA} {p pos : Pos} (hg : Gl X "range") (hm : X.mg "range" = none) (ha : PA X [a, b] ta) (hs : starEach [a, b] X.env = [(false, eval a X.env), (false, eval b X.env)] := by rfl) (hs2 : starEach [b] X.env = [(false, eval b X.env)] := by rfl) :
    PI X tg (.Call (.Name "range" p) [a, b] [] pos) (iRng2 ta) := by
  intro pins s σ H R I h
  refine Call_ (ld_blt I hg hm boot_range (PyProof.Rows.callWith_type1 (thn (ha pos pins s σ H _ I h) fun us s1 ⟨vs, H1, I1, r1, q1⟩ => ?_) (by rw [hs, hs2]) (by rw [hs2]; rfl)))
  obtain ⟨i, j, e, ⟨q1, q2, q3, q4⟩, q⟩ := q1
  subst e
  cases r1 with
  | cons r rr =>
    cases rr with
    | cons r' rr =>
      cases rr
      obtain ⟨t, rfl⟩ := r
      obtain ⟨t', rfl⟩ := r'
      exact call_range_2 (range_it I1 q1 q2 q3 q4 q)

/-! ### for -/
/-- W: the invariant by the turn and a measure; N: what the body is to reach -/
def tFor (wi : TI) (g : TG) (tb : TS) : TS := fun D σ H => wi σ H fun J H1 => ∃ W : Nat → Nat → St → Hp → Prop, (∃ m, W 0 m σ H1) ∧ ∀ i m σ H, W i m σ H →
  (J.stop i H ∧ D.nx σ H) ∨ (J.go i H ∧ ∃ N : St → Hp → Prop, (∀ σ' H', N σ' H' → ∃ m', m' < m ∧ W (i + 1) m' σ' H') ∧ ∀ x H', J.yld i H x H' → g x σ H' fun σ2 H2 => tb { D with nx := N, ct := N, bk := D.nx } σ2 H2)
/-- the records at fp as they stand -/
def pinsAt (fp : List Addr) (h : Heap) : List (Addr × Obj) := fp.filterMap fun b => (h.get? b).map fun o => (b, o)
theorem mem_pinsAt {fp : List Addr} {h : Heap} {b : Addr} {o : Obj} (hb : b ∈ fp) (e : h.get? b = some o) : (b, o) ∈ pinsAt fp h := List.mem_filterMap.mpr ⟨b, hb, by rw [e]; rfl⟩
theorem of_pinsAt {fp : List Addr} {h : Heap} {p : Addr × Obj} (hp : p ∈ pinsAt fp h) : p.1 ∈ fp ∧ h.get? p.1 = some p.2 := by
  obtain ⟨b, hb, e⟩ := List.mem_filterMap.mp hp
  cases q : h.get? b with
  | none => rw [q] at e; cases e
  | some o =>
    rw [q] at e
    have e' : (b, o) = p := Option.some.inj e
    subst e'
    exact ⟨hb, q⟩
theorem Inv.pinned {pins : List (Addr × Obj)} {σ : St} {H : Hp} {s : Shared} {fp : List Addr} (I : Inv X pins σ H s) (hf : ∀ b ∈ fp, FpOk X pins H b) (ho : ∀ b ∈ fp, ∃ o, s.heap.get? b = some o ∧ ∀ v, o.data ≠ .cell v) : Inv X (pins ++ pinsAt fp s.heap) σ H s :=
  I.pins_of fun p hp => (List.mem_append.mp hp).elim (fun z => I.pin p (List.mem_append_right _ z)) fun z => by
    obtain ⟨hb, e⟩ := of_pinsAt z
    obtain ⟨f0, f1, f2, _⟩ := hf p.1 hb
    obtain ⟨o, e', d⟩ := ho p.1 hb
    rw [e] at e'; cases e'
    exact ⟨e, f0, f1, f2, d⟩
theorem Inv.unpinned {pins pl : List (Addr × Obj)} {σ : St} {H : Hp} {s : Shared} (I : Inv X (pins ++ pl) σ H s) : Inv X pins σ H s := I.pins_of fun p hp => I.pin p (List.mem_append_right _ (List.mem_append_left _ hp))
theorem ps_for {iter : Expr} {body : List Stmt} {wi : TI} {g : TG} {tb : TS} {pos : Pos} (hp : PassesOwn (model X.prog X.w) X.A X.env X.xe) (hc : X.calm = true) (hi : PI X tg iter wi) (hg : PG X tg g) (hb : PSs X body tb)
    (hs : ∀ x, foldedSetIterable iter X.env x = pure x := by intro _; rfl) : PS X (.For tg iter body [] pos) (tFor wi g tb) := by
  intro pins s σ H D I h
  refine wpAny_For (thn (hi pins s σ H _ I h) fun v s1 h1 => thn h1 fun itv s2 h2 => ?_) hs
  obtain ⟨it, fp, tn, J, H2, e, I2, T, st2, f2, W, ⟨m0, w0⟩, turn⟩ := h2
  subst e
  -- what stays true of the iterator's objects through the loop
  have stat : ∀ {H' : Hp}, (∀ b ∈ fp, H' b = none) → ∀ b ∈ fp, FpOk X pins H' b := fun hn b hb => ⟨hn b hb, (f2 b hb).2⟩
  refine codeAny_forLoop_any (fun n s' => ∃ i σ' H', Inv X pins σ' H' s' ∧ tn i s'.heap ∧ (∀ b ∈ fp, H' b = none) ∧ W i n σ' H') ?_ m0 ⟨0, σ, H2, I2, st2, fun b hb => (f2 b hb).1, w0⟩
  rintro n s3 ⟨i, σ3, H3, I3, st3, fr3, w3⟩
  rcases turn i n σ3 H3 w3 with ⟨stop, qn⟩ | ⟨go, N, hN, step⟩
  · refine wpAny_passesOwn hp (thn (T.done X rfl rfl rfl hc i pins s3 σ3 H3 X.xe I3 (stat fr3) st3 stop) fun r s4 ⟨hr, I4⟩ => ?_)
    subst hr
    exact wpAny_execs_nil ⟨σ3, H3, I4, qn⟩
  · refine wpAny_passesOwn hp (thn (T.item X rfl rfl rfl hc i pins s3 σ3 H3 X.xe I3 (stat fr3) st3 go) fun r s4 ⟨u, hr, h4⟩ => ?_)
    subst hr
    refine wpAny_passesOwn hp (thn h4 fun _ s5 ⟨x, H5, I5, r5, y5, st5, fr5⟩ => ?_)
    have I5' := I5.pinned (stat fr5) (T.obj _ _ st5)
    refine wpAny_passesOwn hp (thn (hg _ s5 σ3 H5 x u _ I5' r5 (step x H5 y5)) fun _ s6 ⟨σ6, H6, I6, q6⟩ => ?_)
    refine wpAny_passesOwn hp (thn (hb _ s6 σ6 H6 _ I6 q6) fun f s7 q7 => ?_)
    have again : ∀ {σ7 : St} {H7 : Hp}, Inv X (pins ++ pinsAt fp s5.heap) σ7 H7 s7 → N σ7 H7 → ∃ m, m < n ∧ ∃ i σ' H', Inv X pins σ' H' s7 ∧ tn i s7.heap ∧ (∀ b ∈ fp, H' b = none) ∧ W i m σ' H' := fun {σ7 H7} I7 n7 => by
      obtain ⟨m', hm, w7⟩ := hN σ7 H7 n7
      refine ⟨m', hm, i + 1, σ7, H7, I7.unpinned, T.keep _ _ _ st5 fun b hb o e => (I7.pin (b, o) (List.mem_append_right _ (List.mem_append_right _ (mem_pinsAt hb e)))).1, fun b hb => ?_, w7⟩
      obtain ⟨o, e, d⟩ := T.obj _ _ st5 b hb
      exact (I7.pin (b, o) (List.mem_append_right _ (List.mem_append_right _ (mem_pinsAt hb e)))).2.1
    cases f with
    | next => obtain ⟨σ7, H7, I7, n7⟩ := q7; exact again I7 n7
    | cont => obtain ⟨σ7, H7, I7, n7⟩ := q7; exact again I7 n7
    | brk => obtain ⟨σ7, H7, I7, q7⟩ := q7; exact ⟨σ7, H7, I7.unpinned, q7⟩
    | ret v => obtain ⟨x7, σ7, H7, I7, r7, q7⟩ := q7; exact ⟨x7, σ7, H7, I7.unpinned, r7, q7⟩
end

/-! ### the forms one uses -/
/-- over a list that the body leaves as it is -/
theorem for_list {K : PySem.W.Frag} {a : Addr} {xs : List V} {g : TG} {tb : TS} {D : Ends} {σ : St} {H : Hp} (Pv : Nat → St → Hp → Prop) (h0 : Pv 0 σ H) (hl : ∀ i σ H, i ≤ xs.length → Pv i σ H → SqL K H a xs)
    (hs : ∀ i x σ H, xs[i]? = some x → Pv i σ H → g x σ H fun σ2 H2 => tb { D with nx := Pv (i + 1), ct := Pv (i + 1), bk := D.nx } σ2 H2) (hd : ∀ σ H, Pv xs.length σ H → D.nx σ H) :
    ∃ W : Nat → Nat → St → Hp → Prop, (∃ m, W 0 m σ H) ∧ ∀ i m σ H, W i m σ H →
      ((Itl K a).stop i H ∧ D.nx σ H) ∨ ((Itl K a).go i H ∧ ∃ N : St → Hp → Prop, (∀ σ' H', N σ' H' → ∃ m', m' < m ∧ W (i + 1) m' σ' H') ∧ ∀ x H', (Itl K a).yld i H x H' → g x σ H' fun σ2 H2 => tb { D with nx := N, ct := N, bk := D.nx } σ2 H2) := by
  refine ⟨fun i m σ H => m = xs.length - i ∧ i ≤ xs.length ∧ Pv i σ H, ⟨xs.length, by simp, Nat.zero_le _, h0⟩, ?_⟩
  rintro i m σ H ⟨rfl, hi, p⟩
  have q := hl i σ H hi p
  by_cases hlt : i < xs.length
  · refine .inr ⟨⟨xs, xs[i], q, by simp [hlt]⟩, Pv (i + 1), fun σ' H' p' => ⟨xs.length - (i + 1), by omega, rfl, hlt, p'⟩, fun x H' y => ?_⟩
    obtain ⟨e, y⟩ := y
    subst e
    exact hs i x σ _ (y xs q) p
  · have e : i = xs.length := by omega
    subst e
    exact .inl ⟨⟨xs, q, Nat.le_refl _⟩, hd σ H p⟩
theorem for_range {lo : Int} {n : Nat} {g : TG} {tb : TS} {D : Ends} {σ : St} {H : Hp} (Pv : Nat → St → Hp → Prop) (h0 : Pv 0 σ H)
    (hs : ∀ i σ H, i < n → Pv i σ H → g (.int (lo + i)) σ H fun σ2 H2 => tb { D with nx := Pv (i + 1), ct := Pv (i + 1), bk := D.nx } σ2 H2) (hd : ∀ σ H, Pv n σ H → D.nx σ H) :
    ∃ W : Nat → Nat → St → Hp → Prop, (∃ m, W 0 m σ H) ∧ ∀ i m σ H, W i m σ H →
      ((Itr lo n).stop i H ∧ D.nx σ H) ∨ ((Itr lo n).go i H ∧ ∃ N : St → Hp → Prop, (∀ σ' H', N σ' H' → ∃ m', m' < m ∧ W (i + 1) m' σ' H') ∧ ∀ x H', (Itr lo n).yld i H x H' → g x σ H' fun σ2 H2 => tb { D with nx := N, ct := N, bk := D.nx } σ2 H2) := by
  refine ⟨fun i m σ H => m = n - i ∧ i ≤ n ∧ Pv i σ H, ⟨n, by simp, Nat.zero_le _, h0⟩, ?_⟩
  rintro i m σ H ⟨rfl, hi, p⟩
  by_cases hlt : i < n
  · refine .inr ⟨hlt, Pv (i + 1), fun σ' H' p' => ⟨n - (i + 1), by omega, rfl, hlt, p'⟩, fun x H' y => ?_⟩
    obtain ⟨e, y⟩ := y
    subst e y
    exact hs i σ _ hlt p
  · have e : i = n := by omega
    subst e
    exact .inl ⟨Nat.le_refl _, hd σ H p⟩
/-- while, by a word and a measure of the state -/
theorem while_by {c : TT} {tb : TS} {D : Ends} {σ : St} {H : Hp} (Pv : St → Hp → Prop) (μ : St → Hp → Nat) (h0 : Pv σ H)
    (hs : ∀ σ H, Pv σ H → c σ H fun b H1 => if b = true then tb { D with nx := fun σ' H' => Pv σ' H' ∧ μ σ' H' < μ σ H, ct := fun σ' H' => Pv σ' H' ∧ μ σ' H' < μ σ H, bk := D.nx } σ H1 else D.nx σ H1)
    (mono : ∀ σ H Q Q', (∀ b H1, Q b H1 → Q' b H1) → c σ H Q → c σ H Q') : tWhile c tb D σ H := by
  refine ⟨fun m σ H => m = μ σ H ∧ Pv σ H, ⟨_, rfl, h0⟩, ?_⟩
  rintro m σ H ⟨rfl, p⟩
  refine mono σ H _ _ (fun b H1 q => ?_) (hs σ H p)
  cases b with
  | true => exact ⟨_, fun σ' H' ⟨p', l⟩ => ⟨_, l, rfl, p'⟩, q⟩
  | false => exact q
end L2

namespace L2
open PySem PySem.Spec PyProof.Rows

abbrev R2 := V → V → Hp → VK → Prop
/-- a two-place operation on values: f is binaryOp op, inplaceOp op or compareOp op -/
def OpR (X : Cx) (f : Value → Value → Sem Value) (r : R2) : Prop :=
  ∀ (pins : List (Addr × Obj)) (s : Shared) (σ : St) (H : Hp) (x y : V) (v u : Value) (Q : VK), Inv X pins σ H s → RelV x v → RelV y u → r x y H Q →
    wpAny (model X.prog X.w) X.A (f v u) (EP X pins σ Q) X.xe s
/-- a call of a value that is known (a builtin, a type) with values -/
def CallR (X : Cx) (f : Value) (r : List V → Hp → VK → Prop) : Prop :=
  ∀ (pins : List (Addr × Obj)) (s : Shared) (σ : St) (H : Hp) (xs : List V) (us : List Value) (Q : VK), Inv X pins σ H s → Vals xs us → r xs H Q →
    wpAny (model X.prog X.w) X.A (call f us) (EP X pins σ Q) X.xe s
def tOp (r : R2) (ta tb : TE) : TE := fun σ H Q => ta σ H fun x H1 => tb σ H1 fun y H2 => r x y H2 Q
/-- ints in, under C, and a value out -/
def rI (C : Int → Int → Prop) (g : Int → Int → V) : R2 := fun x y H Q => ∃ i j, x = .int i ∧ y = .int j ∧ C i j ∧ Q (g i j) H
def rI0 (g : Int → Int → V) : R2 := fun x y H Q => ∃ i j, x = .int i ∧ y = .int j ∧ Q (g i j) H
section
variable {X : Cx} {a b c : Expr} {ta tb tc : TE} {pos : Pos}

theorem binT (ha : PE X a ta) (hb : PE X b tb) {pins : List (Addr × Obj)} {s : Shared} {σ : St} {H : Hp} {R : V → V → Hp → Prop} (I : Inv X pins σ H s)
    (h : ta σ H fun x H1 => tb σ H1 fun y H2 => R x y H2) {Q : Value → Shared → Prop} {f : Value → Value → Sem Value}
    (hf : ∀ v u s2 x y H2, Inv X pins σ H2 s2 → RelV x v → RelV y u → R x y H2 → wpAny (model X.prog X.w) X.A (f v u) Q X.xe s2) :
    wpAny (model X.prog X.w) X.A (eval a X.env) (fun v s₁ => wpAny (model X.prog X.w) X.A (eval b X.env) (fun u s₂ => wpAny (model X.prog X.w) X.A (f v u) Q X.xe s₂) X.xe s₁) X.xe s := by
  refine thn (ha pins s σ H _ I h) fun v s1 ⟨x, H1, I1, r1, q1⟩ => ?_
  refine thn (hb pins s1 σ H1 _ I1 q1) fun u s2 ⟨y, H2, I2, r2, q2⟩ => ?_
  exact hf v u s2 x y H2 I2 r1 r2 q2

theorem pe_op {op : Operator} {r : R2} (ho : OpR X (binaryOp op) r) (ha : PE X a ta) (hb : PE X b tb) : PE X (.BinOp a op b pos) (tOp r ta tb) := by
  intro pins s σ H Q I h
  exact wpAny_BinOp (binT ha hb I h fun v u s2 x y H2 I2 rx ry q => ho pins s2 σ H2 x y v u Q I2 rx ry q)
/-! ### ints -/
theorem opI {f : Value → Value → Sem Value} {C : Int → Int → Prop} {g : Int → Int → Int}
    (rule : ∀ (i j : Int) (t u : Tok) (s : Shared) (Q : Value → Shared → Prop) (E : Value → Shared → Prop), C i j → Q (.int (g i j) s.toks) { s with toks := s.toks + 1 } → wpAny (model X.prog X.w) X.A (f (.int i t) (.int j u)) Q E s) :
    OpR X f (rI C fun i j => .int (g i j)) := by
  intro pins s σ H x y v u Q I rx ry h
  obtain ⟨i, j, rfl, rfl, hc, q⟩ := h
  obtain ⟨t, rfl⟩ := rx
  obtain ⟨t', rfl⟩ := ry
  exact rule i j t t' s _ _ hc ⟨.int (g i j), H, I.tok _, ⟨_, rfl⟩, q⟩
theorem opI0 {f : Value → Value → Sem Value} {g : Int → Int → Int}
    (rule : ∀ (i j : Int) (t u : Tok) (s : Shared) (Q : Value → Shared → Prop) (E : Value → Shared → Prop), Q (.int (g i j) s.toks) { s with toks := s.toks + 1 } → wpAny (model X.prog X.w) X.A (f (.int i t) (.int j u)) Q E s) :
    OpR X f (rI0 fun i j => .int (g i j)) := by
  intro pins s σ H x y v u Q I rx ry h
  obtain ⟨i, j, rfl, rfl, q⟩ := h
  obtain ⟨t, rfl⟩ := rx
  obtain ⟨t', rfl⟩ := ry
  exact rule i j t t' s _ _ ⟨.int (g i j), H, I.tok _, ⟨_, rfl⟩, q⟩
theorem opB0 {f : Value → Value → Sem Value} {g : Int → Int → Bool}
    (rule : ∀ (i j : Int) (t u : Tok) (s : Shared) (Q : Value → Shared → Prop) (E : Value → Shared → Prop), Q (.bool (g i j)) s → wpAny (model X.prog X.w) X.A (f (.int i t) (.int j u)) Q E s) :
    OpR X f (rI0 fun i j => .bl (g i j)) := by
  intro pins s σ H x y v u Q I rx ry h
  obtain ⟨i, j, rfl, rfl, q⟩ := h
  obtain ⟨t, rfl⟩ := rx
  obtain ⟨t', rfl⟩ := ry
  exact rule i j t t' s _ _ ⟨.bl (g i j), H, I, rfl, q⟩

def CDiv (i j : Int) : Prop := 0 < j ∧ j < 1073741824
def CMul (i j : Int) : Prop := (-(2 ^ 64) < i ∧ i < 2 ^ 64) ∨ (-(2 ^ 64) < j ∧ j < 2 ^ 64)
theorem CMul.ok {i j : Int} (h : CMul i j) : IntMulOk i j := by
  rcases h with ⟨h1, h2⟩ | ⟨h1, h2⟩
  · exact .of_left (intBits_le_64 h1 h2)
  · exact .of_right (intBits_le_64 h1 h2)
theorem op_add : OpR X (binaryOp .Add) (rI0 fun i j => .int (i + j)) := opI0 fun _ _ _ _ _ _ _ q => add_int q
theorem op_sub : OpR X (binaryOp .Sub) (rI0 fun i j => .int (i - j)) := opI0 fun _ _ _ _ _ _ _ q => sub_int q
theorem op_mul : OpR X (binaryOp .Mult) (rI CMul fun i j => .int (i * j)) := opI fun _ _ _ _ _ _ _ hc q => mul_int q hc.ok
/-- // by a positive divisor -/
theorem op_fdiv : OpR X (binaryOp .FloorDiv) (rI CDiv fun i j => .int (i / j)) := opI fun i j _ _ _ _ _ hc q => by
  have h1 : (0 : Int) < j := hc.1
  have h2 : j < 1073741824 := hc.2
  exact floordiv_int (by omega) (by rw [Int.fdiv_eq_ediv_of_nonneg i (by omega)]; exact q) (.inl (PyProof.noPylong_small (by omega)))
/-- % by a positive divisor of any size -/
theorem op_mod : OpR X (binaryOp .Mod) (rI (fun _ j => 0 < j) fun i j => .int (i % j)) := opI fun i j _ _ _ _ _ hc q => by
  have h1 : (0 : Int) < j := hc
  exact mod_int' (by omega) (by rw [Int.fmod_eq_emod_of_nonneg i (by omega)]; exact q)
theorem op_and : OpR X (binaryOp .BitAnd) (rI0 fun i j => .int (Builtin.bitAnd i j)) := opI0 fun _ _ _ _ _ _ _ q => and_int q
theorem op_or : OpR X (binaryOp .BitOr) (rI0 fun i j => .int (Builtin.bitOr i j)) := opI0 fun _ _ _ _ _ _ _ q => or_int q
/-! ### bools among ints: n += (a < b) -/
end

/-! ### comparisons -/
/-- the scalars that == tells apart as data does -/
def scal : V → V → Bool
  | .non, .non => true | .non, .int _ => true | .int _, .non => true | .non, .bl _ => true | .bl _, .non => true | .non, .str _ => true | .str _, .non => true
  | .int _, .int _ => true | .bl _, .bl _ => true | .str _, .str _ => true | .byt _, .byt _ => true
  | .int _, .str _ => true | .str _, .int _ => true | .bl _, .str _ => true | .str _, .bl _ => true
  | _, _ => false
def rEq : R2 := fun x y H Q => scal x y = true ∧ Q (.bl (decide (x = y))) H
def rNe : R2 := fun x y H Q => scal x y = true ∧ Q (.bl (!decide (x = y))) H

theorem dec_int {i j : Int} : decide (V.int i = V.int j) = (i == j) := by
  rw [Bool.eq_iff_iff]
  simp
theorem dec_bl {i j : Bool} : decide (V.bl i = V.bl j) = (i == j) := by
  rw [Bool.eq_iff_iff]
  simp
theorem dec_str {i j : Str} : decide (V.str i = V.str j) = (i == j) := by
  rw [Bool.eq_iff_iff]
  simp
theorem dec_byt {i j : Array UInt8} : decide (V.byt i = V.byt j) = (i.toList == j.toList) := by
  rw [Bool.eq_iff_iff]
  cases i
  cases j
  simp

section
variable {X : Cx} {a b c : Expr} {ta tb tc : TE} {pos : Pos}
theorem fin_bl {pins : List (Addr × Obj)} {σ : St} {H : Hp} {s : Shared} {Q : VK} {k k' : Bool} (I : Inv X pins σ H s) (q : Q (.bl k) H) (e : k = k') : EP X pins σ Q (.bool k') s := by
  subst e
  exact ⟨.bl k, H, I, rfl, q⟩
theorem op_eq : OpR X (compareOp .Eq) rEq := by
  intro pins s σ H x y v u Q I rx ry h
  obtain ⟨hs, q⟩ := h
  cases x with
  | non =>
    cases rx
    cases y with
    | non => cases ry; exact PySem.EqNone.eq_none_none (fin_bl I q (by simp))
    | bl j => cases ry; exact PySem.EqNone.eq_none_bool (fin_bl I q (by simp))
    | int j => obtain ⟨t', rfl⟩ := ry; exact PySem.EqNone.eq_none_int (fin_bl I q (by simp))
    | str j => obtain ⟨t', rfl⟩ := ry; exact PySem.EqNone.eq_none_str (fin_bl I q (by simp))
    | _ => exact absurd (show false = true from hs) Bool.false_ne_true
  | bl i =>
    cases rx
    cases y with
    | non => cases ry; exact PySem.EqNone.eq_bool_none (fin_bl I q (by simp))
    | bl j => cases ry; exact eq_bool (fin_bl I q dec_bl)
    | str j => obtain ⟨t', rfl⟩ := ry; exact PySem.EqMixed.eq_bool_str (fin_bl I q (by simp))
    | _ => exact absurd (show false = true from hs) Bool.false_ne_true
  | int i =>
    obtain ⟨t, rfl⟩ := rx
    cases y with
    | non => cases ry; exact PySem.EqNone.eq_int_none (fin_bl I q (by simp))
    | int j => obtain ⟨t', rfl⟩ := ry; exact eq_int (fin_bl I q dec_int)
    | str j => obtain ⟨t', rfl⟩ := ry; exact PySem.EqMixed.eq_int_str (fin_bl I q (by simp))
    | _ => exact absurd (show false = true from hs) Bool.false_ne_true
  | str i =>
    obtain ⟨t, rfl⟩ := rx
    cases y with
    | non => cases ry; exact PySem.EqNone.eq_str_none (fin_bl I q (by simp))
    | bl j => cases ry; exact PySem.EqMixed.eq_str_bool (fin_bl I q (by simp))
    | int j => obtain ⟨t', rfl⟩ := ry; exact PySem.EqMixed.eq_str_int (fin_bl I q (by simp))
    | str j => obtain ⟨t', rfl⟩ := ry; exact eq_str (fin_bl I q dec_str)
    | _ => exact absurd (show false = true from hs) Bool.false_ne_true
  | byt i =>
    obtain ⟨t, rfl⟩ := rx
    cases y with
    | byt j => obtain ⟨t', rfl⟩ := ry; exact PySem.W.eq_bytes (fin_bl I q dec_byt)
    | _ => exact absurd (show false = true from hs) Bool.false_ne_true
  | _ => cases y <;> exact absurd (show false = true from hs) Bool.false_ne_true
theorem op_ne : OpR X (compareOp .NotEq) rNe := by
  intro pins s σ H x y v u Q I rx ry h
  obtain ⟨hs, q⟩ := h
  cases x with
  | non =>
    cases rx
    cases y with
    | non => cases ry; exact PySem.EqNone.ne_none_none (fin_bl I q (by simp))
    | bl j => cases ry; exact PySem.EqNone.ne_none_bool (fin_bl I q (by simp))
    | int j => obtain ⟨t', rfl⟩ := ry; exact PySem.EqNone.ne_none_int (fin_bl I q (by simp))
    | str j => obtain ⟨t', rfl⟩ := ry; exact PySem.EqNone.ne_none_str (fin_bl I q (by simp))
    | _ => exact absurd (show false = true from hs) Bool.false_ne_true
  | bl i =>
    cases rx
    cases y with
    | non => cases ry; exact PySem.EqNone.ne_bool_none (fin_bl I q (by simp))
    | bl j => cases ry; exact ne_bool (fin_bl I q (congrArg not dec_bl))
    | str j => obtain ⟨t', rfl⟩ := ry; exact PySem.EqMixed.ne_bool_str (fin_bl I q (by simp))
    | _ => exact absurd (show false = true from hs) Bool.false_ne_true
  | int i =>
    obtain ⟨t, rfl⟩ := rx
    cases y with
    | non => cases ry; exact PySem.EqNone.ne_int_none (fin_bl I q (by simp))
    | int j => obtain ⟨t', rfl⟩ := ry; exact ne_int (fin_bl I q (congrArg not dec_int))
    | str j => obtain ⟨t', rfl⟩ := ry; exact PySem.EqMixed.ne_int_str (fin_bl I q (by simp))
    | _ => exact absurd (show false = true from hs) Bool.false_ne_true
  | str i =>
    obtain ⟨t, rfl⟩ := rx
    cases y with
    | non => cases ry; exact PySem.EqNone.ne_str_none (fin_bl I q (by simp))
    | bl j => cases ry; exact PySem.EqMixed.ne_str_bool (fin_bl I q (by simp))
    | int j => obtain ⟨t', rfl⟩ := ry; exact PySem.EqMixed.ne_str_int (fin_bl I q (by simp))
    | str j => obtain ⟨t', rfl⟩ := ry; exact ne_str (fin_bl I q (congrArg not dec_str))
    | _ => exact absurd (show false = true from hs) Bool.false_ne_true
  | byt i =>
    obtain ⟨t, rfl⟩ := rx
    cases y with
    | byt j => obtain ⟨t', rfl⟩ := ry; exact PySem.W.ne_bytes (fin_bl I q (congrArg not dec_byt))
    | _ => exact absurd (show false = true from hs) Bool.false_ne_true
  | _ => cases y <;> exact absurd (show false = true from hs) Bool.false_ne_true

theorem op_lt : OpR X (compareOp .Lt) (rI0 fun i j => .bl (decide (i < j))) := opB0 fun _ _ _ _ _ _ _ q => lt_int q
theorem op_le : OpR X (compareOp .LtE) (rI0 fun i j => .bl (decide (i ≤ j))) := opB0 fun _ _ _ _ _ _ _ q => le_int q
theorem op_gt : OpR X (compareOp .Gt) (rI0 fun i j => .bl (decide (j < i))) := opB0 fun _ _ _ _ _ _ _ q => gt_int q
theorem op_ge : OpR X (compareOp .GtE) (rI0 fun i j => .bl (decide (j ≤ i))) := opB0 fun _ _ _ _ _ _ _ q => ge_int q
/-- is None, is not None: the right side a value none -/
theorem op_isN : OpR X (compareOp .Is) (fun x y H Q => y = .non ∧ Q (.bl (decide (x = .non))) H) := by
  intro pins s σ H x y v u Q I rx ry h
  obtain ⟨rfl, q⟩ := h
  cases ry
  refine is_none_gen (fin_bl I q ?_)
  cases x <;> first
    | (cases rx; rfl)
    | (obtain ⟨t, rfl⟩ := rx; rfl)
theorem op_notN : OpR X (compareOp .IsNot) (fun x y H Q => y = .non ∧ Q (.bl (!decide (x = .non))) H) := by
  intro pins s σ H x y v u Q I rx ry h
  obtain ⟨rfl, q⟩ := h
  cases ry
  refine isnot_none_gen (fin_bl I q ?_)
  cases x <;> first
    | (cases rx; rfl)
    | (obtain ⟨t, rfl⟩ := rx; rfl)

theorem nomark (b : Expr) {op : CmpOp} (h : op ≠ .In := by decide) (h2 : op ≠ .NotIn := by decide) : behindInMarks op b = false := by
  have e1 : (op == CmpOp.In) = false := by cases op <;> first | rfl | exact absurd rfl h
  have e2 : (op == CmpOp.NotIn) = false := by cases op <;> first | rfl | exact absurd rfl h2
  cases b <;> simp [behindInMarks, e1, e2]
/-- a comparison as a value; hm: nomark b, or (for in, not in) by with_unfolding_all rfl -/
theorem pe_cmpR {op : CmpOp} {r : R2} (ho : OpR X (compareOp op) r) (ha : PE X a ta) (hb : PE X b tb) (hm : behindInMarks op b = false) : PE X (.Compare a [op] [b] pos) (tOp r ta tb) := by
  intro pins s σ H Q I h
  exact wpAny_Compare1 (binT ha hb I h fun v u s2 x y H2 I2 rx ry q => ho pins s2 σ H2 x y v u Q I2 rx ry q) hm
/-- a reading of a value as a test -/
def tTest (t : TE) : TT := fun σ H Q => t σ H fun x H' => ∃ k, x = .bl k ∧ Q k H'
theorem pt_cmpR {op : CmpOp} {r : R2} (ho : OpR X (compareOp op) r) (ha : PE X a ta) (hb : PE X b tb) (hm : behindInMarks op b = false) : PT X (.Compare a [op] [b] pos) (tTest (tOp r ta tb)) := by
  intro pins s σ H Q I h
  refine wpAny_isTrue_Compare1 (thn (ha pins s σ H _ I h) fun v s1 ⟨x, H1, I1, r1, q1⟩ => thn (hb pins s1 σ H1 _ I1 q1) fun u s2 ⟨y, H2, I2, r2, q2⟩ =>
    thn (ho pins s2 σ H2 x y v u _ I2 r1 r2 q2) fun c s3 ⟨z, H3, I3, r3, k, e, q3⟩ => ?_) hm
  subst e
  cases r3
  exact wpAny_truthy_bool ⟨H3, I3, q3⟩
/-- a op1 b op2 c -/
def tChain (r r' : R2) (ta tb tc : TE) : TE := fun σ H Q => ta σ H fun x H1 => tb σ H1 fun y H2 => r x y H2 fun z H3 => ∃ k, z = .bl k ∧
  (if k = true then tc σ H3 fun w' H4 => r' y w' H4 Q else Q (.bl false) H3)
theorem pe_chain {op op' : CmpOp} {r r' : R2} (ho : OpR X (compareOp op) r) (ho' : OpR X (compareOp op') r') (ha : PE X a ta) (hb : PE X b tb) (hc : PE X c tc)
    (hm : lastMarks [op, op'] [b, c] = false := by with_unfolding_all rfl) : PE X (.Compare a [op, op'] [b, c] pos) (tChain r r' ta tb tc) := by
  intro pins s σ H Q I h
  refine Compare_chain (thn (ha pins s σ H _ I h) fun v s1 ⟨x, H1, I1, r1, q1⟩ => chain_link (thn (hb pins s1 σ H1 _ I1 q1) fun u s2 ⟨y, H2, I2, r2, q2⟩ =>
    thn (ho pins s2 σ H2 x y v u _ I2 r1 r2 q2) fun d s3 ⟨z, H3, I3, r3, k, e, q3⟩ => ?_)) hm
  subst e
  cases r3
  refine wpAny_truthy_bool ?_
  cases k with
  | false => exact ite_ff ⟨.bl false, H3, I3, rfl, q3⟩
  | true => exact ite_tt (chain_last (thn (hc pins s3 σ H3 _ I3 q3) fun w' s4 ⟨z', H4, I4, r4, q4⟩ => ho' pins s4 σ H4 y z' u w' Q I4 r2 r4 q4))
theorem pt_chain {op op' : CmpOp} {r r' : R2} (ho : OpR X (compareOp op) r) (ho' : OpR X (compareOp op') r') (ha : PE X a ta) (hb : PE X b tb) (hc : PE X c tc)
    (hm : lastMarks [op, op'] [b, c] = false := by with_unfolding_all rfl) : PT X (.Compare a [op, op'] [b, c] pos) (tTest (tChain r r' ta tb tc)) := by
  intro pins s σ H Q I h
  refine isTrue_chain (thn (ha pins s σ H _ I h) fun v s1 ⟨x, H1, I1, r1, q1⟩ => test_link (thn (hb pins s1 σ H1 _ I1 q1) fun u s2 ⟨y, H2, I2, r2, q2⟩ =>
    thn (ho pins s2 σ H2 x y v u _ I2 r1 r2 q2) fun d s3 ⟨z, H3, I3, r3, k, e, q3⟩ => ?_)) hm
  subst e
  cases r3
  refine wpAny_truthy_bool ?_
  cases k with
  | false =>
    obtain ⟨k', e', q'⟩ := q3
    cases e'
    exact ite_ff ⟨H3, I3, q'⟩
  | true =>
    refine ite_tt (test_last (thn (hc pins s3 σ H3 _ I3 q3) fun w' s4 ⟨z', H4, I4, r4, q4⟩ => thn (ho' pins s4 σ H4 y z' u w' _ I4 r2 r4 q4) fun d' s5 ⟨z2, H5, I5, r5, k2, e2, q5⟩ => ?_))
    subst e2
    cases r5
    exact wpAny_truthy_bool ⟨H5, I5, q5⟩

/-! ### truth -/
theorem line63 : (sizeLine : Nat) < 2 ^ 63 := by rw [sizeLine_eq]; decide
/-! ### strs and bytes -/
/-! ### scalar builtins, by CallR -/
theorem vals1 {x : V} {us : List Value} (r : Vals [x] us) : ∃ u, us = [u] ∧ RelV x u := by
  cases r with
  | cons r1 r2 => cases r2; exact ⟨_, rfl, r1⟩
theorem vals2 {x y : V} {us : List Value} (r : Vals [x, y] us) : ∃ u w', us = [u, w'] ∧ RelV x u ∧ RelV y w' := by
  cases r with
  | cons r1 r2 =>
    cases r2 with
    | cons r3 r4 => cases r4; exact ⟨_, _, rfl, r1, r3⟩
theorem call_max2 (hc : X.calm = true) : CallR X (.builtin "max") (fun xs H Q => ∃ i j, xs = [.int i, .int j] ∧ Q (.int (if j > i then j else i)) H) := by
  intro pins s σ H xs us Q I r h
  obtain ⟨i, j, rfl, q⟩ := h
  obtain ⟨u, w', rfl, ⟨t, rfl⟩, ⟨t', rfl⟩⟩ := vals2 r
  refine max_two_ints (I.ok.hd hc) fun h' tk k => ⟨_, H, I.kept k, ?_, q⟩
  by_cases hj : j > i
  · rw [if_pos hj, if_pos hj]; exact ⟨_, rfl⟩
  · rw [if_neg hj, if_neg hj]; exact ⟨_, rfl⟩
theorem call_min2 (hc : X.calm = true) : CallR X (.builtin "min") (fun xs H Q => ∃ i j, xs = [.int i, .int j] ∧ Q (.int (if j < i then j else i)) H) := by
  intro pins s σ H xs us Q I r h
  obtain ⟨i, j, rfl, q⟩ := h
  obtain ⟨u, w', rfl, ⟨t, rfl⟩, ⟨t', rfl⟩⟩ := vals2 r
  refine min_two_ints (I.ok.hd hc) fun h' tk k => ⟨_, H, I.kept k, ?_, q⟩
  by_cases hj : j < i
  · rw [if_pos hj, if_pos hj]; exact ⟨_, rfl⟩
  · rw [if_neg hj, if_neg hj]; exact ⟨_, rfl⟩
end
end L2

namespace L2
open PySem PySem.Spec PyProof.Rows

/-! ### an instance, its attributes a map -/
structure ObjM (h : Heap) (x dx C : Addr) (mA : Str → Option Value) : Prop where
  obj : h.get? x = some (PySem.W.instObj C dx)
  ns : h.Ns1 dx mA
  ne : dx ≠ x

theorem lookIn_ns {h : Heap} {dx : Addr} {mA : Str → Option Value} (n : h.Ns1 dx mA) : ∃ od, h.get? dx = some od ∧ ∀ name, PySem.W.lookIn name od = some (mA name) := by
  obtain ⟨o, es, ep, ho, hd, hk, _, hm⟩ := n
  refine ⟨o, ho, fun name => ?_⟩
  have e := hm name
  unfold nsFind findBy at e
  rw [← Array.find?_toList] at e
  unfold PySem.W.lookIn
  rw [hd]
  dsimp only
  split
  · rename_i y q
    rw [q] at e
    exact congrArg some e
  · rename_i q
    rw [q] at e
    have a : es.toList.any (·.refKey) = false := by
      rw [List.any_eq_false]
      intro y hy
      obtain ⟨z, t, hkey⟩ := hk y (Array.mem_toList_iff.mp hy)
      simp [DictEntry.refKey, hkey]
    have a' : ¬ es.toList.any (·.refKey) = true := by rw [a]; exact Bool.false_ne_true
    rw [if_neg a']
    exact congrArg some e

theorem ObjM.look {h : Heap} {x dx C : Addr} {mA : Str → Option Value} (I : ObjM h x dx C mA) : ∃ od, PySem.W.InstAt h x (PySem.W.instObj C dx) C (some od) ∧ ∀ name, PySem.W.lookIn name od = some (mA name) :=
  let ⟨od, ho, hl⟩ := lookIn_ns I.ns
  ⟨od, ⟨I.obj, rfl, rfl, ho⟩, hl⟩

section
variable {prog : Program} {w : World} {A : Around} {E : Value → Shared → Prop} {s : Shared} {K : PySem.W.Frag} {x dx C f : Addr} {mA : Str → Option Value} {name : Str} {v : Value}

theorem get_map {expr : Bool} {Q : Value → Shared → Prop} (X : K.In s.heap) (I : ObjM s.heap x dx C mA) (hg : PySem.W.plainGet K C name = true) (hh : PySem.W.hasDictIn K C = true)
    (ha : PySem.W.findIn K (.ref C) name = some none) (hv : mA name = some v) (hv' : PySem.W.handedIn v = true) (h : Q v { s with toks := s.toks + 1 }) :
    wpAny (model prog w) A (getAttr (.ref x) name expr) Q E s := by
  obtain ⟨od, J, hl⟩ := I.look
  exact PySem.W.get_value X J (PySem.W.plainGet_of hg).1 (PySem.W.findObj_own hh ha rfl (by rw [hl, hv])) hv' h

theorem get_meth {pl : Sem Bool} {Q : Value × List Value → Shared → Prop} (X : K.In s.heap) (I : ObjM s.heap x dx C mA) (hg : PySem.W.plainGet K C name = true)
    (hf : PySem.W.findIn K (.ref C) name = some (some (.ref f))) (ht : PySem.W.isFn K (.ref f) = true) (hv : mA name = none) (h : Q (.ref f, [.ref x]) s) :
    wpAny (model prog w) A (getMethod (.ref x) name pl) Q E s := by
  obtain ⟨od, J, hl⟩ := I.look
  exact PySem.W.method_fn X J (PySem.W.plainGet_of hg).1 (PySem.W.plainGet_of hg).2 hf (beq_iff_eq.mp ht) (by show (PySem.W.lookIn name od).map (·.isSome) = some false; rw [hl, hv]; rfl) h

theorem set_map {ns : List Str} {Q : Unit → Shared → Prop} (X : K.In s.heap) (I : ObjM s.heap x dx C mA)
    (hs : PySem.W.findIn K (.ref C) "__setattr__" = some (some (.builtin "object.__setattr__"))) (hp : PySem.W.plainOver K C = true) (ht : PySem.W.takerIn K C name = some none) (hh : PySem.W.hasDictIn K C = true)
    (hw : PySem.Within mA ns) (hsz : ns.length ≤ sizeLine)
    (h : ∀ h', ObjM h' x dx C (fun y => if y = name then some v else mA y) → Heap.SameBut dx s.heap h' → Q () { s with heap := h', toks := s.toks + 2 }) :
    wpAny (model prog w) A (setAttr (.ref x) name v) Q E s := by
  obtain ⟨od, J, hl⟩ := I.look
  refine PySem.W.set_plain X J hs (PySem.W.osa_open (s := { s with toks := s.toks + 1 }) (r := none) X J hp ht fun b => ?_)
  obtain ⟨cd, hc, hd'⟩ := PySem.W.any_some hh
  have hx : s.heap.get? x = some ⟨.ref C, some dx, .plain, #[]⟩ := I.obj
  refine wpAny_bind (wpAny_pure (wpAny_bind (wpAny_bind (wpAny_loadPart hx (wpAny_bind (PySem.W.Looks.here (s := { s with toks := s.toks + 1 }) (PySem.W.looks_clsIn X hc) ?_))))))
  rw [hd']
  refine wpAny_pure (a := some dx) (wpAny_bind (wpAny_pure (wpAny_bind ?_)))
  refine wpAny_nsSet1 (s := { s with toks := s.toks + 1 }) I.ns fun h' hn2 hs2 => ?_
  obtain ⟨oD, esD, epD, hoD, hdD, hcD⟩ := hn2.count (PySem.Within.cons name v hw)
  refine wpAny_bind (wpAny_lookBehind hoD (by rw [hdD]; exact pastItsLine_dict (Nat.le_trans hcD (by rw [List.length_cons]; omega))) ?_)
  exact wpAny_pure (h _ ⟨(hs2.2 _ (Ne.symm I.ne)).trans I.obj, hn2, I.ne⟩ hs2)

/-- C(..): the dict at the heap's end, the instance behind it; then its __init__ -/
theorem make_map {R : Result → Shared → Prop} {vs : List Value} {kw : List (Str × Value)} (X : K.In s.heap) (hm : PySem.W.makesIn K C = true)
    (hi : PySem.W.findIn K (.ref C) "__init__" = some (some (.ref f))) (hf : PySem.W.typeIn K (.ref f) = some (.type "function"))
    (h : codeAny (model prog w) (A.under (.builtin "type.__call__" ⟨.ref C :: vs, kw⟩)) (.call (.ref f) ⟨.ref (s.heap.objs.size + 1) :: vs, kw⟩) (PySem.W.InitBack (s.heap.objs.size + 1) R)
      { s with heap := (s.heap.push PySem.W.emptyDict).push (PySem.W.instObj C s.heap.objs.size) }) :
    codeAny (model prog w) A (.call (.ref C) ⟨vs, kw⟩) R s := by
  obtain ⟨hh, g, d, t, os⟩ := s
  exact PySem.W.make_core (PySem.W.makes_of X hm) (PySem.W.looks_findIn X hi) (fun self => PySem.W.bind_fn X self hf) (.inl rfl) h
end

/-! ### the attributes as a list of pairs -/
def putF (f : Str) (v : V) : List (Str × V) → List (Str × V)
  | [] => [(f, v)]
  | (g, x) :: r => if g = f then (g, v) :: r else (g, x) :: putF f v r
theorem lookup_putF (f g : Str) (v : V) : ∀ fs : List (Str × V), (putF f v fs).lookup g = if g = f then some v else fs.lookup g
  | [] => by
    show List.lookup g [(f, v)] = _
    by_cases h : g = f
    · have hb : (g == f) = true := beq_iff_eq.mpr h
      simp only [List.lookup, hb, if_pos h]
    · have hb : (g == f) = false := beq_eq_false_iff_ne.mpr h
      simp only [List.lookup, hb, if_neg h]
  | (k, x) :: r => by
    have ih := lookup_putF f g v r
    rw [show putF f v ((k, x) :: r) = (if k = f then (k, v) :: r else (k, x) :: putF f v r) from rfl]
    by_cases hk : k = f
    · rw [if_pos hk]
      by_cases h : g = k
      · have hb : (g == k) = true := beq_iff_eq.mpr h
        simp only [List.lookup, hb, if_pos (h.trans hk)]
      · have hb : (g == k) = false := beq_eq_false_iff_ne.mpr h
        simp only [List.lookup, hb, if_neg (fun e : g = f => h (e.trans hk.symm))]
    · rw [if_neg hk]
      by_cases h : g = k
      · have hb : (g == k) = true := beq_iff_eq.mpr h
        simp only [List.lookup, hb, if_neg (fun e : g = f => hk (h.symm.trans e))]
      · have hb : (g == k) = false := beq_eq_false_iff_ne.mpr h
        simp only [List.lookup, hb]
        exact ih
theorem keys_putF (f : Str) (v : V) : ∀ fs : List (Str × V), f ∈ (putF f v fs).map (·.1) ∧ ∀ g, g ∈ fs.map (·.1) → g ∈ (putF f v fs).map (·.1)
  | [] => ⟨by simp [putF], fun g h => by simp at h⟩
  | (k, x) :: r => by
    obtain ⟨i1, i2⟩ := keys_putF f v r
    rw [show putF f v ((k, x) :: r) = (if k = f then (k, v) :: r else (k, x) :: putF f v r) from rfl]
    by_cases hk : k = f
    · rw [if_pos hk]
      subst hk
      exact ⟨by simp, fun g h => by simpa using h⟩
    · rw [if_neg hk]
      refine ⟨?_, fun g h => ?_⟩
      · rw [List.map_cons]
        exact List.mem_cons_of_mem _ i1
      · rw [List.map_cons] at h ⊢
        rcases List.mem_cons.mp h with e | e
        · exact List.mem_cons.mpr (.inl e)
        · exact List.mem_cons_of_mem _ (i2 g e)
theorem length_putF (f : Str) (v : V) : ∀ fs : List (Str × V), (putF f v fs).length ≤ fs.length + 1
  | [] => by simp [putF]
  | (k, x) :: r => by
    have ih := length_putF f v r
    rw [show putF f v ((k, x) :: r) = (if k = f then (k, v) :: r else (k, x) :: putF f v r) from rfl]
    by_cases hk : k = f
    · rw [if_pos hk, List.length_cons, List.length_cons]; omega
    · rw [if_neg hk, List.length_cons, List.length_cons]; omega

theorem RelO.some_of {v : V} {o : Option Value} (r : RelO (some v) o) : ∃ u, o = some u ∧ RelV v u := by
  cases o with
  | none => exact (show False from r).elim
  | some u => exact ⟨u, rfl, r⟩
theorem RelO.none_of {o : Option Value} (r : RelO none o) : o = none := by
  cases o with
  | none => rfl
  | some u => exact (show False from r).elim
theorem handed_of {v : V} {u : Value} (r : RelV v u) : PySem.W.handedIn u = true := by
  cases v with
  | non => cases (show u = Value.none from r); rfl
  | bl b => cases (show u = Value.bool b from r); rfl
  | int i => obtain ⟨t, e⟩ := (show ∃ t, u = Value.int i t from r); cases e; rfl
  | str x => obtain ⟨t, e⟩ := (show ∃ t, u = Value.str x t from r); cases e; rfl
  | byt b => obtain ⟨t, e⟩ := (show ∃ t, u = Value.bytes b t from r); cases e; rfl
  | flt b => obtain ⟨t, e⟩ := (show ∃ t, u = Value.float b t from r); cases e; rfl
  | ref a => cases (show u = Value.ref a from r); rfl
  | ty n => cases (show u = Value.type n from r); rfl

section
variable {P : Program} {w : World} {H H' : Hp} {h h' : Heap} {a C dx : Addr} {fs fs' : List (Str × V)}
theorem ins_get (hok : HOk P w H h) (e : H a = some (.ins C dx fs)) : ∃ mA, ObjM h a dx C mA ∧ (∀ f, RelO (fs.lookup f) (mA f)) ∧ PySem.Within mA (fs.map (·.1)) ∧ fs.length ≤ 1000 ∧ H dx = some (.own a) := by
  obtain ⟨d, z, ne, ob, mA, n, r, q⟩ := (show ObjOk P w H h a (.ins C dx fs) from hok a _ e)
  exact ⟨mA, ⟨ob, n, ne⟩, r, q, z, d⟩
end

/-! ### what of the text a class must have -/
structure Cls (K : PySem.W.Frag) (C : Addr) : Prop where
  pg : PySem.W.plainGet K C Str.empty = true
  hd : PySem.W.hasDictIn K C = true
  po : PySem.W.plainOver K C = true
  sa : PySem.W.findIn K (.ref C) "__setattr__" = some (some (.builtin "object.__setattr__"))
theorem Cls.get {K : PySem.W.Frag} {C : Addr} (c : Cls K C) (f : Str) : PySem.W.plainGet K C f = true := c.pg
/-- no class of it has the name -/
def NoAttr (K : PySem.W.Frag) (C : Addr) (f : Str) : Prop := PySem.W.findIn K (.ref C) f = some none
theorem NoAttr.taker {K : PySem.W.Frag} {C : Addr} {f : Str} (n : NoAttr K C f) : PySem.W.takerIn K C f = some none := by
  unfold PySem.W.takerIn
  rw [show PySem.W.findIn K (.ref C) f = some none from n]
  rfl
/-- a method: a plain def of the class or of one above it -/
structure Meth (K : PySem.W.Frag) (C : Addr) (m : Str) (f : Addr) : Prop where
  at_ : PySem.W.findIn K (.ref C) m = some (some (.ref f))
  fn : PySem.W.isFn K (.ref f) = true
  kp : PySem.W.keepIn K (.ref f) = true

section
variable {X : Cx} {pins : List (Addr × Obj)} {σ : St} {H : Hp} {s : Shared} {a C dx : Addr} {fs : List (Str × V)} {f : Str} {v : V} {A : Around} {E : Value → Shared → Prop}

theorem getattr_ok {b : Bool} {Q : Value → Shared → Prop} (I : Inv X pins σ H s) (e : H a = some (.ins C dx fs)) (c : Cls X.K C) (n : NoAttr X.K C f) (l : fs.lookup f = some v)
    (h : ∀ u s', Inv X pins σ H s' → RelV v u → Q u s') : wpAny (model X.prog X.w) A (getAttr (.ref a) f b) Q E s := by
  obtain ⟨mA, O, r, _, _, _⟩ := ins_get I.hok e
  obtain ⟨u, hu, ru⟩ := RelO.some_of (v := v) (o := mA f) (by rw [← l]; exact r f)
  exact get_map I.kIn O (c.get f) c.hd n hu (handed_of ru) (h u _ (I.tok _) ru)

theorem getmeth_ok {m : Str} {g : Addr} {pl : Sem Bool} {Q : Value × List Value → Shared → Prop} (I : Inv X pins σ H s) (e : H a = some (.ins C dx fs)) (c : Cls X.K C) (k : Meth X.K C m g) (l : fs.lookup m = none)
    (h : Q (.ref g, [.ref a]) s) : wpAny (model X.prog X.w) A (getMethod (.ref a) m pl) Q E s := by
  obtain ⟨mA, O, r, _, _, _⟩ := ins_get I.hok e
  have hn : mA m = none := RelO.none_of (by rw [← l]; exact r m)
  exact get_meth I.kIn O (c.get m) k.at_ k.fn hn h

theorem setattr_ok {y : V} {u : Value} {Q : Unit → Shared → Prop} (I : Inv X pins σ H s) (e : H a = some (.ins C dx fs)) (c : Cls X.K C) (n : NoAttr X.K C f) (hl : fs.length < 1000) (ry : RelV y u)
    (h : ∀ s', Inv X pins σ (upd H a (.ins C dx (putF f y fs))) s' → Q () s') : wpAny (model X.prog X.w) A (setAttr (.ref a) f u) Q E s := by
  obtain ⟨mA, O, r, wi, _, ho⟩ := ins_get I.hok e
  have hz : (fs.map (·.1)).length ≤ sizeLine := by rw [List.length_map, sizeLine_eq]; omega
  refine set_map I.kIn O c.sa c.po n.taker c.hd wi hz fun h' O' sb => h _ ?_
  have hd : ∃ o, h'.get? dx = some o := let ⟨o, _, _, e', _⟩ := O'.ns; ⟨o, e'⟩
  refine I.write (x := a) (e := dx) (by rw [e]; exact True.intro) (.inr ho) (fun b q hb z => (sb.2 b hb).trans z) hd ?_
  refine ⟨by rw [upd_ne O.ne]; exact ho, ?_, O.ne, O'.obj, _, O'.ns, fun g => ?_, fun g hg => ?_⟩
  · have := length_putF f y fs; omega
  · show RelO ((putF f y fs).lookup g) (if g = f then some u else mA g)
    rw [lookup_putF]
    by_cases q : g = f
    · rw [if_pos q, if_pos q]; exact ry
    · rw [if_neg q, if_neg q]; exact r g
  · by_cases q : g = f
    · rw [q]; exact (keys_putF f y fs).1
    · refine (keys_putF f y fs).2 g (wi g fun z => hg ?_)
      show (if g = f then some u else mA g) = none
      rw [if_neg q]; exact z

/-- a new instance, tracked, without attributes -/
theorem Inv.made (I : Inv X pins σ H s) : Inv X pins σ (upd (upd H s.heap.objs.size (.own (s.heap.objs.size + 1))) (s.heap.objs.size + 1) (.ins C s.heap.objs.size []))
    { s with heap := (s.heap.push PySem.W.emptyDict).push (PySem.W.instObj C s.heap.objs.size) } := by
  have e1 : (s.heap.push PySem.W.emptyDict).get? s.heap.objs.size = some PySem.W.emptyDict := Heap.get?_push_size s.heap rfl
  have e2 : ((s.heap.push PySem.W.emptyDict).push (PySem.W.instObj C s.heap.objs.size)).get? (s.heap.objs.size + 1) = some (PySem.W.instObj C s.heap.objs.size) := by
    have := Heap.get?_push_size (s.heap.push PySem.W.emptyDict) (o := PySem.W.instObj C s.heap.objs.size) rfl
    rwa [Heap.size_push] at this
  have e3 : (s.heap.push PySem.W.emptyDict).Ns s.heap.objs.size (fun _ => none) := ⟨PySem.W.emptyDict, #[], _, e1, rfl, (fun e he => absurd he (by simp)), fun _ => rfl⟩
  have I1 := I.laid (a := s.heap.objs.size) (o := .own (s.heap.objs.size + 1)) (h' := s.heap.push PySem.W.emptyDict) (t' := s.toks) (fun b u q => Heap.get?_push_of_some _ q) (Nat.le_refl _) ⟨_, e1⟩
  refine I1.laid (a := s.heap.objs.size + 1) (o := .ins C s.heap.objs.size []) (t' := s.toks) (fun b u q => Heap.get?_push_of_some _ q) (Nat.le_of_eq (Heap.size_push _ _)) ?_
  have ne : s.heap.objs.size ≠ s.heap.objs.size + 1 := Nat.ne_of_lt (Nat.lt_succ_self _)
  refine ⟨by rw [upd_ne ne, upd_same], Nat.zero_le _, ne, e2, fun _ => none, (Heap.Ns1.of_empty e3).at fun o q => Heap.get?_push_of_some _ q, fun _ => True.intro, fun y hy => absurd rfl hy⟩

/-- e.f where nothing but the object is asked: through attributeBase (super) and the last hold -/
theorem attr_of {prog : Program} {w : World} {env : Env} {e : Expr} {f : Str} {pos : Pos} {s : Shared} {Q : Value → Shared → Prop} (hb : attributeBase e f env (eval e env) = eval e env)
    (h : wpAny (model prog w) A (eval e env) (fun o s₁ => wpAny (model prog w) A (getAttr o f true) Q E s₁) E s) : wpAny (model prog w) A (eval (.Attribute e f pos) env) Q E s :=
  Attribute_any_ h (by rw [arm_eval_Attribute, hb])
end

/-! ### readings and rules -/
/-- e.f, an attribute of the instance -/
def tFld (K : PySem.W.Frag) (ta : TE) (f : Str) : TE := fun σ H Q => ta σ H fun x H1 => ∃ a C dx fs v, x = .ref a ∧ H1 a = some (.ins C dx fs) ∧ Cls K C ∧ NoAttr K C f ∧ fs.lookup f = some v ∧ Q v H1
/-- e.f = value -/
def sFld (K : PySem.W.Frag) (ta tv : TE) (f : Str) : TS := fun D σ H => tv σ H fun y H1 => ta σ H1 fun x H2 => ∃ a C dx fs, x = .ref a ∧ H2 a = some (.ins C dx fs) ∧ Cls K C ∧ NoAttr K C f ∧ fs.length < 1000 ∧
  D.nx σ (upd H2 a (.ins C dx (putF f y fs)))
/-- an augmented operator on two values -/
def InOp (X : Cx) (op : Operator) (rd : V → V → Hp → VK → Prop) : Prop :=
  ∀ (pins : List (Addr × Obj)) (s : Shared) (σ : St) (H : Hp) (x y : V) (u v : Value) (Q : VK), Inv X pins σ H s → RelV x u → RelV y v → rd x y H Q → wpAny (model X.prog X.w) X.A (inplaceOp op u v) (EP X pins σ Q) X.xe s
/-- e.f op= value -/
def sFldAug (K : PySem.W.Frag) (ta tv : TE) (rd : V → V → Hp → VK → Prop) (f : Str) : TS := fun D σ H => ta σ H fun x H1 => ∃ a C dx fs v, x = .ref a ∧ H1 a = some (.ins C dx fs) ∧ Cls K C ∧ NoAttr K C f ∧ fs.lookup f = some v ∧
  tv σ H1 fun y H2 => rd v y H2 fun z H3 => ∃ dx' fs', H3 a = some (.ins C dx' fs') ∧ fs'.length < 1000 ∧ D.nx σ (upd H3 a (.ins C dx' (putF f z fs')))

section
variable {X : Cx} {o e value : Expr} {f : Str} {pos pos' tpos : Pos} {ta tv : TE}
theorem pe_fld (he : PE X e ta) (hb : attributeBase e f X.env (eval e X.env) = eval e X.env) : PE X (.Attribute e f pos) (tFld X.K ta f) := by
  intro pins s σ H Q I h
  refine attr_of hb (thn (he pins s σ H _ I h) fun u s1 ⟨x, H1, I1, rx, a, C, dx, fs, v, ex, ea, c, n, l, q⟩ => ?_)
  subst ex
  obtain rfl : u = Value.ref a := rx
  exact getattr_ok I1 ea c n l fun u' s2 I2 ru => ⟨v, H1, I2, ru, q⟩
theorem ps_fld (ha : PE X o ta) (hv : PE X value tv) (hs : swapsWith value (some (.Attribute o f pos')) pos.line X.env = pure false) : PS X (.Assign [.Attribute o f pos'] value pos) (sFld X.K ta tv f) := by
  intro pins s σ H D I h
  refine plainObj_wpAny_Assign_Attribute (thn (hv pins s σ H _ I h) fun u s1 ⟨y, H1, I1, ry, q⟩ => thn (ha pins s1 σ H1 _ I1 q) fun ov s2 ⟨x, H2, I2, rx, a, C, dx, fs, ex, ea, c, n, l, q2⟩ => ?_) hs
  subst ex
  obtain rfl : ov = Value.ref a := rx
  exact setattr_ok I2 ea c n l ry fun s3 I3 => ⟨σ, _, I3, q2⟩
theorem ps_fldaug {op : Operator} {rd : V → V → Hp → VK → Prop} (ha : PE X o ta) (hv : PE X value tv) (hop : InOp X op rd) : PS X (.AugAssign (.Attribute o f tpos) op value pos) (sFldAug X.K ta tv rd f) := by
  intro pins s σ H D I h
  refine wpAny_AugAssign_AttributeAny (thn (ha pins s σ H _ I h) fun ov s1 ⟨x, H1, I1, rx, a, C, dx, fs, v, ex, ea, c, n, l, q⟩ => ?_)
  subst ex
  obtain rfl : ov = Value.ref a := rx
  refine getattr_ok I1 ea c n l fun u s2 I2 ru => thn (hv pins s2 σ H1 _ I2 q) fun w3 s3 ⟨y, H2, I3, ry, q3⟩ => thn (hop pins s3 σ H2 v y u w3 _ I3 ru ry q3) fun w4 s4 ⟨z, H3, I4, rz, dx', fs', ea', l', q4⟩ => ?_
  exact setattr_ok I4 ea' c n l' rz fun s5 I5 => ⟨σ, _, I5, q4⟩
def rAdd : V → V → Hp → VK → Prop := fun x y H Q => ∃ i j, x = .int i ∧ y = .int j ∧ Q (.int (i + j)) H
theorem in_add : InOp X .Add rAdd := by
  rintro pins s σ H x y u v Q I rx ry ⟨i, j, rfl, rfl, q⟩
  obtain ⟨t, rfl⟩ := (show ∃ t, u = Value.int i t from rx)
  obtain ⟨t', rfl⟩ := (show ∃ t', v = Value.int j t' from ry)
  exact PyProof.Rows.iadd_int ⟨.int (i + j), H, I.tok _, ⟨_, rfl⟩, q⟩
/-- what is between an instance and its method: the tree of a method call -/
theorem methcall_of {pl : Sem Bool} {m : Str} {apos : Pos} {args : List Expr} {pins : List (Addr × Obj)} {s : Shared} {σ : St} {H : Hp} {Q : Value → Shared → Prop} {te : TE} (he : PE X e te) (I : Inv X pins σ H s)
    (h : te σ H fun x H1 => ∃ a C dx fs g, x = .ref a ∧ H1 a = some (.ins C dx fs) ∧ Cls X.K C ∧ Meth X.K C m g ∧ fs.lookup m = none ∧
      ∀ s1, Inv X pins σ H1 s1 → wpAny (model X.prog X.w) X.A (callWith pos (.ref g) [.ref a] (backTo pos (starEach args X.env)) (backToKw pos (keywordEach [] X.env))) Q X.xe s1)
    (ht : eval (.Call (.Attribute e m apos) args [] pos) X.env = (do
      let ov ← eval e X.env
      standAt apos.atName
      let (f, first) ← holding [ov] (getMethod ov m pl)
      callWith pos f first (backTo pos (starEach args X.env)) (backToKw pos (keywordEach [] X.env)))) :
    wpAny (model X.prog X.w) X.A (eval (.Call (.Attribute e m apos) args [] pos) X.env) Q X.xe s := by
  refine PySem.W.methodCall_KW (pl := pl) (thn (he pins s σ H _ I h) fun u s1 ⟨x, H1, I1, rx, a, C, dx, fs, g, ex, ea, c, k, l, q⟩ => ?_) ht
  subst ex
  obtain rfl : u = Value.ref a := rx
  exact getmeth_ok I1 ea c k l (q s1 I1)
end

/-! ### isinstance -/
section
variable {X : Cx} {pins : List (Addr × Obj)} {σ : St} {H : Hp} {s : Shared} {A : Around} {E : Value → Shared → Prop} {Q : Value → Shared → Prop} {c : Value} {b : Bool}
end
end L2

namespace L2
open PySem PySem.Spec PyProof.Rows

/-! ### room -/
structure Room (k : Nat) (A : Around) : Prop where
  hd : A.handled = none
  dp : A.depth + 3 * k + 5 < recursionLimit
  un : A.units + 16 * k + 200 < cLine
theorem Room.mono {j k : Nat} {A : Around} (r : Room k A) (h : j ≤ k) : Room j A := ⟨r.hd, by have := r.dp; omega, by have := r.un; omega⟩
theorem Room.deeper {k : Nat} {A : Around} (r : Room (k + 1) A) (env : Env) : Room k (A.deeper env) :=
  ⟨r.hd, by have := r.dp; show A.depth + 1 + 3 * k + 5 < _; omega, by have := r.un; show A.units + 3 + 16 * k + 200 < _; omega⟩
theorem make_depth {A : Around} {C : Addr} {us : List Value} {kw : List (Str × Value)} : (A.under (.builtin "type.__call__" ⟨.ref C :: us, kw⟩)).depth = A.depth + 1 := by
  first | rfl | simp [Around.under, Code.weight, Code.isCreation, Code.isGuard, Code.isCaller, Code.frames, Code.isFrame, guardIds]
theorem make_units {A : Around} {C : Addr} {us : List Value} {kw : List (Str × Value)} : (A.under (.builtin "type.__call__" ⟨.ref C :: us, kw⟩)).units = A.units + 1 := by
  first | rfl | simp [Around.under, Code.cUnits, Code.frames, Code.isFrame]
theorem Room.make {k : Nat} {A : Around} (r : Room (k + 1) A) (C : Addr) (us : List Value) (kw : List (Str × Value)) : Room k (A.under (.builtin "type.__call__" ⟨.ref C :: us, kw⟩)) :=
  ⟨r.hd, by have := r.dp; rw [make_depth]; omega, by have := r.un; rw [make_units]; omega⟩
theorem Room.depth {k : Nat} {A : Around} (r : Room k A) : A.depth < recursionLimit := by have := r.dp; omega
theorem Room.units {k : Nat} {A : Around} (r : Room k A) : A.units + 64 < cLine := by have := r.un; omega
/-! ### argument lists and displays -/
def tNil : TA := fun _ H Q => Q [] H
def tCons (ta : TE) (tr : TA) : TA := fun σ H Q => ta σ H fun x H1 => tr σ H1 fun xs H2 => Q (x :: xs) H2
section
variable {X : Cx} {e : Expr} {es : List Expr} {te : TE} {t : TA} {pos : Pos}
theorem pa_nil : PA X [] tNil := fun _ _ _ _ H Q I h => Calls.spliced_nil ⟨[], H, I, .nil, h⟩
theorem pa_cons (ha : PE X e te) (hr : PA X es t) (hs : starEach (e :: es) X.env = (false, eval e X.env) :: starEach es X.env := by rfl) : PA X (e :: es) (tCons te t) := by
  intro pos pins s σ H Q I h
  rw [hs]
  show wpAny _ _ (spliced ((false, eval e X.env) :: backTo pos (starEach es X.env))) _ _ s
  refine Calls.spliced_cons (thn (ha pins s σ H _ I h) fun u s1 ⟨x, H1, I1, r1, q1⟩ => ?_)
  exact thn (hr pos pins s1 σ H1 _ I1 q1) fun us s2 ⟨xs, H2, I2, r2, q2⟩ => ⟨x :: xs, H2, I2, .cons r1 r2, q2⟩

/-- a tuple, a list of written items -/
def tTup (t : TA) : TE := fun σ H Q => t σ H fun xs H1 => xs.length ≤ sizeLine ∧ ∀ p, H1 p = none → Q (.ref p) (upd H1 p (.tup xs))
def tLst (t : TA) : TE := fun σ H Q => t σ H fun xs H1 => xs.length ≤ sizeLine ∧ ∀ p, H1 p = none → Q (.ref p) (upd H1 p (.lst xs))
theorem pe_tup {x1} (h : PA X es t) : PE X (.Tuple es x1 pos) (tTup t) := by
  intro pins s σ H Q I hq
  refine wpAny_Tuple_spliced (thn (h pos pins s σ H _ I hq) fun us s1 ⟨xs, H1, I1, r, z, q⟩ => ⟨by rw [← r.length]; exact z, ?_⟩)
  have hf : H1 s1.heap.objs.size = none := I1.hok.fresh (Nat.le_refl _)
  refine ⟨.ref s1.heap.objs.size, upd H1 s1.heap.objs.size (.tup xs), I1.laid (t' := s1.toks) (fun b u e => Heap.get?_push_of_some _ e) (Nat.le_refl _) ?_, rfl, q _ hf⟩
  exact ⟨z, us, r, ⟨_, Heap.get?_push_size _ rfl, rfl, _, rfl⟩⟩
theorem pe_lst (h : PA X es t) : PE X (.List es pos) (tLst t) := by
  intro pins s σ H Q I hq
  refine wpAny_List_spliced (thn (h pos pins s σ H _ I hq) fun us s1 ⟨xs, H1, I1, r, z, q⟩ => ⟨by rw [← r.length]; exact z, ?_⟩)
  have hf : H1 s1.heap.objs.size = none := I1.hok.fresh (Nat.le_refl _)
  refine ⟨.ref s1.heap.objs.size, upd H1 s1.heap.objs.size (.lst xs), I1.laid (t' := s1.toks) (fun b u e => Heap.get?_push_of_some _ e) (Nat.le_refl _) ?_, rfl, q _ hf⟩
  exact ⟨z, us, 0, r, Heap.get?_push_size _ rfl⟩
end

/-! ### what a def promises -/
/-- a def's promise: the bound arguments in the parameters' order, the heap, the wanted end, the wanted exception -/
abbrev Sp := List V → Hp → VK → XK → Prop
/-- how an exception lies behind a call (file 08 gives it): the callers' frames, abstract heap and state ahead of the call, the wish, the exception, the state -/
abbrev CXT := List Env → Hp → Shared → XK → Value → Shared → Prop

/-- the state at a call -/
structure Env0 (P : Program) (w : World) (K : PySem.W.Frag) (mg : Str → Option Value) (base : Heap) (A : Around) (outer : List Env) (s : Shared) (H : Hp) : Prop where
  frames : A.frames = some outer
  mod : Mod K mg base
  bs : ∀ b o, base.get? b = some o → s.heap.get? b = some o ∧ H b = none
  bsz : base.objs.size ≤ s.heap.objs.size
  funs : s.heap.FunFrames base outer
  frf : ∀ b ∈ frs outer, H b = none
  hok : HOk P w H s.heap
  bare : AllBare s.gens
/-- a call's end -/
def CE (outer : List Env) (P : Program) (w : World) (H : Hp) (s : Shared) (Q : VK) (u : Value) (s' : Shared) : Prop :=
  ∃ v H', s'.os = s.os ∧ AllBare s'.gens ∧ Un (frs outer) [] H H' s.heap s'.heap ∧ HOk P w H' s'.heap ∧ RelV v u ∧ Q v H'
def CR (CX : CXT) (outer : List Env) (P : Program) (w : World) (H : Hp) (s : Shared) (Q : VK) (E : XK) (r : Result) (s' : Shared) : Prop :=
  match r with
  | .ok (.ret u) => CE outer P w H s Q u s'
  | .ok _ => False
  | .error e => CX outer H s E e s'
structure FnOk (P : Program) (w : World) (K : PySem.W.Frag) (mg : Str → Option Value) (base : Heap) (CX : CXT) (k : Nat) (f : Addr) (fd : FuncData) (ps : List Str) (sp : Sp) : Prop where
  len : ∀ vs H Q E, sp vs H Q E → vs.length = ps.length
  run : ∀ (A : Around) (outer : List Env) (s : Shared) (H : Hp) (args : Args) (us : List Value) (vs : List V) (Q : VK) (E : XK), Room k A → Env0 P w K mg base A outer s H → BindsTo s fd args (ps.zip us) → Vals vs us → sp vs H Q E →
    codeAny (model P w) A (.call (.ref f) args) (CR CX outer P w H s Q E) s
theorem Env0.make {P : Program} {w : World} {K : PySem.W.Frag} {mg : Str → Option Value} {base : Heap} {A : Around} {outer : List Env} {s : Shared} {H : Hp} (e : Env0 P w K mg base A outer s H) (C : Addr) (us : List Value) (kw : List (Str × Value)) :
    Env0 P w K mg base (A.under (.builtin "type.__call__" ⟨.ref C :: us, kw⟩)) outer s H := ⟨by first | exact e.frames | (simpa [Around.under, Code.envs, Code.isFrame, pushEnvs] using e.frames), e.mod, e.bs, e.bsz, e.funs, e.frf, e.hok, e.bare⟩
section
variable {X : Cx} {pins : List (Addr × Obj)} {σ : St} {H : Hp} {s s' : Shared}
/-- from a body: what a callee wants -/
theorem Inv.env0 (I : Inv X pins σ H s) : Env0 X.prog X.w X.K X.mg X.base X.A X.stack s H :=
  ⟨I.ok.frames, I.ok.mod, I.bs, Nat.le_trans I.ok.bsz I.sz, I.stack, I.stkFree, I.hok, I.bare⟩
/-- behind a call -/
theorem Inv.after {Q : VK} {u : Value} (I : Inv X pins σ H s) (h : CE X.stack X.prog X.w H s Q u s') : EP X pins σ Q u s' := by
  obtain ⟨v, H', os, bare, un, hok, r, q⟩ := h
  obtain ⟨hh, g, d, t, os'⟩ := s'
  obtain rfl : os' = s.os := os
  exact ⟨v, H', I.call (h' := hh) (g' := g) (d' := d) (t' := t) (ch := []) un hok bare (fun b z => absurd z (by simp)), r, q⟩
end

/-! ### calls -/
/-- f(..): the written arguments, then the defaults dvs; E: what is wanted of an exception -/
def tCall (sp : Sp) (dvs : List V) (E : XK) (t : TA) : TE := fun σ H Q => t σ H fun vs H1 => sp (vs ++ dvs) H1 Q E
/-- o.m(..) of an instance of the class at C -/
def tMeth (C : Addr) (m : Str) (sp : Sp) (dvs : List V) (E : XK) (ta : TE) (t : TA) : TE := fun σ H Q => ta σ H fun x H1 => ∃ a dx fs, x = .ref a ∧ H1 a = some (.ins C dx fs) ∧ fs.lookup m = none ∧
  t σ H1 fun vs H2 => sp (x :: (vs ++ dvs)) H2 Q E
/-- C(..): a new instance and its dict, then __init__ -/
def tMake (C : Addr) (sp : Sp) (dvs : List V) (E : XK) (t : TA) : TE := fun σ H Q => t σ H fun vs H1 => ∀ x dx, H1 x = none → H1 dx = none → dx ≠ x →
  sp (.ref x :: (vs ++ dvs)) (upd (upd H1 dx (.own x)) x (.ins C dx [])) (fun v H2 => v = .non ∧ Q (.ref x) H2) E

/-- how the parameters are bound: us the positional arguments, kw the keywords' values by name, ds the defaults that fill up -/
def Binds (K : PySem.W.Frag) (fd : FuncData) (ps : List Str) (ds : List Value) : Prop :=
  ∀ (s : Shared) (us : List Value), K.In s.heap → (us ++ ds).length = ps.length → BindsTo s fd ⟨us, []⟩ (ps.zip (us ++ ds))
/-- every parameter is given -/
theorem Binds.all {K : PySem.W.Frag} {fd : FuncData} {ps : List Str} (h : ∀ us : List Value, us.length = ps.length → bindArgs fd ⟨us, []⟩ = pure (ps.zip us)) : Binds K fd ps [] := fun s us _ hl => by
  rw [List.append_nil] at hl ⊢
  exact .of_eq (h us hl)

/-- an exception of a callee reaches what this body wants of exceptions -/
def Passes (CX : CXT) (X : Cx) (E : XK) : Prop := ∀ (pins : List (Addr × Obj)) (σ : St) (H : Hp) (s : Shared) (e : Value) (s' : Shared), Inv X pins σ H s → CX X.stack H s E e s' → X.xe e s'

section
variable {X : Cx} {CX : CXT} {k : Nat} {f C : Addr} {fd : FuncData} {ps : List Str} {sp : Sp} {dvs : List V} {ds : List Value} {E : XK} {x m : Str} {p pos apos : Pos} {e o : Expr} {es : List Expr} {ta : TE} {t : TA}

/-- the callee runs -/
theorem run_fn {pins : List (Addr × Obj)} {σ : St} {H : Hp} {s : Shared} {Q : VK} {us : List Value} {vs : List V} (F : FnOk X.prog X.w X.K X.mg X.base CX k f fd ps sp) (hr : Room k X.A) (hb : Binds X.K fd ps ds) (hd : Vals dvs ds) (hx : Passes CX X E)
    (I : Inv X pins σ H s) (r : Vals vs us) (h : sp (vs ++ dvs) H Q E) : wpAny (model X.prog X.w) X.A (call (.ref f) us) (EP X pins σ Q) X.xe s := by
  have r2 : Vals (vs ++ dvs) (us ++ ds) := r.append hd
  have hl : (us ++ ds).length = ps.length := by rw [← r2.length]; exact F.len _ _ _ _ h
  refine wpAny_call (codeAny_mono (F.run X.A X.stack s H ⟨us, []⟩ (us ++ ds) (vs ++ dvs) Q E hr I.env0 (hb s us I.kIn hl) r2 h) fun r s' hq => ?_)
  cases r with
  | error e => exact hx pins σ H s e s' I hq
  | ok fl =>
    cases fl with
    | ret u => exact I.after hq
    | next => exact False.elim hq
    | brk => exact False.elim hq
    | cont => exact False.elim hq

theorem pe_call (F : FnOk X.prog X.w X.K X.mg X.base CX k f fd ps sp) (hr : Room k X.A) (hg : Gl X x) (hm : X.mg x = some (.ref f)) (hk : PySem.W.keepIn X.K (.ref f) = true) (hb : Binds X.K fd ps ds) (hd : Vals dvs ds) (hx : Passes CX X E)
    (ha : PA X (e :: es) t) (hdb : (x == ("__debug__" : Str)) = false := by decide) (he : starEach (e :: es) X.env = (false, eval e X.env) :: starEach es X.env := by rfl) (hpl : (backTo pos (starEach es X.env)).any (·.1) = false := by rfl) :
    PE X (.Call (.Name x p) (e :: es) [] pos) (tCall sp dvs E t) := by
  intro pins s σ H Q I h
  refine wpAny_Call_Name_kw (ld_glob I hg hm ?_ hdb)
  refine PySem.W.callWith_K (h₀ := X.base) I.ok.mod.kin hk (thn (ha pos pins s σ H _ I h) fun us s1 ⟨vs, H1, I1, r, q⟩ => ⟨I1.kIn, ?_⟩) he hpl
  exact run_fn F hr hb hd hx I1 r q
/-- o.m(e, ..) -/
theorem pe_meth {pl : Sem Bool} (he : PE X o ta) (c : Cls X.K C) (hm : Meth X.K C m f) (F : FnOk X.prog X.w X.K X.mg X.base CX k f fd ps sp) (hr : Room k X.A) (hb : Binds X.K fd ps ds) (hd : Vals dvs ds) (hx : Passes CX X E) (ha : PA X (e :: es) t)
    (hst : starEach (e :: es) X.env = (false, eval e X.env) :: starEach es X.env := by rfl) (hpl : (backTo pos (starEach es X.env)).any (·.1) = false := by rfl)
    (ht : eval (.Call (.Attribute o m apos) (e :: es) [] pos) X.env = (do
      let ov ← eval o X.env
      standAt apos.atName
      let (f, first) ← holding [ov] (getMethod ov m pl)
      callWith pos f first (backTo pos (starEach (e :: es) X.env)) (backToKw pos (keywordEach [] X.env))) := by rfl) :
    PE X (.Call (.Attribute o m apos) (e :: es) [] pos) (tMeth C m sp dvs E ta t) := by
  intro pins s σ H Q I h
  refine PySem.W.methodCall_KW (pl := pl) (thn (he pins s σ H _ I h) fun u s1 ⟨x, H1, I1, rx, a, dx, fs, ex, ea, l, q⟩ => ?_) ht
  subst ex
  obtain rfl : u = Value.ref a := rx
  refine getmeth_ok I1 ea c hm l ?_
  refine PySem.W.callWith_K (first := [.ref a]) (h₀ := X.base) I.ok.mod.kin hm.kp (thn (ha pos pins s1 σ H1 _ I1 q) fun us s2 ⟨vs, H2, I2, r, q2⟩ => ⟨I2.kIn, ?_⟩) hst hpl
  exact run_fn (us := .ref a :: us) (vs := .ref a :: vs) F hr hb hd hx I2 (.cons rfl r) q2
/-- o.m() -/
theorem pe_meth0 {pl : Sem Bool} (he : PE X o ta) (c : Cls X.K C) (hm : Meth X.K C m f) (F : FnOk X.prog X.w X.K X.mg X.base CX k f fd ps sp) (hr : Room k X.A) (hb : Binds X.K fd ps ds) (hd : Vals dvs ds) (hx : Passes CX X E)
    (ht : eval (.Call (.Attribute o m apos) [] [] pos) X.env = (do
      let ov ← eval o X.env
      standAt apos.atName
      let (f, first) ← holding [ov] (getMethod ov m pl)
      callWith pos f first (backTo pos (starEach [] X.env)) (backToKw pos (keywordEach [] X.env))) := by rfl) :
    PE X (.Call (.Attribute o m apos) [] [] pos) (tMeth C m sp dvs E ta tNil) := by
  intro pins s σ H Q I h
  refine PySem.W.methodCall_KW (pl := pl) (thn (he pins s σ H _ I h) fun u s1 ⟨x, H1, I1, rx, a, dx, fs, ex, ea, l, q⟩ => ?_) ht
  subst ex
  obtain rfl : u = Value.ref a := rx
  refine getmeth_ok I1 ea c hm l ?_
  exact PySem.W.callWith_K0 (first := [.ref a]) I1.kIn hm.kp (run_fn (us := [.ref a]) (vs := [.ref a]) F hr hb hd hx I1 (.cons rfl .nil) q)

/-- what a class must have to be made -/
structure Mk (K : PySem.W.Frag) (C f : Addr) : Prop where
  makes : PySem.W.makesIn K C = true
  init : PySem.W.findIn K (.ref C) "__init__" = some (some (.ref f))
  fn : PySem.W.isFn K (.ref f) = true
  kp : PySem.W.keepIn K (.ref C) = true

theorem run_make {pins : List (Addr × Obj)} {σ : St} {H : Hp} {s : Shared} {Q : VK} {us : List Value} {vs : List V} (M : Mk X.K C f) (F : FnOk X.prog X.w X.K X.mg X.base CX k f fd ps sp) (hr : Room (k + 1) X.A) (hb : Binds X.K fd ps ds) (hd : Vals dvs ds)
    (hx : Passes CX X E) (I : Inv X pins σ H s) (r : Vals vs us)
    (h : ∀ x dx, H x = none → H dx = none → dx ≠ x → sp (.ref x :: (vs ++ dvs)) (upd (upd H dx (.own x)) x (.ins C dx [])) (fun v H2 => v = .non ∧ Q (.ref x) H2) E) :
    wpAny (model X.prog X.w) X.A (call (.ref C) us) (EP X pins σ Q) X.xe s := by
  have hq := h (s.heap.objs.size + 1) s.heap.objs.size (I.hok.fresh (Nat.le_succ _)) (I.hok.fresh (Nat.le_refl _)) (Nat.ne_of_lt (Nat.lt_succ_self _))
  have I2 := Inv.made (C := C) I
  have r2 : Vals (V.ref (s.heap.objs.size + 1) :: (vs ++ dvs)) (Value.ref (s.heap.objs.size + 1) :: (us ++ ds)) := .cons rfl (r.append hd)
  have hl : (Value.ref (s.heap.objs.size + 1) :: us ++ ds).length = ps.length := by
    have e := r2.length
    rw [F.len _ _ _ _ hq] at e
    exact e.symm
  refine wpAny_call (make_map (f := f) I.kIn M.makes M.init (beq_iff_eq.mp M.fn) (codeAny_mono (F.run _ X.stack _ _ ⟨Value.ref (s.heap.objs.size + 1) :: us, []⟩ (Value.ref (s.heap.objs.size + 1) :: (us ++ ds)) _ _ E (hr.make C us [])
    (I2.env0.make C us []) (hb _ (Value.ref (s.heap.objs.size + 1) :: us) I2.kIn hl) r2 hq) fun r s' hq' => ?_))
  cases r with
  | error e => exact hx pins σ _ _ e s' I2 hq'
  | ok fl =>
    cases fl with
    | ret u =>
      obtain ⟨v, H', I3, rv, ev, q3⟩ := I2.after hq'
      subst ev
      exact ⟨rv, ⟨V.ref (s.heap.objs.size + 1), H', I3, rfl, q3⟩⟩
    | next => exact False.elim hq'
    | brk => exact False.elim hq'
    | cont => exact False.elim hq'
theorem pe_make (M : Mk X.K C f) (F : FnOk X.prog X.w X.K X.mg X.base CX k f fd ps sp) (hr : Room (k + 1) X.A) (hg : Gl X x) (hm : X.mg x = some (.ref C)) (hb : Binds X.K fd ps ds) (hd : Vals dvs ds) (hx : Passes CX X E)
    (ha : PA X (e :: es) t) (hdb : (x == ("__debug__" : Str)) = false := by decide) (he : starEach (e :: es) X.env = (false, eval e X.env) :: starEach es X.env := by rfl) (hpl : (backTo pos (starEach es X.env)).any (·.1) = false := by rfl) :
    PE X (.Call (.Name x p) (e :: es) [] pos) (tMake C sp dvs E t) := by
  intro pins s σ H Q I h
  refine wpAny_Call_Name_kw (ld_glob I hg hm ?_ hdb)
  refine PySem.W.callWith_K (h₀ := X.base) I.ok.mod.kin M.kp (thn (ha pos pins s σ H _ I h) fun us s1 ⟨vs, H1, I1, r, q⟩ => ⟨I1.kIn, ?_⟩) he hpl
  exact run_make M F hr hb hd hx I1 r q
end

/-! ### keywords -/
section
variable {X : Cx} {CX : CXT} {k : Nat} {f C : Addr} {fd : FuncData} {ps ks : List Str} {sp : Sp} {E : XK} {x m : Str} {p pos apos kpos : Pos} {e o : Expr} {es : List Expr} {kws : List Keyword} {te ta : TE} {t tk : TA} {nm : Option Str}
variable {g : List Value → List Value → List Value} {gV : List V → List V → List V}
end

/-! ### a def's body keeps its promise -/
/-- names: the parameters first -/
structure FnScope (N P : List Str) (sc : Scope) : Prop where
  kind : sc.kind = .function
  co : sc.isCoroutine = false
  gen : sc.isGenerator = false
  nd : N.Nodup
  pre : N.take P.length = P
  par : ∀ x ∈ P, sc.names.lookup x = some .local ∨ sc.names.lookup x = some .cell
  nofree : ∀ y ∈ sc.names, y.2 ≠ .free

theorem bindL_out {kindOf : Str → Option NameKind} {x : Str} : ∀ {binds : List (Str × Value)} {m : Str → Option Value}, (∀ v, (x, v) ∉ binds) → bindL kindOf binds m x = m x
  | [], _, _ => rfl
  | (n, v) :: r, m, h => by
    unfold bindL
    rw [bindL_out fun w hw => h w (List.mem_cons_of_mem _ hw)]
    split
    · have : x ≠ n := by rintro rfl; exact h v List.mem_cons_self
      simp [this]
    · rfl
theorem bindC_out {kindOf : Str → Option NameKind} {x : Str} : ∀ {binds : List (Str × Value)} {m : Str → Option Value}, (∀ v, (x, v) ∉ binds) → bindC kindOf binds m x = m x
  | [], _, _ => rfl
  | (n, v) :: r, m, h => by
    unfold bindC
    rw [bindC_out fun w hw => h w (List.mem_cons_of_mem _ hw)]
    split
    · rfl
    · have : x ≠ n := by rintro rfl; exact h v List.mem_cons_self
      simp [this]
theorem bindL_get {kindOf : Str → Option NameKind} {x : Str} {v : Value} : ∀ {P : List Str} {vs : List Value} {i : Nat} {m : Str → Option Value}, P.Nodup → P[i]? = some x → vs[i]? = some v → kindOf x = some .local →
    bindL kindOf (P.zip vs) m x = some v
  | [], _, _, _, _, h, _, _ => by simp at h
  | _ :: _, [], _, _, _, _, h, _ => by simp at h
  | p :: P, w :: vs, 0, m, nd, h1, h2, hk => by
    simp at h1 h2; subst h1; subst h2
    show bindL kindOf ((p, w) :: P.zip vs) m p = _
    unfold bindL
    rw [bindL_out fun v hv => (List.nodup_cons.mp nd).1 (List.of_mem_zip hv).1, if_pos hk]
    simp
  | p :: P, w :: vs, i + 1, m, nd, h1, h2, hk => by
    show bindL kindOf ((p, w) :: P.zip vs) m x = _
    unfold bindL
    exact bindL_get (i := i) (List.nodup_cons.mp nd).2 (by simpa using h1) (by simpa using h2) hk
theorem bindC_get {kindOf : Str → Option NameKind} {x : Str} {v : Value} : ∀ {P : List Str} {vs : List Value} {i : Nat} {m : Str → Option Value}, P.Nodup → P[i]? = some x → vs[i]? = some v → kindOf x ≠ some .local →
    bindC kindOf (P.zip vs) m x = some v
  | [], _, _, _, _, h, _, _ => by simp at h
  | _ :: _, [], _, _, _, _, h, _ => by simp at h
  | p :: P, w :: vs, 0, m, nd, h1, h2, hk => by
    simp at h1 h2; subst h1; subst h2
    show bindC kindOf ((p, w) :: P.zip vs) m p = _
    unfold bindC
    rw [bindC_out fun v hv => (List.nodup_cons.mp nd).1 (List.of_mem_zip hv).1, if_neg hk]
    simp
  | p :: P, w :: vs, i + 1, m, nd, h1, h2, hk => by
    show bindC kindOf ((p, w) :: P.zip vs) m x = _
    unfold bindC
    exact bindC_get (i := i) (List.nodup_cons.mp nd).2 (by simpa using h1) (by simpa using h2) hk

/-- the names' values at the entry -/
def start (N : List Str) (vs : List V) : St := vs.map some ++ List.replicate (N.length - vs.length) none

/-- the context of a def's body, at its entry; an exception leaves the frame, then lies as CX says -/
def cxOf (CX : CXT) (P : Program) (w : World) (K : PySem.W.Frag) (mg : Str → Option Value) (base : Heap) (N : List Str) (qual : Str) (scope : Scope) (f : Addr) (cd : Value) (A : Around) (outer : List Env) (s : Shared) (H : Hp) (E : XK) : Cx where
  prog := P
  w := w
  K := K
  mg := mg
  base := base
  A := A.deeper (envOfC qual scope s.heap.objs.size f cd)
  N := N
  s₀ := s
  H₀ := H
  env := envOfC qual scope s.heap.objs.size f cd
  outer := outer
  stack := envOfC qual scope s.heap.objs.size f cd :: outer
  ex := []
  calm := true
  fn := fun _ => true
  pn := []
  xe := fun e s' => wpAny (model P w) (A.deeper (envOfC qual scope s.heap.objs.size f cd)) (leaving (envOfC qual scope s.heap.objs.size f cd) e) (fun _ s'' => CX outer H s E e s'') (fun e' s'' => CX outer H s E e' s'') s'

theorem cell_has {sc : Scope} {n : Nat} {x : Str} (h : sc.names.lookup x = some .cell) : ∃ c, (cellsFrom n sc.names []).lookup x = some c := by
  have q := PySem.W.cellsFrom_some sc.names n [] (.inl h)
  exact Option.isSome_iff_exists.mp q

theorem inv_start {CX : CXT} {P : Program} {w : World} {K : PySem.W.Frag} {mg : Str → Option Value} {base : Heap} {N ps : List Str} {qual : Str} {scope : Scope} {f : Addr} {cd : Value} {A : Around} {outer : List Env} {s s1 : Shared} {H : Hp} {E : XK} {us : List Value} {vs : List V}
    (S : FnScope N ps scope) (hd : A.handled = none) (e0 : Env0 P w K mg base A outer s H) (hl : vs.length = ps.length) (r : Vals vs us)
    (x : InCallC s s.heap.objs.size (bindL (envOfC qual scope s.heap.objs.size f cd).kindOf (ps.zip us) fun _ => none) (cellsFrom (s.heap.objs.size + 1) scope.names []) (bindC (envOfC qual scope s.heap.objs.size f cd).kindOf (ps.zip us) fun _ => none) s1) :
    Inv (cxOf CX P w K mg base N qual scope f cd A outer s H E) [] (start N vs) H s1 := by
  have hpl : ps.length ≤ N.length := by have := congrArg List.length S.pre; rw [List.length_take] at this; omega
  obtain ⟨h1, tk, rfl, hk⟩ := x.done
  have noA : ∀ b : Addr, b ∉ (cxOf CX P w K mg base N qual scope f cd A outer s H E).ex := fun b z => absurd (show b ∈ ([] : List Addr) from z) (by simp)
  refine ⟨⟨e0.mod, S.kind, rfl, rfl, Nat.le_refl _, fun y z c h1 h2 => ?_, fun y hy => ?_, fun y c _ h => ?_, fun _ => hd, Around.frames_deeper e0.frames, .inr ⟨rfl, rfl⟩, fun b z => absurd z (noA b), e0.bs, e0.bsz, fun b _ _ => noA b, fun b z => absurd z (noA b), e0.funs, e0.frf⟩,
    rfl, e0.bare, Un.kept hk, ⟨_, x.toInCall.ns, fun i y v h1 h2 h3 => ?_⟩, fun y c h => ⟨_, x.cell y c h⟩, e0.hok.fresh (Nat.le_refl _), fun y c h => ?_, fun p hp => absurd (show p ∈ ([] : List (Addr × Obj)) from hp) (by simp), e0.hok.kept hk, ?_⟩
  · exact name_of_addr x.apart (PySem.mem_of_lookup h1) (PySem.mem_of_lookup h2)
  · have hy : scope.names.lookup y = some .cell ∨ scope.names.lookup y = some .free := hy
    rcases hy with hy | hy
    · exact cell_has hy
    · exact absurd rfl (S.nofree _ (PySem.mem_of_lookup hy))
  · exact Nat.le_of_lt (x.above y c (PySem.mem_of_lookup h))
  · have hi : i < vs.length := by
      unfold start at h2
      by_cases hi : i < vs.length
      · exact hi
      · rw [List.getElem?_append_right (by simpa using hi)] at h2
        rw [List.getElem?_replicate] at h2
        split at h2 <;> cases h2
    have ha : vs[i]? = some v := by
      unfold start at h2
      rw [List.getElem?_append_left (by simpa using hi), List.getElem?_map] at h2
      cases e : vs[i]? with
      | none => rw [e] at h2; cases h2
      | some a => rw [e] at h2; cases h2; rfl
    obtain ⟨u, hu, rv⟩ := r.get ha
    have hp : ps[i]? = some y := by
      rw [← S.pre, List.getElem?_take_of_lt (by omega)]; exact h1
    have ndP : ps.Nodup := by rw [← S.pre]; exact S.nd.sublist (List.take_sublist _ _)
    refine ⟨u, rv, ?_⟩
    rcases S.par y (List.mem_of_getElem? hp) with k | k
    · exact .inl ⟨k, bindL_get ndP hp hu k⟩
    · obtain ⟨c, e⟩ := cell_has (n := s.heap.objs.size + 1) k
      refine .inr ⟨.inl k, c, e, ?_⟩
      have q := x.cell y c e
      rw [bindC_get ndP hp hu (by show scope.names.lookup y ≠ _; rw [k]; decide)] at q
      exact q
  · exact e0.hok.fresh (Nat.le_of_lt (x.above y c (PySem.mem_of_lookup h)))
  · unfold start
    show _ = N.length
    rw [List.length_append, List.length_map, List.length_replicate]
    omega

/-- THE RULE: a def (or a method) of the text, by its body. The body's reading t is chosen for each entry; it is run at the parameters' values -/
theorem fn_of {CX : CXT} {P : Program} {w : World} {K : PySem.W.Frag} {mg : Str → Option Value} {base : Heap} {k : Nat} {f : Addr} {name qual : Str} {params : Arguments} {body : List Stmt} {scope : Scope} {dV kV doc pm cdv ct oc : Value} {an od : Option Addr}
    {osl : Array (Option Value)} {N ps : List Str} {sp : Sp} (lk : K.lookup f = some ⟨oc, od, .func (PySem.W.fnOf name qual params body scope dV kV doc pm an cdv ct), osl⟩) (hcd : PySem.W.codeIn K cdv qual = true) (S : FnScope N ps scope)
    (len : ∀ vs H Q E, sp vs H Q E → vs.length = ps.length)
    (hbody : ∀ (A : Around) (outer : List Env) (s : Shared) (H : Hp) (vs : List V) (Q : VK) (E : XK), Room k (A.deeper (envOfC qual scope s.heap.objs.size f cdv)) → sp vs H Q E →
      ∃ t, PSs (cxOf CX P w K mg base N qual scope f cdv A outer s H E) body t ∧ t { nx := fun _ H' => Q .non H', rt := Q } (start N vs) H) :
    FnOk P w K mg base CX (k + 1) f (PySem.W.fnOf name qual params body scope dV kV doc pm an cdv ct) ps sp := by
  refine ⟨len, fun A outer s H args us vs Q E hr e0 hb r hsp => ?_⟩
  have hl := len _ _ _ _ hsp
  have KX : K.In s.heap := e0.mod.kin.keeps fun b o e => (e0.bs b o e).1
  have lim : s.heap.NoLimit := e0.mod.nolimit.keeps fun b o e => (e0.bs b o e).1
  have hkind : ∀ y ∈ ps.zip us, scope.names.lookup y.1 = some .local ∨ (scope.names.lookup y.1 = some .cell ∧ ((cellsFrom (s.heap.objs.size + 1) scope.names []).lookup y.1).isSome = true) := fun ⟨n, v⟩ hy => by
    rcases S.par n (List.of_mem_zip hy).1 with q | q
    · exact .inl q
    · exact .inr ⟨q, PySem.W.cellsFrom_some _ _ _ (.inl q)⟩
  refine codeAny_call_function hr.depth (KX _ _ lk) rfl S.co S.gen rfl (PySem.W.codeRec_of KX hcd) (hb _ _ _ _ ?_)
  refine wpAny_newFunctionEnv_cells S.kind hkind fun env he s1 x => ?_
  subst he
  refine ⟨lim.keeps x.toInCall.keep, codeAny_func ?_⟩
  obtain ⟨t, ht, hq⟩ := hbody A outer s H vs Q E (hr.deeper _) hsp
  have I : Inv (cxOf CX P w K mg base N qual scope f cdv A outer s H E) [] (start N vs) H s1 := inv_start S hr.hd e0 hl r x
  refine wpAny_mono (ht [] s1 (start N vs) H _ I hq) (fun fl s' hs => ?_) fun e s' hs => hs
  have fin : ∀ {σ' : St} {H' : Hp} {v : V} {u : Value}, Inv (cxOf CX P w K mg base N qual scope f cdv A outer s H E) [] σ' H' s' → RelV v u → Q v H' → CE outer P w H s Q u s' :=
    fun {σ' H' v u} J rv q => ⟨v, H', J.os, J.bare, J.base, J.hok, rv, q⟩
  cases fl with
  | ret u =>
    obtain ⟨v, σ', H', J, rv, q⟩ := hs
    exact fin J rv q
  | next =>
    obtain ⟨σ', H', J, q⟩ := hs
    exact fin (v := V.non) (u := Value.none) J rfl q
  | brk =>
    obtain ⟨_, _, _, q⟩ := hs
    exact False.elim q
  | cont =>
    obtain ⟨_, _, _, q⟩ := hs
    exact False.elim q
end L2

namespace L2
open PySem PySem.Spec PyProof.Rows
section
variable {X : Cx} {x : Str} {p pos : Pos} {e : Expr} {es : List Expr} {t : TA} {id T : String} {r : List V → Hp → VK → Prop}

def tCB (r : List V → Hp → VK → Prop) (t : TA) : TE := fun σ H Q => t σ H fun vs H1 => r vs H1 Q
/-- f(e, ..), f a built-in function -/
theorem pe_callB (hc : CallR X (.builtin id) r) (hg : Gl X x) (hm : X.mg x = none) (hv : bootBuiltins x = some (.builtin id)) (ha : PA X (e :: es) t) (hn : x ≠ "__name__" := by decide) (hdb : (x == ("__debug__" : Str)) = false := by decide)
    (he : starEach (e :: es) X.env = (false, eval e X.env) :: starEach es X.env := by rfl) (hpl : (backTo pos (starEach es X.env)).any (·.1) = false := by rfl) : PE X (.Call (.Name x p) (e :: es) [] pos) (tCB r t) := by
  intro pins s σ H Q I h
  refine wpAny_Call_Name_kw (ld_blt I hg hm hv ?_ hn hdb)
  exact PyProof.Rows.callWith_builtin1 (thn (ha pos pins s σ H _ I h) fun us s1 ⟨vs, H1, I1, r1, q1⟩ => hc pins s1 σ H1 vs us Q I1 r1 q1) he hpl
end
end L2

namespace HT
open PySem PyProof.Rows

section
open PySem.SeqAt
open PySem.AutoSeq1 (wpAny_loadPart')
open PySem.MeetsSeq PySem.MeetsSeq2 PySem.MeetsSeq3

end

section
variable {prog : Program} {w : World} {A : Around} {E : Value → Shared → Prop} {s : Shared}

/-! ### t[a:b], not the whole -/
/-- a slice's bound as a place among n (d where it is left out) -/
def sIx (n d : Nat) : Option Int → Nat
  | none => d
  | some v => if v < 0 then (v + (n : Int)).toNat else min v.toNat n
theorem sIx_none (n d : Nat) : sIx n d none = d := rfl
theorem sIx_nat (n d k : Nat) : sIx n d (some (k : Int)) = min k n := by
  show (if (k : Int) < 0 then ((k : Int) + (n : Int)).toNat else min (k : Int).toNat n) = min k n
  rw [if_neg (by omega), Int.toNat_natCast]
end
end HT

namespace L2
open PySem PySem.Spec PyProof.Rows

/-! ### the parts of a slice -/
abbrev TO := St → Hp → (Option Int → Hp → Prop) → Prop
/-- a slice's part (left out, or an int) -/
def PO (X : Cx) (e : Option Expr) (t : TO) : Prop :=
  ∀ (pins : List (Addr × Obj)) (s : Shared) (σ : St) (H : Hp) (Q : Option Int → Hp → Prop), Inv X pins σ H s → t σ H Q →
    wpAny (model X.prog X.w) X.A (evalPart e X.env) (fun u s' => ∃ o H', Inv X pins σ H' s' ∧ IsPart u o ∧ Q o H') X.xe s
def tNoPart : TO := fun _ H Q => Q none H
def tPart (t : TE) : TO := fun σ H Q => t σ H fun x H1 => ∃ i, x = .int i ∧ Q (some i) H1

section
variable {X : Cx} {e : Expr} {te : TE} {lo hi : Option Expr} {tl th : TO} {pos p2 : Pos}

theorem po_none : PO X none tNoPart := by
  intro pins s σ H Q I h
  rw [evalPart_none]
  exact wpAny_pure ⟨none, H, I, .none, h⟩
theorem po_some (h : PE X e te) : PO X (some e) (tPart te) := by
  intro pins s σ H Q I hw
  rw [evalPart_some]
  refine thn (h pins s σ H _ I hw) fun u s1 ⟨x, H1, I1, r1, q1⟩ => ?_
  obtain ⟨i, rfl, q⟩ := q1
  obtain ⟨t, rfl⟩ := r1
  exact ⟨some i, H1, I1, .int i t, q⟩

/-- what a slice of a value is, by values: the slice object stands at sl -/
def SlR (X : Cx) (r : V → Option Int → Option Int → Hp → VK → Prop) : Prop :=
  ∀ (pins : List (Addr × Obj)) (s : Shared) (σ : St) (H : Hp) (x : V) (v vl vu : Value) (lo hi : Option Int) (sl : Addr) (Q : VK), Inv X pins σ H s → RelV x v → s.heap.IsSliceOf sl vl vu .none → IsPart vl lo → IsPart vu hi → r x lo hi H Q →
    ∃ T id, typeLookup (.type T) "__getitem__" = pure (some (.builtin id)) ∧ s.TypeIs v T ∧ wpAny (model X.prog X.w) X.A (getItem v (.ref sl)) (EP X pins σ Q) X.xe s
def tSl (r : V → Option Int → Option Int → Hp → VK → Prop) (te : TE) (tl th : TO) : TE := fun σ H Q => te σ H fun x H1 => tl σ H1 fun l H2 => th σ H2 fun u H3 => r x l u H3 Q
/-- a[lo:hi], any a -/
theorem pe_slice {r : V → Option Int → Option Int → Hp → VK → Prop} (hr : SlR X r) (he : PE X e te) (hl : PO X lo tl) (hu : PO X hi th) : PE X (.Subscript e (.Slice lo hi none p2) pos) (tSl r te tl th) := by
  intro pins s σ H Q I h
  refine Subscript_ (thn (he pins s σ H _ I h) fun v s1 ⟨x, H1, I1, r1, q1⟩ => ?_)
  refine wpAny_Slice (thn (hl pins s1 σ H1 _ I1 q1) fun vl s2 ⟨l, H2, I2, pl, q2⟩ => thn (hu pins s2 σ H2 _ I2 q2) fun vu s3 ⟨u, H3, I3, pu, q3⟩ => ?_)
  rw [evalPart_none]
  refine wpAny_pure ?_
  have I4 : Inv X pins σ H3 { s3 with heap := s3.heap.push { cls := .type "slice", data := .fields #[vl, vu, .none] } } := I3.kept (t' := s3.toks) fun b ob q => Heap.get?_push_of_some _ q
  obtain ⟨T, id, hT, ht, hg⟩ := hr pins { s3 with heap := s3.heap.push { cls := .type "slice", data := .fields #[vl, vu, .none] } } σ H3 x v vl vu l u s3.heap.objs.size Q I4 r1 (Heap.IsSliceOf.new ..) pl pu q3
  show wpAny (model X.prog X.w) X.A (subscriptTail e (.Slice lo hi none p2) v (.ref s3.heap.objs.size)) (EP X pins σ Q) X.xe { s3 with heap := s3.heap.push { cls := .type "slice", data := .fields #[vl, vu, .none] } }
  exact tail_any (ops := [.ref s3.heap.objs.size, v]) ht hT hg (by with_unfolding_all rfl)

/-- the items of xs[lo:hi] -/
def cutV (xs : List V) (lo hi : Option Int) : List V := (xs.drop (HT.sIx xs.length 0 lo)).take (HT.sIx xs.length xs.length hi - HT.sIx xs.length 0 lo)
theorem cutV_length (xs : List V) (lo hi : Option Int) : (cutV xs lo hi).length ≤ xs.length := by
  unfold cutV
  rw [List.length_take, List.length_drop]
  omega
/-! ### t < u, t + u -/
end
end L2

namespace L2
open PySem PySem.Spec PyProof.Rows

/-! ### places -/
/-- the place that an index of any sign means -/
def ixN (n : Nat) (i : Int) : Option Nat := if 0 ≤ i then (if i < n then some i.toNat else none) else if -(n : Int) ≤ i then some (i + n).toNat else none
def atI {α : Type} (xs : List α) (i : Int) : Option α := (ixN xs.length i).bind fun j => xs[j]?
theorem ixN_seq {n : Nat} {i : Int} {j : Nat} (h : ixN n i = some j) : seqIndex? i n = some j ∧ j < n ∧ -(n : Int) ≤ i ∧ i < n := by
  unfold ixN at h
  by_cases h0 : 0 ≤ i
  · rw [if_pos h0] at h
    by_cases h1 : i < n
    · rw [if_pos h1] at h
      have e : i.toNat = j := Option.some.inj h
      exact ⟨by rw [seqIndex_of h0 h1, e], by omega, by omega, h1⟩
    · rw [if_neg h1] at h; cases h
  · rw [if_neg h0] at h
    by_cases h1 : -(n : Int) ≤ i
    · rw [if_pos h1] at h
      have e : (i + n).toNat = j := Option.some.inj h
      exact ⟨by rw [seqIndex_neg (by omega) h1, e], by omega, h1, by omega⟩
    · rw [if_neg h1] at h; cases h
theorem atI_get {α : Type} {xs : List α} {i : Int} {v : α} (h : atI xs i = some v) : ∃ j, seqIndex? i xs.length = some j ∧ xs[j]? = some v ∧ j < xs.length ∧ -(xs.length : Int) ≤ i ∧ i < xs.length := by
  unfold atI at h
  cases e : ixN xs.length i with
  | none => rw [e] at h; cases h
  | some j =>
    rw [e] at h
    obtain ⟨h1, h2, h3, h4⟩ := ixN_seq e
    exact ⟨j, h1, h, h2, h3, h4⟩
theorem atI_nat {α : Type} {xs : List α} {j : Nat} {v : α} (h : xs[j]? = some v) : atI xs (j : Int) = some v := by
  have hj : j < xs.length := (List.getElem?_eq_some_iff.mp h).1
  have e : ixN xs.length (j : Int) = some j := by
    unfold ixN
    rw [if_pos (by omega), if_pos (by omega)]; simp
  unfold atI; rw [e]; exact h
/-! ### what may be subscripted -/
/-- what stands as an index of a plain subscript -/
def PlainIx (b : Expr) : Prop := ∀ o i, subscripted b false o i = operate [o, i] (getItem o i)
/-- a subscript by values -/
def IxR (X : Cx) (r : R2) : Prop :=
  ∀ (value slice : Expr) (pins : List (Addr × Obj)) (s : Shared) (σ : St) (H : Hp) (x y : V) (v u : Value) (Q : VK), Inv X pins σ H s → RelV x v → RelV y u → r x y H Q →
    subscripted slice false v u = operate [v, u] (getItem v u) → wpAny (model X.prog X.w) X.A (subscriptTail value slice v u) (EP X pins σ Q) X.xe s
/-- a call of a builtin's method by values: the receiver, the arguments -/
def MtR (X : Cx) (id : String) (r : V → List V → Hp → VK → Prop) : Prop :=
  ∀ (pins : List (Addr × Obj)) (s : Shared) (σ : St) (H : Hp) (x : V) (xs : List V) (v : Value) (us : List Value) (Q : VK), Inv X pins σ H s → RelV x v → Vals xs us → r x xs H Q →
    wpAny (model X.prog X.w) X.A (call (.builtin id) (v :: us)) (EP X pins σ Q) X.xe s
section
variable {X : Cx} {a b : Expr} {ta tb : TE} {pos : Pos}
/-- a[b] -/
theorem pe_ix {r : R2} (hr : IxR X r) (ha : PE X a ta) (hb : PE X b tb) (hs : PlainIx b) : PE X (.Subscript a b pos) (tOp r ta tb) := by
  intro pins s σ H Q I h
  exact Subscript_ (binT ha hb I h fun v u s2 x y H2 I2 rx ry q => hr a b pins s2 σ H2 x y v u Q I2 rx ry q (hs _ _))

def rIxL (K : PySem.W.Frag) : R2 := fun x y H Q => ∃ p xs i v, x = .ref p ∧ y = .int i ∧ SqL K H p xs ∧ atI xs i = some v ∧ Q v H
theorem ix_list : IxR X (rIxL X.K) := by
  intro value slice pins s σ H x y v u Q I rx ry h hs
  obtain ⟨p, xs, i, z, rfl, rfl, hq, he, q⟩ := h
  cases rx
  obtain ⟨t, rfl⟩ := ry
  obtain ⟨its, r, pl, hz⟩ := I.list hq
  obtain ⟨j, h1, h2, h3, h4, h5⟩ := atI_get he
  obtain ⟨w, ew, rw'⟩ := r.get h2
  have hl := r.length
  have hn := line63
  have fin : EP X pins σ Q w s := ⟨z, H, I, rw', q⟩
  by_cases h0 : 0 ≤ i
  · have hj : i.toNat = j := by
      rw [seqIndex_of h0 h5] at h1
      exact Option.some.inj h1
    exact item_listR pl.isList h0 (by omega) (by rw [hj]; simpa using ew) fin hs
  · have hj : (i + (its.toArray.size : Int)).toNat = j := by
      rw [seqIndex_neg (by omega) h4] at h1
      rw [List.size_toArray, ← hl]
      exact Option.some.inj h1
    exact subscriptTail_builtinR (x := w) pl.isList.typeIs slot_list_getitem.lookup
      (wpAny_getItem_list_neg (Q := fun r s' => r = w ∧ EP X pins σ Q r s') pl.isList (by omega) (by rw [List.size_toArray] <;> omega) (by omega) (by rw [hj]; simpa using ew) ⟨rfl, fin⟩) hs
/-! ### xs[i] = v, any sign -/
/-! ### slices -/
theorem slice_bounds (lo hi : Option Int) (n : Nat) : (sliceBounds lo hi none n).1 = ((HT.sIx n 0 lo : Nat) : Int) ∧ (sliceBounds lo hi none n).2.1 = ((HT.sIx n n hi : Nat) : Int) ∧ (sliceBounds lo hi none n).2.2 = 1 := by
  refine ⟨?_, ?_, rfl⟩
  · cases lo with
    | none => simp [sliceBounds, HT.sIx]
    | some i =>
      simp only [sliceBounds, HT.sIx, Option.getD_none, show (1 : Int) > 0 by decide, if_true]
      by_cases h : i < 0
      · simp only [h, if_true] <;> omega
      · simp only [h, if_false] <;> omega
  · cases hi with
    | none => simp [sliceBounds, HT.sIx]
    | some i =>
      simp only [sliceBounds, HT.sIx, Option.getD_none, show (1 : Int) > 0 by decide, if_true]
      by_cases h : i < 0
      · simp only [h, if_true] <;> omega
      · simp only [h, if_false] <;> omega
theorem slicePick_cut (its : List Value) (lo hi : Option Int) : slicePick its.toArray lo hi none = ((its.drop (HT.sIx its.length 0 lo)).take (HT.sIx its.length its.length hi - HT.sIx its.length 0 lo)).toArray := by
  obtain ⟨h1, h2, h3⟩ := slice_bounds lo hi its.toArray.size
  unfold slicePick
  rw [h1, h2, h3]
  simp only [sliceRange_one, pick_run, List.size_toArray] <;> rfl
/-- xs[lo:hi] of a list: a new list -/
def rSlL (K : PySem.W.Frag) : V → Option Int → Option Int → Hp → VK → Prop := fun x lo hi H Q => ∃ a xs, x = .ref a ∧ SqL K H a xs ∧ ∀ p, H p = none → Q (.ref p) (upd H p (.lst (cutV xs lo hi)))
theorem sl_list : SlR X (rSlL X.K) := by
  intro pins s σ H x v vl vu lo hi sl Q I rx hs pl pu h
  obtain ⟨a, xs, rfl, hx, q⟩ := h
  cases rx
  obtain ⟨its, r, ht, hz⟩ := I.list hx
  have hlen := r.length
  refine ⟨"list", _, slot_list_getitem.lookup, ht.isList.typeIs, ?_⟩
  refine wpAny_getItem_list_slice ht.isList hs pl pu .none (by simp) ?_ (by rw [List.size_toArray] <;> omega)
  rw [slicePick_cut, ← hlen]
  refine ⟨.ref s.heap.objs.size, _, I.laid (t' := s.toks) (o := .lst (cutV xs lo hi)) (fun b ob q => Heap.get?_push_of_some _ q) (Nat.le_refl _) ?_, rfl, q _ (I.hok.fresh (Nat.le_refl _))⟩
  exact ⟨Nat.le_trans (cutV_length xs lo hi) hz, _, 0, (r.drop (HT.sIx xs.length 0 lo)).take (HT.sIx xs.length xs.length hi - HT.sIx xs.length 0 lo), Heap.get?_push_size _ rfl⟩

/-! ### in, not in: flat items -/
/-! ### len, list(x), tuple(x) of any list or tuple that is read -/
theorem call_len_seq : CallR X (.builtin "len") (fun xs H Q => ∃ p ys, xs = [.ref p] ∧ (SqL X.K H p ys ∨ SqT X.K H p ys) ∧ Q (.int ys.length) H) := by
  intro pins s σ H xs us Q I r h
  obtain ⟨p, ys, rfl, hq, q⟩ := h
  obtain ⟨u, rfl, rx⟩ := vals1 r
  cases rx
  have hn := line63
  rcases hq with hq | hq
  · obtain ⟨its, r', pl, hz⟩ := I.list hq
    have hlen := r'.length
    exact Calls.call_len_list pl.isList (by simp only [List.size_toArray] <;> omega) ⟨.int ys.length, H, I.tok _, ⟨s.toks + 1, by rw [List.size_toArray, hlen]⟩, q⟩
  · obtain ⟨its, r', pl, hz⟩ := I.tuple hq
    have hlen := r'.length
    exact len_tuple pl (by simp only [List.size_toArray] <;> omega) ⟨.int ys.length, H, I.tok _, ⟨s.toks + 1, by rw [List.size_toArray, hlen]⟩, q⟩
/-! ### the call of a builtin's method: o.m(..) -/
/-- the value is of that builtin type -/
def tyV (K : PySem.W.Frag) (T : String) (x : V) (H : Hp) : Prop := match x with
  | .str _ => T = "str"
  | .int _ => T = "int"
  | .ref p => (T = "list" ∧ ∃ xs, SqL K H p xs) ∨ (T = "tuple" ∧ ∃ o, K.lookup p = some o ∧ o.cls = .type "tuple" ∧ o.dict = none) ∨
      (T = "dict" ∧ ((∃ kvs, H p = some (.dK kvs)) ∨ ∃ kvs, H p = some (.dT kvs))) ∨ (T = "set" ∧ ∃ S n, H p = some (.set S n))
  | _ => False
theorem tyV_is {pins : List (Addr × Obj)} {σ : St} {H : Hp} {s : Shared} {T : String} {x : V} {v : Value} (I : Inv X pins σ H s) (r : RelV x v) (ty : tyV X.K T x H) :
    s.TypeIs v T ∧ ∀ a, v = .ref a → ∃ ob, s.heap.get? a = some ob ∧ ob.dict = none := by
  cases x with
  | str z =>
    obtain ⟨t, rfl⟩ := r
    cases (show T = "str" from ty)
    exact ⟨typeIs_str s z t, fun _ e => nomatch e⟩
  | int i =>
    obtain ⟨t, rfl⟩ := r
    cases (show T = "int" from ty)
    exact ⟨typeIs_int s i t, fun _ e => nomatch e⟩
  | ref p =>
    cases r
    rcases ty with ⟨rfl, xs, hq⟩ | ⟨rfl, o, hk, hc, hd⟩ | ⟨rfl, hk⟩ | ⟨rfl, S, n, hk⟩
    · obtain ⟨its, _, pl, _⟩ := I.list hq
      refine ⟨pl.isList.typeIs, fun a e => ?_⟩
      cases e
      obtain ⟨o, n, e, c, hd, _⟩ := pl
      exact ⟨o, e, hd⟩
    · refine ⟨⟨o, I.kIn p o hk, hc⟩, fun a e => ?_⟩
      cases e
      exact ⟨o, I.kIn _ o hk, hd⟩
    · have z : ∃ o, s.heap.get? p = some o ∧ o.ExactDict := by
        rcases hk with ⟨kvs, hk⟩ | ⟨kvs, hk⟩
        · obtain ⟨_, _, _, _, o, _, _, e, ex, _⟩ := I.hok p _ hk
          exact ⟨o, e, ex⟩
        · obtain ⟨_, _, _, _, o, _, _, e, ex, _⟩ := I.hok p _ hk
          exact ⟨o, e, ex⟩
      obtain ⟨o, e, ex⟩ := z
      refine ⟨⟨o, e, ex.1⟩, fun a e2 => ?_⟩
      cases e2
      exact ⟨o, e, ex.2.1⟩
    · obtain ⟨o, _, _, _, e, ex, _⟩ := I.hok p _ hk
      refine ⟨⟨o, e, ex.1⟩, fun a e2 => ?_⟩
      cases e2
      exact ⟨o, e, ex.2.1⟩
  | _ => exact False.elim ty
def tBM (K : PySem.W.Frag) (T : String) (r : V → List V → Hp → VK → Prop) (to : TE) (t : TA) : TE := fun σ H Q => to σ H fun x H1 => tyV K T x H1 ∧ t σ H1 fun xs H2 => r x xs H2 Q
variable {o e : Expr} {es : List Expr} {to : TE} {t : TA} {name : Str} {apos cpos : Pos} {T id : String} {r : V → List V → Hp → VK → Prop}
theorem pe_bm (pa : PlainAttrs T) (slot : Slot T name id) (hty : typeOf (.builtin id) = pure (.type "method_descriptor")) (hm : MtR X id r) (ho : PE X o to) (ha : PA X (e :: es) t)
    (hbase : attributeBase o name X.env (eval o X.env) = eval o X.env := by rfl)
    (hfew : ((backTo cpos (starEach (e :: es) X.env)).all (fun x => !x.1) && (backToKw cpos (keywordEach [] X.env)).all (fun x => x.1.isSome)
      && decide ((e :: es).length + ([] : List Keyword).length + (if ([] : List Keyword).isEmpty then 0 else 1) < 30)) = true := by rfl)
    (hline : (apos.endLine == cpos.line) = true := by rfl) (hs : starEach (e :: es) X.env = (false, eval e X.env) :: starEach es X.env := by rfl) (hplain : (backTo cpos (starEach es X.env)).any (·.1) = false := by rfl) :
    PE X (.Call (.Attribute o name apos) (e :: es) [] cpos) (tBM X.K T r to t) := by
  intro pins s σ H Q I h
  refine wpAny_Call_method_late hbase hfew hline rfl (thn (ho pins s σ H _ I h) fun v s1 ⟨x, H1, I1, r1, ty, q1⟩ => ?_)
  obtain ⟨h1, h2⟩ := tyV_is I1 r1 ty
  refine ⟨T, id, pa, slot, hty, h1, h2, ?_⟩
  have hA := ha cpos pins s1 σ H1 _ I1 q1
  rw [hs] at hA ⊢
  refine Calls.callWith_builtin (by show (false || (backTo cpos (starEach es X.env)).any (·.1)) = false; rw [hplain] <;> rfl) (Calls.evalArgs_plain ?_)
  exact thn hA fun us s2 ⟨vs, H2, I2, r2, q2⟩ => hm pins s2 σ H2 x vs v us Q I2 r1 r2 q2
/- xs.append(e), list.index on a module's tuple .. are MtR facts of 06m -/
end
end L2

namespace L2
open PySem PySem.Spec PyProof.Rows

def MtM (X : Cx) (id : String) (r : V → List V → Hp → VK → Prop) : Prop :=
  ∀ (pins : List (Addr × Obj)) (s : Shared) (σ : St) (H : Hp) (x : V) (xs : List V) (v : Value) (us : List Value) (Q : VK), Inv X pins σ H s → RelV x v → Vals xs us → r x xs H Q →
    wpAny (model X.prog X.w) X.A (call (.builtin id) (v :: us)) (EP X pins σ Q) X.xe s

/-! ### lists of values -/
theorem Vals.one : ∀ {x : V} {us : List Value}, Vals [x] us → ∃ u, us = [u] ∧ RelV x u
  | _, _, .cons r .nil => ⟨_, rfl, r⟩
section
variable {X : Cx} {pins : List (Addr × Obj)} {σ : St} {H : Hp} {s : Shared} {l b : Addr} {xs ys zs : List V}

/-! ### the two steps: a tracked list is rewritten, a new list is laid -/
theorem Inv.lset {its its' : List Value} {n : Nat} {f : Array Value → Array Value} {t' : Nat} (I : Inv X pins σ H s) (hH : H l = some (.lst xs))
    (e : s.heap.get? l = some { cls := .type "list", data := .seq its.toArray n }) (hf : f its.toArray = its'.toArray) (hv : Vals ys its') (hz : ys.length ≤ sizeLine) :
    Inv X pins σ (upd H l (.lst ys)) { s with heap := s.heap.update l (Obj.mapSeq f), toks := t' } := by
  have q := PySem.IsL.update e f
  rw [hf] at q
  refine I.write (x := l) (e := l) (by rw [hH]; exact trivial) (.inl rfl) (fun b' u hb hu => (Heap.get?_update_other s.heap (Obj.mapSeq f) (Ne.symm hb)).trans hu) ⟨_, q⟩ ?_
  exact ⟨hz, its', _, hv, q⟩
theorem Inv.lnew {its : List Value} {t' : Nat} (I : Inv X pins σ H s) (hv : Vals ys its) (hz : ys.length ≤ sizeLine) :
    Inv X pins σ (upd H s.heap.objs.size (.lst ys)) { s with heap := s.heap.push { cls := .type "list", data := .seq its.toArray }, toks := t' } :=
  I.laid (fun _ _ q => Heap.get?_push_of_some _ q) (Nat.le_refl _) ⟨hz, its, 0, hv, Heap.get?_push_size _ rfl⟩
theorem Inv.fresh (I : Inv X pins σ H s) : H s.heap.objs.size = none := I.hok.fresh (Nat.le_refl _)
theorem Inv.lstM (I : Inv X pins σ H s) (hH : H l = some (.lst xs)) : xs.length ≤ sizeLine ∧ ∃ (its : List Value) (n : Nat), Vals xs its ∧ xs.length = its.length ∧ s.heap.get? l = some { cls := .type "list", data := .seq its.toArray n } := by
  obtain ⟨z, its, n, r, e⟩ := I.hok l _ hH
  exact ⟨z, its, n, r, r.length, e⟩

theorem notLongL {n : Nat} (h : n ≤ sizeLine) : Builtin.List.listTooLong n = false := by
  unfold Builtin.List.listTooLong
  exact decide_eq_false (by omega)
end

section
variable {X : Cx}

/-! ### methods -/
def rAppend : V → List V → Hp → VK → Prop := fun x vs H Q => ∃ l xs y, x = .ref l ∧ vs = [y] ∧ H l = some (.lst xs) ∧ xs.length < sizeLine ∧ Q .non (upd H l (.lst (xs ++ [y])))
theorem mt_append : MtM X "list.append" rAppend := by
  intro pins s σ H x vs v us Q I rx rv h
  obtain ⟨l, xs, y, rfl, rfl, hH, hz, q⟩ := h
  cases rx
  obtain ⟨u, rfl, ru⟩ := rv.one
  obtain ⟨z, its, n, r, hl, e⟩ := I.lstM hH
  refine call_meets F.slot_list_append ⟨_, e, rfl⟩ F.entry_list_append (F.args_list_append_2 _ _) (PySem.list_append l its.toArray n u (by rw [List.size_toArray]; omega)) ⟨e, ?_⟩
  refine ⟨.non, _, I.lset (its' := its ++ [u]) hH e (by simp) (r.append (.cons ru .nil)) ?_, rfl, q⟩
  rw [List.length_append, List.length_singleton]
  omega

def rExtend : V → List V → Hp → VK → Prop := fun x vs H Q => ∃ l b xs zs, x = .ref l ∧ vs = [.ref b] ∧ H l = some (.lst xs) ∧ H b = some (.lst zs) ∧ xs.length + zs.length ≤ sizeLine ∧ Q .non (upd H l (.lst (xs ++ zs)))
theorem mt_extend : MtM X "list.extend" rExtend := by
  intro pins s σ H x vs v us Q I rx rv h
  obtain ⟨l, b, xs, zs, rfl, rfl, hH, hB, hz, q⟩ := h
  cases rx
  obtain ⟨u, rfl, ru⟩ := rv.one
  cases ru
  obtain ⟨z, its, n, r, hl, e⟩ := I.lstM hH
  obtain ⟨z2, its2, n2, r2, hl2, e2⟩ := I.lstM hB
  have hsz : its.toArray.size + its2.toArray.size ≤ sizeLine := by rw [List.size_toArray, List.size_toArray]; omega
  have hlong : ¬ (!its.toArray.isEmpty && Builtin.List.listTooLong (its.toArray.size + its2.toArray.size)) = true := by
    rw [notLongL hsz, Bool.and_false]
    exact Bool.false_ne_true
  refine call_meets F.slot_list_extend ⟨_, e, rfl⟩ F.entry_list_extend (F.args_list_extend_2 _ _)
    (AutoSeq1.list_extend_list_list_0 l its.toArray n b its2.toArray n2 hlong (by rw [List.size_toArray]; omega) (by omega)) ⟨e, e2, ?_⟩
  refine ⟨.non, _, I.lset (its' := its ++ its2) hH e (by simp) (r.append r2) ?_, rfl, q⟩
  rw [List.length_append]
  omega

/-! ### list + list, list += list, list * int -/
def rCat : R2 := fun x y H Q => ∃ l b xs zs, x = .ref l ∧ y = .ref b ∧ H l = some (.lst xs) ∧ H b = some (.lst zs) ∧ xs.length + zs.length ≤ sizeLine ∧ ∀ p, H p = none → Q (.ref p) (upd H p (.lst (xs ++ zs)))
theorem op_cat : OpR X (binaryOp .Add) rCat := by
  intro pins s σ H x y v u Q I rx ry h
  obtain ⟨l, b, xs, zs, rfl, rfl, hH, hB, hz, q⟩ := h
  cases rx
  cases ry
  obtain ⟨z, its, n, r, hl, e⟩ := I.lstM hH
  obtain ⟨z2, its2, n2, r2, hl2, e2⟩ := I.lstM hB
  refine PySem.P.add_list e e2 ?_ (by rw [List.size_toArray, List.size_toArray]; omega)
  have ea : its.toArray ++ its2.toArray = (its ++ its2).toArray := by simp
  rw [ea]
  exact ⟨.ref _, _, I.lnew (t' := s.toks) (r.append r2) (by rw [List.length_append]; omega), rfl, q _ I.fresh⟩
/-! ### del xs[i] -/
end

/-! ### xs[a:b] = ys -/
section
variable {prog : Program} {w : World} {A : Around} {E : Value → Shared → Prop} {s : Shared}
end

section
variable {X : Cx}
end
end L2

namespace L2
open PySem PySem.Spec PyProof.Rows

theorem vals_of_ints : ∀ {us : List Value} {ns : List Int}, IntsAre us ns → Vals (ns.map V.int) us
  | _, _, .nil => by rw [List.map_nil]; exact Paired.nil
  | _, _, .cons n t h => by rw [List.map_cons]; exact Paired.cons (show RelV (V.int n) (Value.int n t) from ⟨t, rfl⟩) (vals_of_ints h)
/-! ### the library's walks over a list of ints, kept objects alone -/
section
variable {prog : Program} {w : World} {A : Around} {E : Value → Shared → Prop} {s : Shared} {l : Addr} {its : List Value} {ns : List Int} {Q : Value → Shared → Prop}
end

/-! ### the calls, by values (CallR of 03t; MtR of 06l) -/
section
variable {X : Cx}
/-! sorted, sort (fewer than 64 items: the library's own bound) -/
end

/-! ### list.index, flat items -/
section
variable {X : Cx}
end

/-! ### type(x) of an own instance; is, is not of a module's class -/
section
variable {X : Cx}
end

/-! ### any(xs), all(xs) of a list of bools -/
section
variable {X : Cx}
end

/-! ### == and != of data at any depth: none, bools, ints, texts, lists, tuples -/
section
variable {X : Cx} {pins : List (Addr × Obj)} {σ : St} {H : Hp} {s : Shared}
end
section
variable {X : Cx}
end
end L2

namespace L2
open PySem PySem.Spec PyProof.Rows
section
variable {X : Cx} {pins : List (Addr × Obj)} {σ : St} {H : Hp} {s : Shared}
end

section
variable {X : Cx}
end

/-! ### the forms one uses -/
end L2

namespace L2
open PySem PySem.Spec PyProof.Rows

section
variable {prog : Program} {w : World} {A : Around} {R : Result → Shared → Prop} {s : Shared} {elt t0 i0 t1 i1 : Expr} {ifs0 ifs1 : List Expr} {scope : Scope} {pos : Pos} {it acc : Value} {env : Env}
end

section
variable {X : Cx}
end
end L2

namespace L2
open PySem PySem.Spec PyProof.Rows

/-! ### lists of pairs as tables -/
section
variable {κ : Type} [DecidableEq κ]
def valV (kvs : List (κ × V)) (k : κ) : Option V := (kvs.find? fun kv => decide (kv.1 = k)).map (·.2)
/-- in its place, or at the end -/
def putK (kvs : List (κ × V)) (k : κ) (v : V) : List (κ × V) :=
  if (kvs.any fun kv => decide (kv.1 = k)) = true then kvs.map (fun kv => if kv.1 = k then (kv.1, v) else kv) else kvs ++ [(k, v)]
def dropK (kvs : List (κ × V)) (k : κ) : List (κ × V) := kvs.filter fun kv => decide (kv.1 ≠ k)

theorem valV_pos {p : κ × V} {r : List (κ × V)} {k : κ} (e : p.1 = k) : valV (p :: r) k = some p.2 := by simp [valV, List.find?_cons, e]
theorem valV_neg {p : κ × V} {r : List (κ × V)} {k : κ} (e : ¬ p.1 = k) : valV (p :: r) k = valV r k := by simp [valV, List.find?_cons, e]
theorem valV_any (k : κ) : ∀ kvs : List (κ × V), (kvs.any fun kv => decide (kv.1 = k)) = (valV kvs k).isSome
  | [] => rfl
  | p :: r => by
    rw [List.any_cons]
    by_cases e : p.1 = k
    · simp only [valV_pos e, decide_eq_true e, Bool.true_or, Option.isSome_some]
    · rw [valV_neg e, decide_eq_false e, Bool.false_or]; exact valV_any k r
theorem length_putK (kvs : List (κ × V)) (k : κ) (v : V) : (putK kvs k v).length ≤ kvs.length + 1 := by
  unfold putK
  split
  · rw [List.length_map]; omega
  · rw [List.length_append, List.length_cons, List.length_nil]; omega
theorem putK_new {kvs : List (κ × V)} {k : κ} (v : V) (h : valV kvs k = none) : putK kvs k v = kvs ++ [(k, v)] := by
  unfold putK
  rw [valV_any, h]
  exact if_neg (by decide)

theorem RelO.isSome_eq {o : Option V} {u : Option Value} (r : RelO o u) : o.isSome = u.isSome := by
  cases o with
  | none => cases u with
    | none => rfl
    | some _ => exact (show False from r).elim
  | some _ => cases u with
    | none => exact (show False from r).elim
    | some _ => rfl
/-- raw tables of the same keys -/
theorem KV.val {kvs : List (κ × V)} {vs : List (κ × Value)} (r : KV kvs vs) (k : κ) : RelO (valV kvs k) (valueAt vs k) := by
  unfold KV at r
  induction r with
  | nil => exact True.intro
  | @cons p q ps qs h t ih =>
    obtain ⟨h1, h2⟩ := h
    by_cases e : p.1 = k
    · have e' : q.1 = k := h1.symm.trans e
      have b : valueAt (q :: qs) k = some q.2 := by simp [valueAt, List.find?_cons, e']
      rw [valV_pos e, b]; exact h2
    · have e' : ¬ q.1 = k := fun z => e (h1.trans z)
      have b : valueAt (q :: qs) k = valueAt qs k := by simp [valueAt, List.find?_cons, e']
      rw [valV_neg e, b]; exact ih
theorem KV.any {kvs : List (κ × V)} {vs : List (κ × Value)} (r : KV kvs vs) (k : κ) : (kvs.any fun kv => decide (kv.1 = k)) = vs.any fun kv => decide (kv.1 = k) := by
  unfold KV at r
  induction r with
  | nil => rfl
  | cons h t ih => rw [List.any_cons, List.any_cons, ih, h.1]
theorem KV.repl {kvs : List (κ × V)} {vs : List (κ × Value)} (r : KV kvs vs) (k : κ) {y : V} {u : Value} (ry : RelV y u) :
    KV (kvs.map fun kv => if kv.1 = k then (kv.1, y) else kv) (vs.map fun kv => if kv.1 = k then (kv.1, u) else kv) := by
  unfold KV at r ⊢
  induction r with
  | nil => exact .nil
  | @cons p q ps qs h t ih =>
    rw [List.map_cons, List.map_cons]
    refine .cons ?_ ih
    obtain ⟨h1, h2⟩ := h
    by_cases e : p.1 = k
    · rw [if_pos e, if_pos (h1.symm.trans e)]; exact ⟨h1, ry⟩
    · rw [if_neg e, if_neg (fun z => e (h1.trans z))]; exact ⟨h1, h2⟩
theorem KV.put {kvs : List (κ × V)} {vs : List (κ × Value)} (r : KV kvs vs) (k : κ) {y : V} {u : Value} (ry : RelV y u) : KV (putK kvs k y) (stored vs k u) := by
  unfold putK stored
  rw [r.any k]
  by_cases e : (vs.any fun kv => decide (kv.1 = k)) = true
  · rw [if_pos e, if_pos e]; exact r.repl k ry
  · rw [if_neg e, if_neg e]; exact Paired.snoc r ⟨rfl, ry⟩
theorem KV.drop {kvs : List (κ × V)} {vs : List (κ × Value)} (r : KV kvs vs) (k : κ) : KV (dropK kvs k) (without vs k) := by
  unfold KV at r ⊢
  unfold dropK without
  induction r with
  | nil => exact .nil
  | @cons p q ps qs h t ih =>
    obtain ⟨h1, h2⟩ := h
    rw [List.filter_cons, List.filter_cons]
    by_cases e : p.1 = k
    · have a : ¬ decide (p.1 ≠ k) = true := by simp [e]
      have b : ¬ decide (q.1 ≠ k) = true := by simp [h1.symm.trans e]
      rw [if_neg a, if_neg b]; exact ih
    · have e' : ¬ q.1 = k := fun z => e (h1.trans z)
      have a : decide (p.1 ≠ k) = true := by simp [e]
      have b : decide (q.1 ≠ k) = true := by simp [e']
      rw [if_pos a, if_pos b]; exact .cons ⟨h1, h2⟩ ih
theorem KV.length {kvs : List (κ × V)} {vs : List (κ × Value)} (r : KV kvs vs) : kvs.length = vs.length := Paired.length r
theorem dropK_le (kvs : List (κ × V)) (k : κ) : (dropK kvs k).length ≤ kvs.length := List.length_filter_le _ _
end


/-! ### a tracked dict, its keys ints and texts or tuples of these -/
theorem kV_is {P : Program} {w : World} {k : Key} {u : Value} (r : RelV (kV k) u) : (mixKind P w).is k u = true := by
  cases k with
  | inl i => obtain ⟨t, e⟩ := (show ∃ t, u = Value.int i t from r); subst e; exact mixKind_int P w i t
  | inr x => obtain ⟨t, e⟩ := (show ∃ t, u = Value.str x t from r); subst e; exact mixKind_str P w x t
theorem items_are {P : Program} {w : World} : ∀ {ks : List Key} {us : List Value}, Vals (ks.map kV) us → ItemsAre (mixKind P w) ks us
  | [], _, r => by rw [List.map_nil] at r; cases r; exact .nil
  | k :: ks, _, r => by
    rw [List.map_cons] at r
    cases r with
    | cons h t => exact .cons (kV_is h) (items_are t)

/-- raw entries of a dict with tuple keys -/
abbrev KT (H : Hp) : List (List Key × V) → List (List Key × Addr × Value) → Prop := Paired fun p q => p.1 = q.1 ∧ H q.2.1 = some (.tup (p.1.map kV)) ∧ RelV p.2 q.2.2
theorem KT.val {H : Hp} {kvs : List (List Key × V)} {xs : List (List Key × Addr × Value)} (r : KT H kvs xs) (k : List Key) : RelO (valV kvs k) ((atKey xs k).map (·.2)) := by
  induction r with
  | nil => exact True.intro
  | @cons p q ps qs h t ih =>
    obtain ⟨h1, _, h2⟩ := h
    by_cases e : p.1 = k
    · have e' : q.1 = k := h1.symm.trans e
      have b : atKey (q :: qs) k = some q.2 := by simp [atKey, List.find?_cons, e']
      rw [valV_pos e, b]; exact h2
    · have e' : ¬ q.1 = k := fun z => e (h1.trans z)
      have b : atKey (q :: qs) k = atKey qs k := by simp [atKey, List.find?_cons, e']
      rw [valV_neg e, b]; exact ih
section
variable {P : Program} {w : World} {H : Hp} {h : Heap} {a : Addr}
theorem rd_of {u : HO} (ok : HOk P w H h) (e : Rd H a u) : ObjOk P w H h a u := e.ok ok
theorem dk_rd {kvs : List (Key × V)} (ok : HOk P w H h) (e : Rd H a (.dK kvs)) : kvs.length ≤ sizeLine ∧ (a == sysModules) = false ∧ ∃ vs, KV kvs vs ∧ h.DictOf (mixKind P w) a vs :=
  show ObjOk P w H h a (.dK kvs) from rd_of ok e
theorem dk_of {kvs : List (Key × V)} (ok : HOk P w H h) (e : H a = some (.dK kvs)) : kvs.length ≤ sizeLine ∧ (a == sysModules) = false ∧ ∃ vs, KV kvs vs ∧ h.DictOf (mixKind P w) a vs := dk_rd ok (.inl e)
/-- a tracked tuple of ints and texts is a key -/
theorem key_of {ks : List Key} (ok : HOk P w H h) (e : H a = some (.tup (ks.map kV))) : (tupleKind (mixKind P w)).is h ks a := by
  obtain ⟨_, its, r, o, h1, h2, n, h3⟩ := (show ObjOk P w H h a (.tup (ks.map kV)) from ok a _ e)
  exact ⟨o, its.toArray, n, h1, h2, h3, by simpa using items_are r⟩
theorem dt_rd {kvs : List (List Key × V)} (ok : HOk P w H h) (e : Rd H a (.dT kvs)) : kvs.length ≤ sizeLine ∧ (a == sysModules) = false ∧
    ∃ xs, KT H kvs xs ∧ h.DictOfH (tupleKind (mixKind P w)) a xs := by
  obtain ⟨z, y, xs, r, o, es, ep, h1, h2, h3, h4, h5⟩ := (show ObjOk P w H h a (.dT kvs) from rd_of ok e)
  refine ⟨z, y, xs, r, o, es, ep, h1, h2, h3, h4, fun x hx => ?_, h5⟩
  have all : ∀ {l : List (List Key × V)} {m : List (List Key × Addr × Value)}, KT H l m → ∀ x ∈ m, (tupleKind (mixKind P w)).is h x.1 x.2.1 := by
    intro l m q
    induction q with
    | nil => intro x hx; exact nomatch hx
    | @cons p q ps qs hq t ih =>
      intro x hx
      rcases List.mem_cons.mp hx with e | hx
      · subst e
        exact key_of ok (by rw [← hq.1]; exact hq.2.1)
      · exact ih x hx
  exact all r x hx
end

/-- what the dict at a holds at the key y -/
def DGet (H : Hp) (a : Addr) (y : V) (r : Option V) : Prop :=
  (∃ kvs k, Rd H a (.dK kvs) ∧ y = kV k ∧ r = valV kvs k) ∨ ∃ kvs k b, Rd H a (.dT kvs) ∧ y = .ref b ∧ H b = some (.tup (k.map kV)) ∧ r = valV kvs k
theorem DGet.k {H : Hp} {a : Addr} {kvs : List (Key × V)} {k : Key} (e : H a = some (.dK kvs)) : DGet H a (kV k) (valV kvs k) := .inl ⟨kvs, k, .inl e, rfl, rfl⟩
section
variable {X : Cx} {pins : List (Addr × Obj)} {σ : St} {H : Hp} {s : Shared} {a : Addr} {y v : V} {u r : Value} {o : Option V} {A : Around} {E : Value → Shared → Prop}

theorem Inv.big (I : Inv X pins σ H s) : sysModules < s.heap.objs.size := by
  have h : mainGlobals < s.heap.objs.size := (I.mod.glob.keeps I.bk).lt
  exact Nat.lt_trans (by decide) h

/-- d[y], there -/
theorem d_getItem {Q : Value → Shared → Prop} (hu : A.units + 1 < cLine) (I : Inv X pins σ H s) (g : DGet H a y (some v)) (ry : RelV y u) (h : ∀ w' s', Inv X pins σ H s' → RelV v w' → Q w' s') :
    wpAny (model X.prog X.w) A (getItem (.ref a) u) Q E s := by
  rcases g with ⟨kvs, k, e, ey, l⟩ | ⟨kvs, k, b, e, ey, eb, l⟩
  · subst ey
    obtain ⟨z, hd, vs, rel, dd⟩ := dk_rd I.hok e
    obtain ⟨w', hw, rw'⟩ := RelO.some_of (v := v) (o := valueAt vs k) (by rw [l]; exact rel.val k)
    exact wpAny_getItem_of (kV_is ry) dd.mapOf hw (h w' _ (I.tok _) rw')
  · subst ey
    cases (show u = Value.ref b from ry)
    obtain ⟨z, hd, xs, rel, dd⟩ := dt_rd I.hok e
    obtain ⟨w', hw, rw'⟩ := RelO.some_of (v := v) (o := (atKey xs k).map (·.2)) (by rw [l]; exact rel.val k)
    obtain ⟨p, hp, hp2⟩ := Option.map_eq_some_iff.mp hw
    refine wpAny_getItem_heap (tupleKind_room_in1 hu) (key_of I.hok eb) dd hp ?_
    rw [hp2]
    exact h w' _ (I.tok _) rw'
/-- y in d -/
theorem d_in {Q : Value → Shared → Prop} (hu : A.units + 1 < cLine) (I : Inv X pins σ H s) (g : DGet H a y o) (ry : RelV y u) (h : ∀ s', Inv X pins σ H s' → Q (.bool o.isSome) s') :
    wpAny (model X.prog X.w) A (compareOp .In u (.ref a)) Q E s := by
  rcases g with ⟨kvs, k, e, ey, l⟩ | ⟨kvs, k, b, e, ey, eb, l⟩
  · subst ey
    obtain ⟨z, hd, vs, rel, dd⟩ := dk_rd I.hok e
    refine wpAny_in_of (kV_is ry) hd dd.mapOf ?_
    rw [← (rel.val k).isSome_eq, ← l]
    exact h _ (I.tok _)
  · subst ey
    cases (show u = Value.ref b from ry)
    obtain ⟨z, hd, xs, rel, dd⟩ := dt_rd I.hok e
    refine wpAny_in_heap (tupleKind_room_in1 hu) (key_of I.hok eb) hd dd ?_
    have q := (rel.val k).isSome_eq
    rw [Option.isSome_map] at q
    rw [← q, ← l]
    exact h _ (I.tok _)
/-- a dict's object is replaced -/
theorem d_write {h' : Heap} {t' : Nat} {ob : HO} (I : Inv X pins σ H s) (mu : Mut (H a)) (hs : Heap.SameBut a s.heap h') (he : ∃ q, h'.get? a = some q) (new : ObjOk X.prog X.w (upd H a ob) h' a ob) :
    Inv X pins σ (upd H a ob) { s with heap := h', toks := t' } :=
  I.write (x := a) (e := a) mu (.inl rfl) (fun b q hb z => (hs.2 b hb).trans z) he new
theorem dk_new {P : Program} {w : World} {H' : Hp} {h' : Heap} {kvs : List (Key × V)} {vs : List (Key × Value)} (z : kvs.length ≤ sizeLine) (hd : (a == sysModules) = false) (rel : KV kvs vs) (dd : h'.DictOf (mixKind P w) a vs) :
    ObjOk P w H' h' a (.dK kvs) := ⟨z, hd, vs, rel, dd⟩
end

section
variable {X : Cx} {pins : List (Addr × Obj)} {σ : St} {H : Hp} {s : Shared} {a : Addr} {kvs : List (Key × V)} {k : Key} {u : Value} {A : Around} {E : Value → Shared → Prop}
/-- del d[k] -/
theorem d_delItem {Q : Unit → Shared → Prop} (I : Inv X pins σ H s) (e : H a = some (.dK kvs)) (ry : RelV (kV k) u) (l : (valV kvs k).isSome = true) (h : ∀ s', Inv X pins σ (upd H a (.dK (dropK kvs k))) s' → Q () s') :
    wpAny (model X.prog X.w) A (delItem (.ref a) u) Q E s := by
  obtain ⟨z, hd, vs, rel, dd⟩ := dk_of I.hok e
  refine wpAny_delItem_slot dd.typeIs (by decide) PySem.F.slot_dict_delitem
    (call_meetsIn PySem.F.slot_dict_delitem dd.typeIs PySem.F.entry_dict_delitem (PySem.F.args_dict_delitem_2 _ _) (meets_dict_delitem_pairs (mixKind X.prog X.w) a (kV_is ry)) ⟨vs, dd, by rw [← rel.length]; exact z, by rw [← (rel.val k).isSome_eq]; exact l, fun h' dd' hs => h _ ?_⟩)
  have he : ∃ q, h'.get? a = some q := let ⟨q, _, _, hq, _⟩ := dd'; ⟨q, hq⟩
  exact d_write I (by rw [e]; exact True.intro) hs he (dk_new (Nat.le_trans (dropK_le kvs k) z) hd (rel.drop k) dd')
/-- d.pop(k[, x]), there -/
theorem d_pop {v : V} {more : List Value} {Q : Value → Shared → Prop} (I : Inv X pins σ H s) (e : H a = some (.dK kvs)) (ry : RelV (kV k) u) (l : valV kvs k = some v) (hm : more = [] ∨ ∃ x, more = [x])
    (h : ∀ w' s', Inv X pins σ (upd H a (.dK (dropK kvs k))) s' → RelV v w' → Q w' s') : wpAny (model X.prog X.w) A (call (.builtin "dict.pop") (.ref a :: u :: more)) Q E s := by
  obtain ⟨z, hd, vs, rel, dd⟩ := dk_of I.hok e
  obtain ⟨w', hw, rw'⟩ := RelO.some_of (v := v) (o := valueAt vs k) (by rw [← l]; exact rel.val k)
  have hp : (keyPart u).isSome = true := by
    cases k with
    | inl i => obtain ⟨t, q⟩ := (show ∃ t, u = Value.int i t from ry); subst q; rfl
    | inr x => obtain ⟨t, q⟩ := (show ∃ t, u = Value.str x t from ry); subst q; rfl
  have ha : argsOk "dict.pop" ⟨.ref a :: u :: more, []⟩ := by
    rcases hm with q | ⟨x, q⟩
    · subst q; exact PySem.F.args_dict_pop_2 _ _
    · subst q; exact PySem.F.args_dict_pop_3 _ _ _
  refine call_meetsIn PySem.F.slot_dict_pop dd.typeIs PySem.F.entry_dict_pop ha (meets_dict_pop_there (mixKind X.prog X.w) a (kV_is ry) more hm hp)
    ⟨vs, w', dd, by rw [← rel.length]; exact z, hw, fun h' dd' hs => h w' _ ?_ rw'⟩
  have he : ∃ q, h'.get? a = some q := let ⟨q, _, _, hq, _⟩ := dd'; ⟨q, hq⟩
  exact d_write I (by rw [e]; exact True.intro) hs he (dk_new (Nat.le_trans (dropK_le kvs k) z) hd (rel.drop k) dd')
end


/-! ### readings and rules -/
/-- the element of a subscription, not a slice -/
def NoSl (i : Expr) : Prop := ∀ ov iv, subscripted i false ov iv = operate [ov, iv] (getItem ov iv)
theorem subD_of {prog : Program} {w : World} {A : Around} {E : Value → Shared → Prop} {s : Shared} {env : Env} {value slice : Expr} {pos : Pos} {T id : String} {Q : Value → Shared → Prop}
    (hl : typeLookup (.type T) "__getitem__" = pure (some (.builtin id))) (hs : NoSl slice)
    (h : wpAny (model prog w) A (eval value env) (fun o s₁ => wpAny (model prog w) A (eval slice env) (fun i s₂ => s₂.TypeIs o T ∧ wpAny (model prog w) A (getItem o i) Q E s₂) E s₁) E s) :
    wpAny (model prog w) A (eval (.Subscript value slice pos) env) Q E s := by
  refine Subscript_ (wpAny_mono h (fun o s₁ h₁ => wpAny_mono h₁ (fun i s₂ h₂ => ?_) fun _ _ x => x) fun _ _ x => x)
  obtain ⟨hT, h₂⟩ := h₂
  unfold subscriptTail
  refine wpAny_bind ?_
  rw [getitemInPython_of_ne hT.not_modules]
  refine wpAny_bind (wpAny_specialOf hT hl ?_)
  have fin : wpAny (model prog w) A (subscripted slice false o i) (fun r s₃ => wpAny (model prog w) A (letTemporaryGo value o r >>= fun _ => pure r) Q E s₃) E s₂ := by
    rw [hs o i]
    exact wpAny_operating (wpAny_mono h₂ (fun r s₃ h₃ => wpAny_bind (wpAny_letTemporaryGo (wpAny_pure h₃))) fun _ _ x => x)
  first
    | exact wpAny_pure (wpAny_bind fin)
    | exact wpAny_bind (wpAny_pure (wpAny_bind fin))
    | exact wpAny_bind fin

theorem dict_typeIs {X : Cx} {pins : List (Addr × Obj)} {σ : St} {H : Hp} {s : Shared} {a : Addr} {y : V} {o : Option V} (I : Inv X pins σ H s) (g : DGet H a y o) : s.TypeIs (.ref a) "dict" := by
  rcases g with ⟨kvs, k, e, _, _⟩ | ⟨kvs, k, b, e, _, _, _⟩
  · obtain ⟨_, _, vs, _, dd⟩ := dk_rd I.hok e
    exact dd.typeIs
  · obtain ⟨_, _, xs, _, dd⟩ := dt_rd I.hok e
    exact dd.typeIs
/-- d[y] -/
def tDGet (td ty : TE) : TE := fun σ H Q => td σ H fun x H1 => ty σ H1 fun y H2 => ∃ a v, x = .ref a ∧ DGet H2 a y (some v) ∧ Q v H2
/-- y in d, y not in d -/
def tDIn (ty td : TE) : TE := fun σ H Q => ty σ H fun y H1 => td σ H1 fun x H2 => ∃ a o, x = .ref a ∧ DGet H2 a y o ∧ Q (.bl o.isSome) H2
section
variable {X : Cx} {o i e value : Expr} {pos pos' tpos : Pos} {td ty tv : TE}
theorem pe_dget (hu : X.A.units + 1 < cLine) (ho : PE X o td) (hi : PE X i ty) (hs : NoSl i) : PE X (.Subscript o i pos) (tDGet td ty) := by
  intro pins s σ H Q I h
  refine subD_of PySem.F.slot_dict_getitem.lookup hs (thn (ho pins s σ H _ I h) fun u s1 ⟨x, H1, I1, rx, q1⟩ => thn (hi pins s1 σ H1 _ I1 q1) fun iv s2 ⟨y, H2, I2, ry, a, v, ex, g, q2⟩ => ?_)
  subst ex
  obtain rfl : u = Value.ref a := rx
  exact ⟨dict_typeIs I2 g, d_getItem hu I2 g ry fun w' s3 I3 rw' => ⟨v, H2, I3, rw', q2⟩⟩
theorem pc_din (hu : X.A.units + 1 < cLine) (hi : PE X i ty) (ho : PE X o td) : PC X .In i o (tDIn ty td) := by
  intro pins s σ H Q I h
  refine thn (hi pins s σ H _ I h) fun iv s1 ⟨y, H1, I1, ry, q1⟩ => thn (ho pins s1 σ H1 _ I1 q1) fun u s2 ⟨x, H2, I2, rx, a, ov, ex, g, q2⟩ => ?_
  subst ex
  obtain rfl : u = Value.ref a := rx
  exact d_in hu I2 g ry fun s3 I3 => ⟨.bl ov.isSome, H2, I3, rfl, q2⟩
end


/-! ### displays -/
theorem dk_empty {P : Program} {w : World} {H : Hp} (h : Heap) (hb : sysModules < h.objs.size) : ObjOk P w H (h.push { cls := .type "dict", data := .dict #[] }) h.objs.size (.dK []) :=
  ⟨Nat.zero_le _, beq_eq_false_iff_ne.mpr (Ne.symm (Nat.ne_of_lt hb)), [], .nil, Heap.DictOf.new h⟩
/-- {}, to be a dict of the kind that is wanted -/
def tDNewK : TE := fun _ H Q => ∀ p, H p = none → Q (.ref p) (upd H p (.dK []))
section
variable {X : Cx} {pos : Pos}
theorem pe_dnewK : PE X (.Dict [] [] pos) tDNewK := fun pins s σ H Q I h =>
  wpAny_Dict_empty ⟨.ref s.heap.objs.size, _, I.laid (a := s.heap.objs.size) (o := .dK []) (t' := s.toks) (fun _ _ q => Heap.get?_push_of_some _ q) (Nat.le_refl _) (dk_empty s.heap I.big), rfl, h _ (I.hok.fresh (Nat.le_refl _))⟩
end

/-- the pairs of a display, from the left -/
def tPairs : List (TE × TE) → St → Hp → (List (V × V) → Hp → Prop) → Prop
  | [], _, H, Q => Q [] H
  | (tk, tv) :: r, σ, H, Q => tk σ H fun x H1 => tv σ H1 fun y H2 => tPairs r σ H2 fun ps H3 => Q ((x, y) :: ps) H3
abbrev VV : List (V × V) → List (Value × Value) → Prop := Paired fun p q => RelV p.1 q.1 ∧ RelV p.2 q.2
def PPs (X : Cx) (pos : Pos) (keys : List (Option Expr)) (values : List Expr) (trs : List (TE × TE)) : Prop :=
  ∀ (pins : List (Addr × Obj)) (s : Shared) (σ : St) (H : Hp) (Q : List (V × V) → Hp → Prop), Inv X pins σ H s → tPairs trs σ H Q →
    wpAny (model X.prog X.w) X.A (evalPairs (pairTrees keys values X.env pos)) (fun vs s' => ∃ ps H', Inv X pins σ H' s' ∧ VV ps vs ∧ Q ps H') X.xe s
theorem pps_nil {X : Cx} {pos : Pos} : PPs X pos [] [] [] := fun pins s σ H Q I h => pairTrees_nil_walk ⟨[], H, I, .nil, h⟩
theorem pps_cons {X : Cx} {pos : Pos} {k v : Expr} {ks : List (Option Expr)} {vs : List Expr} {tk tv : TE} {trs : List (TE × TE)} (hk : PE X k tk) (hv : PE X v tv) (hr : PPs X pos ks vs trs) :
    PPs X pos (some k :: ks) (v :: vs) ((tk, tv) :: trs) := fun pins s σ H Q I h =>
  pairTrees_cons_walk (thn (hk pins s σ H _ I h) fun u s1 ⟨x, H1, I1, rx, q1⟩ => thn (hv pins s1 σ H1 _ I1 q1) fun w2 s2 ⟨y, H2, I2, ry, q2⟩ =>
    thn (hr pins s2 σ H2 _ I2 q2) fun ws s3 ⟨ps, H3, I3, rel, q3⟩ => ⟨(x, y) :: ps, H3, I3, .cons ⟨rx, ry⟩ rel, q3⟩)

def mergeK (kvs more : List (Key × V)) : List (Key × V) := more.foldl (fun acc kv => putK acc kv.1 kv.2) kvs
theorem KV.merge : ∀ {more : List (Key × V)} {rs : List (Key × Value)} {kvs : List (Key × V)} {vs : List (Key × Value)}, KV more rs → KV kvs vs → KV (mergeK kvs more) (merged vs rs) := by
  intro more rs kvs vs r
  unfold KV at r
  induction r generalizing kvs vs with
  | nil => intro q; exact q
  | @cons p q ps qs h t ih =>
    intro r0
    have e : KV (putK kvs p.1 p.2) (stored vs q.1 q.2) := by
      have := r0.put p.1 h.2
      rw [← h.1]; exact this
    exact ih e
theorem length_mergeK : ∀ (more kvs : List (Key × V)), (mergeK kvs more).length ≤ kvs.length + more.length
  | [], kvs => by show kvs.length ≤ kvs.length + 0; omega
  | p :: r, kvs => by
    have h1 := length_mergeK r (putK kvs p.1 p.2)
    have h2 := length_putK kvs p.1 p.2
    show (mergeK (putK kvs p.1 p.2) r).length ≤ _
    rw [List.length_cons]; omega
theorem carries_of {P : Program} {w : World} : ∀ {kvs : List (Key × V)} {ws : List (Value × Value)}, VV (kvs.map fun kv => (kV kv.1, kv.2)) ws → ∃ rs, Carries (mixKind P w) ws rs ∧ KV kvs rs
  | [], _, r => by rw [List.map_nil] at r; cases r; exact ⟨[], True.intro, .nil⟩
  | p :: kvs, _, r => by
    rw [List.map_cons] at r
    cases r with
    | @cons a b as bs h t =>
      obtain ⟨rs, c, q⟩ := carries_of (P := P) (w := w) t
      obtain ⟨b1, b2⟩ := b
      exact ⟨(p.1, b2) :: rs, ⟨kV_is h.1, rfl, c⟩, .cons ⟨rfl, h.2⟩ q⟩
/-- {k: v, ..} with keys ints and texts; the new dict stands empty while the pairs are made -/
def tDisp (trs : List (TE × TE)) : TE := fun σ H Q => ∀ p, H p = none → tPairs trs σ (upd H p (.dK [])) fun ps H2 => H2 p = some (.dK []) ∧ ∃ kvs : List (Key × V), ps = kvs.map (fun kv => (kV kv.1, kv.2)) ∧ kvs.length ≤ 15 ∧ Q (.ref p) (upd H2 p (.dK (mergeK [] kvs)))
theorem pe_disp {X : Cx} {pos : Pos} {keys : List (Option Expr)} {values : List Expr} {trs : List (TE × TE)} (h : PPs X pos keys values trs) (hall : keys.all (·.isSome) = true) (hl : keys.length = values.length) (h0 : keys ≠ [])
    (h15 : keys.length ≤ 15) : PE X (.Dict keys values pos) (tDisp trs) := by
  intro pins s σ H Q I q
  have hn := I.hok.fresh (Nat.le_refl s.heap.objs.size)
  have I1 := I.laid (a := s.heap.objs.size) (o := .dK []) (h' := s.heap.push { cls := .type "dict", data := .dict #[] }) (t' := s.toks) (fun _ _ q => Heap.get?_push_of_some _ q) (Nat.le_refl _) (dk_empty s.heap I.big)
  refine wpAny_Dict_walk (knd := mixKind X.prog X.w) hall hl h0 h15 (thn (h pins _ σ _ _ I1 (q _ hn)) fun ws s2 ⟨ps, H2, I2, rel, e, kvs, ep, lk, q2⟩ => ?_)
  subst ep
  obtain ⟨rs, c, rk⟩ := carries_of (P := X.prog) (w := X.w) rel
  obtain ⟨z, hd, vs0, r0, dd⟩ := dk_of I2.hok e
  cases r0
  refine ⟨rs, c, dd, fun h' dd' hs => ⟨.ref s.heap.objs.size, _, ?_, rfl, q2⟩⟩
  have hz : (mergeK [] kvs).length ≤ sizeLine := by
    have h1 := length_mergeK kvs []
    rw [List.length_nil] at h1
    rw [sizeLine_eq]; omega
  have he : ∃ q, h'.get? s.heap.objs.size = some q := let ⟨q, _, _, hq, _⟩ := dd'; ⟨q, hq⟩
  exact d_write I2 (by rw [e]; exact True.intro) hs he (dk_new hz hd (rk.merge .nil) dd')


/-! ### methods -/
/-- a method call o.m(e) of a built-in, with one argument: what must be seen of the text -/
structure M1 (X : Cx) (o : Expr) (m : Str) (apos : Pos) (e : Expr) (cpos : Pos) : Prop where
  base : attributeBase o m X.env (eval o X.env) = eval o X.env
  few : ((backTo cpos (starEach [e] X.env)).all (fun x => !x.1) && (backToKw cpos (keywordEach [] X.env)).all (fun x => x.1.isSome)
    && decide (([e] : List Expr).length + ([] : List Keyword).length + (if ([] : List Keyword).isEmpty then 0 else 1) < 30)) = true
  line : (apos.endLine == cpos.line) = true
  trees : backTo cpos (starEach [e] X.env) = [(false, eval e X.env)]
structure M2 (X : Cx) (o : Expr) (m : Str) (apos : Pos) (e f : Expr) (cpos : Pos) : Prop where
  base : attributeBase o m X.env (eval o X.env) = eval o X.env
  few : ((backTo cpos (starEach [e, f] X.env)).all (fun x => !x.1) && (backToKw cpos (keywordEach [] X.env)).all (fun x => x.1.isSome)
    && decide (([e, f] : List Expr).length + ([] : List Keyword).length + (if ([] : List Keyword).isEmpty then 0 else 1) < 30)) = true
  line : (apos.endLine == cpos.line) = true
  trees : backTo cpos (starEach [e, f] X.env) = [(false, eval e X.env), (false, eval f X.env)]

/-- a is a dict, whatever its keys -/
def IsD (H : Hp) (a : Addr) : Prop := (∃ kvs, Rd H a (.dK kvs)) ∨ ∃ kvs, Rd H a (.dT kvs)
theorem isD_at {X : Cx} {pins : List (Addr × Obj)} {σ : St} {H : Hp} {s : Shared} {a : Addr} (I : Inv X pins σ H s) (d : IsD H a) :
    s.TypeIs (.ref a) "dict" ∧ (∀ b, Value.ref a = .ref b → ∃ ob, s.heap.get? b = some ob ∧ ob.dict = none) ∧ (a == sysModules) = false := by
  rcases d with ⟨kvs, e⟩ | ⟨kvs, e⟩
  · obtain ⟨_, hd, vs, _, dd⟩ := dk_rd I.hok e
    refine ⟨dd.typeIs, fun b q => ?_, hd⟩
    cases q
    obtain ⟨ob, _, _, h1, h2, _⟩ := dd
    exact ⟨ob, h1, h2.2.1⟩
  · obtain ⟨_, hd, xs, _, dd⟩ := dt_rd I.hok e
    refine ⟨dd.typeIs, fun b q => ?_, hd⟩
    cases q
    obtain ⟨ob, _, _, h1, h2, _⟩ := dd
    exact ⟨ob, h1, h2.2.1⟩

section
variable {X : Cx} {pins : List (Addr × Obj)} {σ : St} {H : Hp} {s : Shared} {a : Addr} {y d : V} {u r : Value} {o : Option V} {A : Around} {E : Value → Shared → Prop}
end

/-- d.pop(k): there; d.pop(k, x): there or not -/
def tDPop1 (td ty : TE) : TE := fun σ H Q => td σ H fun x H1 => ∃ a, x = .ref a ∧ IsD H1 a ∧ ty σ H1 fun y H2 => ∃ kvs k v, H2 a = some (.dK kvs) ∧ y = kV k ∧ valV kvs k = some v ∧ Q v (upd H2 a (.dK (dropK kvs k)))
section
variable {X : Cx} {o e f : Expr} {apos cpos : Pos} {td ty tx : TE}
theorem pe_dpop1 (ho : PE X o td) (he : PE X e ty) (m : M1 X o "pop" apos e cpos) : PE X (.Call (.Attribute o "pop" apos) [e] [] cpos) (tDPop1 td ty) := by
  intro pins s σ H Q I h
  refine wpAny_Call_method m.base m.few m.line PySem.F.plainAttrs_dict PySem.F.slot_dict_pop PySem.F.type_dict_pop (thn (ho pins s σ H _ I h) fun u s1 ⟨x, H1, I1, rx, a, ex, d, q1⟩ => ?_)
  subst ex
  obtain rfl : u = Value.ref a := rx
  obtain ⟨t1, t2, _⟩ := isD_at I1 d
  refine ⟨t1, t2, ?_⟩
  rw [m.trees]
  refine Calls.callWith_builtin rfl (Calls.evalArgs_plain (Calls.spliced_cons (thn (he pins s1 σ H1 _ I1 q1) fun iv s2 ⟨y, H2, I2, ry, kvs, k, v, ea, ey, l, q2⟩ => Calls.spliced_nil ?_)))
  subst ey
  exact d_pop I2 ea ry l (.inl rfl) fun w' s3 I3 rw' => ⟨v, _, I3, rw', q2⟩
end

/-! ### dict(d): a copy -/
section
variable {X : Cx} {pins : List (Addr × Obj)} {σ : St} {H : Hp} {s : Shared} {a : Addr} {kvs : List (Key × V)} {A : Around} {E : Value → Shared → Prop}
end


section
variable {X : Cx} {pins : List (Addr × Obj)} {σ : St} {H : Hp} {s : Shared} {a : Addr} {y : V} {u : Value} {A : Around} {E : Value → Shared → Prop}
end
end L2

namespace L2
open PySem PySem.Spec PyProof.Rows

section
variable {prog : Program} {w : World} {A : Around} {E : Value → Shared → Prop}
end

section
variable {X : Cx}
end
end L2

namespace L2
open PySem PySem.Spec PyProof.Rows

theorem boot_reversed5 : bootBuiltins "reversed" = some (.type "reversed") := by decide +kernel

section
variable {X : Cx} {pins : List (Addr × Obj)} {σ : St} {H : Hp} {s : Shared} {h' : Heap}
/-- .. and one new object is laid -/
theorem Inv.turnedNew {t' : Nat} {ch : List Addr} {T : Addr} {ob : HO} (I : Inv X pins σ H s) (k : ∀ b o, b ∉ ch → s.heap.get? b = some o → h'.get? b = some o) (hf : ∀ b ∈ ch, FpOk X pins H b) (hT : s.heap.objs.size ≤ T)
    (new : ObjOk X.prog X.w (upd H T ob) h' T ob) : Inv X pins σ (upd H T ob) { s with heap := h', toks := t' } := by
  have hn : H T = none := I.hok.fresh hT
  have nit : ∀ b u, H b = some u → b ∉ ch := fun b u e z => by
    have q := (hf b z).1
    rw [q] at e; cases e
  refine I.step (g' := s.gens) (d' := s.drawn) (ch := ch) (fun b hb => ⟨(hf b hb).2.2.2.1, (hf b hb).2.1, (hf b hb).2.2.2.2.1, (hf b hb).2.2.2.2.2⟩) (fun b o _ _ hc e _ => k b o hc e) (fun b o _ _ hc e _ => ⟨o.slots, k b o hc e⟩)
    (fun b o _ e n => ?_) (fun b o hc e => ⟨o, k b o hc e⟩) (fun b xs e => ?_) (fun b o u e => ?_) (fun b ps e => ⟨#[], ?_⟩) (fun m hm => ?_) (fun b u e => ?_) I.bare
  · rw [upd_ne (Nat.ne_of_lt (Nat.lt_of_lt_of_le (Heap.lt_size e) hT))]; exact n
  · rw [upd_ne (ne_of_none e hn)]; exact e
  · rw [upd_ne (ne_of_none e hn)]; exact e
  · rw [upd_ne (ne_of_none e hn), e]; simp
  · obtain ⟨o, es, ep, ho, r⟩ := hm
    exact ⟨o, es, ep, k _ o (fun z => (hf _ z).2.1 rfl) ho, r⟩
  · by_cases hb : b = T
    · subst hb
      rw [upd_same] at e
      cases e
      exact new
    · rw [upd_ne hb] at e
      refine (I.hok b u e).stay (fun c v hc q => k c v ?_ q) (fun c q => by rw [upd_ne (ne_of_none q hn)]; exact q) fun c xs q => by rw [upd_ne (ne_of_none q hn)]; exact q
      rcases hc with z | z
      · rw [z]; exact nit b u e
      · exact nit c _ z

/-! ### locking a thing while a statement runs -/
end
section
variable {X : Cx}
/-! ### one iterator just laid -/
end

/-! ### range with a step -/
section
variable {X : Cx} {tg : Expr}
end
/-! ### reversed(list) -/
section
variable {X : Cx} {tg : Expr}
end

/-! ### a str -/
/-! ### a dict's keys: any dict's entries -/
section
variable {prog : Program} {w : World} {A : Around} {E : Value → Shared → Prop} {s : Shared}
end

/-! ### a locked dict -/
section
variable {X : Cx} {pins : List (Addr × Obj)} {σ : St} {H : Hp} {s : Shared} {d : Addr} {o : Obj}
end

section
variable {P : Program} {w : World} {K : PySem.W.Frag} {tg : Expr} {d : Addr} {o : Obj} {es : Array DictEntry} {ep : Nat}
end

/-! ### for k in d, d.keys(), d.values(), d.items() -/
section
variable {X : Cx} {tg e : Expr} {td : TE} {apos cpos : Pos}
end

/-! ### enumerate(list) -/
/-- the list at a as it stands at each turn, each item in a new pair -/
def Ite (K : PySem.W.Frag) (a : Addr) : It :=
  ⟨fun i H => ∃ (xs : List V) (x : V), SqL K H a xs ∧ xs[i]? = some x, fun i H v H' => ∃ T x, v = .ref T ∧ H T = none ∧ H' = upd H T (.tup [.int (i : Nat), x]) ∧ ∀ xs, SqL K H a xs → xs[i]? = some x, fun i H => ∃ xs : List V, SqL K H a xs ∧ xs.length ≤ i⟩
theorem turn_enum {P : Program} {w : World} {K : PySem.W.Frag} {elts : List Expr} {kk : Nat} {tpos : Pos} (a e it : Addr) :
    Turn P w K (.Tuple elts kk tpos) (Ite K a) [e, it] e (fun i h => (∃ old, IsEnum h e it ((i : Nat) : Int) old) ∧ h.IsListIter it a i ∧ e ≠ it) where
  mem := by simp
  obj := fun i h st b hb => by
    obtain ⟨⟨old, he⟩, ⟨o, ho, hc, hd⟩, _⟩ := st
    have e' : b = e ∨ b = it := by simpa using hb
    rcases e' with z | z
    · rw [z]; exact ⟨_, he, fun v q => nomatch q⟩
    · rw [z]; exact ⟨o, ho, fun v q => by rw [hd] at q; cases q⟩
  keep := fun i h h' st k => let ⟨⟨old, he⟩, hi, hne⟩ := st; ⟨⟨old, k e (by simp) _ he⟩, hi.at fun o q => k it (by simp) o q, hne⟩
  item := by
    intro X hP hw hK hc i pins s σ H E I hf st hg
    subst hP hw hK
    obtain ⟨⟨old, he⟩, hit, hne⟩ := st
    obtain ⟨xs, x, hq, hx⟩ := hg
    obtain ⟨its, rv, p, hz⟩ := I.list hq
    obtain ⟨u, hu, ru⟩ := rv.get hx
    have hel : e < s.heap.objs.size := Heap.lt_size he
    have hil : it < s.heap.objs.size := by obtain ⟨_, q, _⟩ := hit; exact Heap.lt_size q
    refine wpAny_pyNext_enum_item he hit p.isList (x := u) (by simpa using hu) hne fun h' ho hit' hT hsz hk => ?_
    refine ⟨_, rfl, wpAny_letOwnedTupleGo_enum (s := { s with heap := h', toks := s.toks + 1 }) ho fun h'' he' sb => ?_⟩
    have hT2 : h''.get? s.heap.objs.size = some { cls := .type "tuple", data := .seq #[.int i s.toks, u] } := (sb.2 _ (Nat.ne_of_gt hel)).trans hT
    have new : ObjOk X.prog X.w (upd H s.heap.objs.size (.tup [.int (i : Nat), x])) h'' s.heap.objs.size (.tup [.int (i : Nat), x]) :=
      ⟨by show 2 ≤ sizeLine; decide, [.int i s.toks, u], .cons ⟨_, rfl⟩ (.cons ru .nil), ⟨_, hT2, rfl, _, rfl⟩⟩
    have I1 : Inv X pins σ (upd H s.heap.objs.size (.tup [.int (i : Nat), x])) { s with heap := h'', toks := s.toks + 1 } :=
      I.turnedNew (ch := [e, it]) (fun b ob hb q => (sb.2 b (fun z => hb (by simp [z]))).trans (hk b ob (fun z => hb (by simp [z])) (fun z => hb (by simp [z])) q)) hf (Nat.le_refl _) new
    refine ⟨.ref s.heap.objs.size, _, I1, rfl, ⟨_, x, rfl, I.hok.fresh (Nat.le_refl _), rfl, fun ys hy => by rw [I.list_inj hy hq]; exact hx⟩, ⟨⟨u, ?_⟩, hit'.at fun o q => (sb.2 it (Ne.symm hne)).trans q, hne⟩, fun b hb => ?_⟩
    · have e1 : ((i + 1 : Nat) : Int) = (i : Int) + 1 := by omega
      rw [e1]; exact he'
    · have hb' : b < s.heap.objs.size := by
        have e' : b = e ∨ b = it := by simpa using hb
        rcases e' with z | z
        · rw [z]; exact hel
        · rw [z]; exact hil
      rw [upd_ne (Nat.ne_of_lt hb')]
      exact (hf b hb).1
  done := by
    intro X hP hw hK hc i pins s σ H E I hf st hg
    subst hP hw hK
    obtain ⟨⟨old, he⟩, hit, hne⟩ := st
    obtain ⟨xs, hq, hx⟩ := hg
    obtain ⟨its, rv, p, hz⟩ := I.list hq
    obtain ⟨f0, f1, f2, f3, f4, f5⟩ := hf it (by simp)
    have hl := rv.length
    exact wpAny_pyNext_enum_end (I.ok.hd hc) he hit p.isList (by simp; omega) fun h' eb => ⟨rfl, I.turned (t' := s.toks) (fun b o hb q => eb b o hb q) f0 f1 f3 f4 f5⟩
  self := fun A i s Q E st h => let ⟨⟨_, he⟩, _⟩ := st; wpAny_pyIter_enum he h
def iEnum (K : PySem.W.Frag) (ta : TA) : TI := fun σ H R => ta σ H fun vs H1 => ∃ a xs, vs = [.ref a] ∧ SqL K H1 a xs ∧ R (Ite K a) H1
theorem pi_enum {X : Cx} {e : Expr} {ta : TA} {p pos tpos : Pos} {elts : List Expr} {kk : Nat} (hg : Gl X "enumerate") (hm : X.mg "enumerate" = none) (ha : PA X [e] ta) (hs : starEach [e] X.env = [(false, eval e X.env)] := by rfl) :
    PI X (.Tuple elts kk tpos) (.Call (.Name "enumerate" p) [e] [] pos) (iEnum X.K ta) := by
  intro pins s σ H R I h
  refine Call_ (ld_blt I hg hm boot_enumerate (PyProof.Rows.callWith_type1 (thn (ha pos pins s σ H _ I h) fun us s1 ⟨vs, H1, I1, r1, q1⟩ => ?_) hs rfl))
  obtain ⟨a, xs, ex, hq, q⟩ := q1
  subst ex
  cases r1 with
  | cons r rr =>
    cases rr
    cases r
    obtain ⟨its, rv, p', hz⟩ := I1.list hq
    refine call_enumerate_list p'.isList fun h' he hit hsz hk => wpAny_pyIter_enum he ?_
    have I2 : Inv X pins σ H1 { s1 with heap := h' } := I1.kept (t' := s1.toks) hk
    refine ⟨s1.heap.objs.size + 1, [s1.heap.objs.size + 1, s1.heap.objs.size], _, _, H1, rfl, I2, turn_enum a (s1.heap.objs.size + 1) s1.heap.objs.size, ⟨⟨.none, he⟩, hit, Nat.succ_ne_self _⟩, fun b hb => ?_, q⟩
    have e' : b = s1.heap.objs.size + 1 ∨ b = s1.heap.objs.size := by simpa using hb
    have hle : s1.heap.objs.size ≤ b := by
      rcases e' with z | z
      · rw [z]; exact Nat.le_add_right _ _
      · rw [z]; exact Nat.le_refl _
    exact I1.fpOk hle (I1.hok.fresh hle)
/-! ### zip(list, list) -/
end L2

section
namespace Bits
open PySem PyProof.Rows

end Bits
end

section
namespace TL
open PySem PySem.Builtin PySem.Builtin.Str PySem.StrLaws

/-! ### the list functions -/
/-! ### the model's split and partition are these -/
/-! ### computing spl and par -/
/-! ### digits -/
/-! ### words: x.split() -/
end TL
end

namespace L2
open PySem PySem.Spec PyProof.Rows

section
variable {X : Cx} {pins : List (Addr × Obj)} {σ : St} {H : Hp} {s : Shared} {Q : VK}
end

section
variable {X : Cx}

/-! ### of a text alone -/
/-! ### of a text and a text -/
end

section
variable {X : Cx} {o e : Expr} {to te : TE}
end
end L2

namespace L2
open PySem PySem.Spec PyProof.Rows

section
variable {X : Cx}
end

/-! ### slices of a text -/
end L2

namespace Att
open PySem PySem.W PySem.Calls PyProof.Rows

/-! ### the script -/
theorem ints_of_wellAll {P : Params} {h : Heap} : ∀ (ns : List Int) (vs : List Value), WellAll P h vs (ns.map WData.int) → IntsAre vs ns := by
  intro ns
  induction ns with
  | nil =>
    intro vs w
    rw [List.map_nil] at w
    cases w
    exact .nil
  | cons n ns ih =>
    intro vs w
    rw [List.map_cons] at w
    cases w with
    | cons a b =>
      cases a
      exact .cons _ _ (ih _ b)

/-! ### the attachment: holds_open's last premise (the goal 'hc' behind k_head) from a wpAny of the law's body -/
/-! ### rules over ANY heap (no ledger) from facts about the written part K: the library's own take a ledger (News) for what they write -/
section
variable {prog : Program} {w : World} {A : Around} {E : Value → Shared → Prop} {s : Shared} {K : Frag}

/-! the whole heap as the ledger: makes every rule that writes through a ledger a rule over any heap -/
end
end Att

namespace L2
open PySem PySem.Spec PyProof.Rows

theorem vals_ints : ∀ {vs : List Value} {ns : List Int}, IntsAre vs ns → Vals (ns.map V.int) vs
  | _, _, .nil => .nil
  | _, _, .cons n t h => .cons ⟨t, rfl⟩ (vals_ints h)

/-- nothing is tracked but the script, known to the object (or it is an object of the module) -/
def Only (H : Hp) : Prop := ∀ b, H b = none ∨ ∃ o xs, H b = some (.frz o (.lst xs))

end L2

namespace L2
open PySem PySem.Spec PyProof.Rows

end L2

/- THE LAST THEOREM (shape; LID, My.* are yours):
   My.Adr: a structure of the addresses that your layer names (classes, functions); My.Txt K t: a structure (Prop) of the equations over K;
   My.txt_mk : {K} {implicit addresses ..} (e1 : nsIn K mainGlobals "law" = some (some (.ref f))) (e2 : K.lookup f = some ⟨oc, od, .func (fnOf "law" "law" params body scope dV kV doc pm an cdv ct), sl⟩) (e3 : codeIn K cdv "law" = true) .. : ∃ t, My.Txt K t

(the tactic k_is has no namespace: write k_is) -/

/-! SHORT WORDS over the layer: a def of the text, its body, what a loop and a test want. -/
namespace L2
open PySem PySem.Spec PyProof.Rows

/-! ### the text by places -/

/-! ### no exception leaves a def -/
abbrev CX0 : CXT := fun _ _ _ _ _ _ => False
abbrev E0 : XK := fun _ _ _ => False
theorem pass0 {X : Cx} : Passes CX0 X E0 := fun _ _ _ _ _ _ _ h => h.elim

/-! ### a def (or method) of the text as it stands behind the top -/
structure Fun (K : PySem.W.Frag) (x qual : Str) (st : Stmt) (f : Addr) (fd : FuncData) : Prop where
  ex : ∃ (oc : Value) (od : Option Addr) (kV doc pm : Value) (an : Option Addr) (cdv ct : Value) (osl : Array (Option Value)),
    fd = PySem.W.fnOf x qual (defArgs st) (defBody st) (defScope st) .none kV doc pm an cdv ct ∧ K.lookup f = some ⟨oc, od, .func fd, osl⟩ ∧ PySem.W.codeIn K cdv qual = true
  kp : PySem.W.keepIn K (.ref f) = true
section
variable {P : Program} {w : World} {K : PySem.W.Frag} {mg : Str → Option Value} {base : Heap}
/-- THE RULE for a def: its body as a term of rules, and the reading of that term -/
theorem Fun.ok {x qual : Str} {st : Stmt} {f : Addr} {fd : FuncData} {N ps : List Str} {k : Nat} {sp : Sp} (F : Fun K x qual st f fd) (S : FnScope N ps (defScope st)) (len : ∀ vs H Q E, sp vs H Q E → vs.length = ps.length)
    (hbody : ∀ (cdv : Value) (A : Around) (outer : List Env) (s : Shared) (H : Hp) (vs : List V) (Q : VK) (E : XK), Room k (A.deeper (envOfC qual (defScope st) s.heap.objs.size f cdv)) → sp vs H Q E →
      ∃ t, PSs (cxOf CX0 P w K mg base N qual (defScope st) f cdv A outer s H E).nox (defBody st) t ∧ t { nx := fun _ H' => Q .non H', rt := Q } (start N vs) H) : FnOk P w K mg base CX0 (k + 1) f fd ps sp := by
  obtain ⟨oc, od, kV, doc, pm, an, cdv, ct, osl, rfl, lk, hcd⟩ := F.ex
  refine fn_of lk hcd S len fun A outer s H vs Q E hr hsp => ?_
  obtain ⟨t, h, q⟩ := hbody cdv A outer s H vs Q E hr hsp
  exact ⟨t, h.nox, q⟩
/-- how its arguments bind (no defaults): h is «fun _ _ _ _ _ _ us hl => match us, hl with | [_, _], _ => rfl», one _ a parameter -/
theorem Fun.binds {x qual : Str} {st : Stmt} {f : Addr} {fd : FuncData} {ps : List Str} (F : Fun K x qual st f fd)
    (h : ∀ (kV doc pm : Value) (an : Option Addr) (cdv ct : Value) (us : List Value), us.length = ps.length → bindArgs (PySem.W.fnOf x qual (defArgs st) (defBody st) (defScope st) .none kV doc pm an cdv ct) ⟨us, []⟩ = pure (ps.zip us)) : Binds K fd ps [] := by
  obtain ⟨oc, od, kV, doc, pm, an, cdv, ct, osl, rfl, lk, hcd⟩ := F.ex
  exact .all (h kV doc pm an cdv ct)
theorem fun_mk {x qual : Str} {st : Stmt} {f : Addr} {oc : Value} {od an : Option Addr} {osl : Array (Option Value)} {kV doc pm cdv ct : Value} (l : K.lookup f = some ⟨oc, od, .func (PySem.W.fnOf x qual (defArgs st) (defBody st) (defScope st) .none kV doc pm an cdv ct), osl⟩)
    (c : PySem.W.codeIn K cdv qual = true) (k : PySem.W.keepIn K (.ref f) = true) : Fun K x qual st f (PySem.W.fnOf x qual (defArgs st) (defBody st) (defScope st) .none kV doc pm an cdv ct) := ⟨⟨oc, od, kV, doc, pm, an, cdv, ct, osl, rfl, l, c⟩, k⟩
end
theorem hu_of {A : Around} {k : Nat} (hr : Room k A) : A.units + 1 < cLine := Nat.lt_of_le_of_lt (Nat.add_le_add_left (by decide : 1 ≤ 64) _) hr.units
/-! ### expressions in short: the name that stands in the i-th slot -/
section
variable {X : Cx}
theorem pv (i : Nat) {x : Str} {pos : Pos} (hN : X.N[i]? = some x := by rfl) (hv : Vis X.env.scope x := by first | exact Or.inl rfl | exact Or.inr (Or.inl rfl) | exact Or.inr (Or.inr rfl)) (hd : (x == ("__debug__" : Str)) = false := by decide)
    (hcd : (x == ("__classdict__" : Str)) = false := by decide) : PE X (.Name x pos) (tVar i) := pe_var hN hv hd hcd
end

/-! ### tests -/
theorem iteF {A B : Prop} (h : B) : if false = true then A else B := by
  rw [if_neg Bool.false_ne_true]
  exact h
theorem iteT {A B : Prop} (h : A) : if true = true then A else B := by
  rw [if_pos rfl]
  exact h
/-! ### heaps -/
/-- all that was tracked is as it was -/
def Same (H H' : Hp) : Prop := ∀ b o, H b = some o → H' b = some o
theorem Same.refl (H : Hp) : Same H H := fun _ _ h => h
theorem Same.trans {H H1 H2 : Hp} (a : Same H H1) (b : Same H1 H2) : Same H H2 := fun c o h => b c o (a c o h)
theorem Same.free {H H' : Hp} (e : Same H H') {l : Addr} (h : H' l = Option.none) : H l = Option.none := by
  cases q : H l with
  | none => rfl
  | some o =>
    rw [e l o q] at h
    cases h
theorem Same.seq {K : PySem.W.Frag} {H H' : Hp} {a : Addr} {xs : List V} (e : Same H H') (h : SqL K H a xs) : SqL K H' a xs := by
  rcases h with (h | ⟨o, h⟩) | h
  · exact .inl (.inl (e _ _ h))
  · exact .inl (.inr ⟨o, e _ _ h⟩)
  · exact .inr h

/-! ### a dict's pairs: keys that differ -/
section
variable {κ : Type} [DecidableEq κ]
end
/-! ### lists -/
end L2
set_option Elab.async false
set_option linter.all false
set_option maxRecDepth 100000
/-! The head of an OpenSpec row whose one argument and whose answer are lists of ints. -/
namespace L2
open PySem PySem.Spec PyProof.Rows
theorem spec_call {P : Program} {w : World} {K : PySem.W.Frag} {mg mb : Str → Option Value} {CX : CXT} {k : Nat} {fa a : Addr} {fd : FuncData} {x : Str} {sp : Sp} {s₁ : Shared} {vs : List Value} {ns : List Int}
    (KX : K.In s₁.heap) (hns : s₁.heap.Ns mainGlobals mg) (hb : s₁.heap.Ns builtinsNs mb) (hbb : ∀ x : Str, x ≠ "__name__" → mb x = bootBuiltins x) (hlim : s₁.heap.NoLimit) (hg : s₁.gens = #[])
    (ha : s₁.heap.get? a = some { cls := .type "list", data := .seq vs.toArray }) (hi : IntsAre vs ns) (hl : ns.length ≤ sizeLine) (hr : Room k callerA)
    (F : ∀ base : Heap, K.In base → base.Ns mainGlobals mg → FnOk P w K mg base CX k fa fd [x] sp) (hbind : ∀ (s : Shared) (u : Value), BindsTo s fd ⟨[u], []⟩ [(x, u)])
    {R : V → Hp → Prop} (hsp : ∀ H : Hp, Only H → SqL K H a (ns.map V.int) → sp [.ref a] H R fun _ _ _ => False)
    (hCX : ∀ H e s', CX [] H s₁ (fun _ _ _ => False) e s' → False) :
    codeAny (model P w) callerA (.call (.ref fa) ⟨[.ref a], []⟩) (fun r s' => (∃ u v H', r = .ok (.ret u) ∧ RelV v u ∧ HOk P w H' s'.heap ∧ R v H') ∧ OldK s₁.heap s'.heap ∧ s'.os = s₁.os ∧ AllBare s'.gens) s₁ := by
  have rv := vals_ints hi
  have lenV := hi.length
  -- from an abstract heap in which nothing but the script may be tracked
  have core : ∀ H : Hp, Only H → SqL K H a (ns.map V.int) → HOk P w H s₁.heap → (∀ b, H b ≠ none → b = a) → (H a ≠ none → K.lookup a = none) →
      codeAny (model P w) callerA (.call (.ref fa) ⟨[.ref a], []⟩) (fun r s' => (∃ u v H', r = .ok (.ret u) ∧ RelV v u ∧ HOk P w H' s'.heap ∧ R v H') ∧ OldK s₁.heap s'.heap ∧ s'.os = s₁.os ∧ AllBare s'.gens) s₁ := by
    intro H hO hS hok hA hK
    have base_of : ∀ {b : Addr} {o : Obj}, s₁.heap.get? b = some o → H b = none → (hidT s₁.heap H).get? b = some o := fun e n => hidT_get e n
    have noA : ∀ {b : Addr} {o : Obj} {es : Array DictEntry} {ep : Nat}, s₁.heap.get? b = some o → o.data = .dict es ep → H b = none := fun {b o es ep} e d => by
      cases q : H b with
      | none => rfl
      | some u =>
        have e' : b = a := hA b (by rw [q]; simp)
        subst e'
        rw [ha] at e; cases e
        have d' : Data.seq vs.toArray _ = Data.dict es ep := d
        cases d'
    have nsK : ∀ {b : Addr} {m : Str → Option Value}, s₁.heap.Ns b m → (hidT s₁.heap H).Ns b m := fun {b m} ⟨o, es, ep, e, d, r⟩ => ⟨o, es, ep, base_of e (noA e d), d, r⟩
    have hKb : K.In (hidT s₁.heap H) := fun b o e => base_of (KX b o e) (by
      cases q : H b with
      | none => rfl
      | some u =>
        have e' : b = a := hA b (by rw [q]; simp)
        subst e'
        rw [hK (by rw [q]; simp)] at e; cases e)
    have hM : Mod K mg (hidT s₁.heap H) := ⟨hKb, nsK hns, ⟨mb, nsK hb, hbb⟩, let ⟨mc, h1, h2⟩ := hlim; ⟨mc, nsK h1, h2⟩⟩
    have e0 : Env0 P w K mg (hidT s₁.heap H) callerA [] s₁ H := ⟨rfl, hM, fun b o e => of_hidT e, Nat.le_of_eq (hidT_size _ _), trivial, fun b hb => absurd (show b ∈ ([] : List Addr) from hb) (by simp), hok, .of_eq hg⟩
    refine codeAny_mono ((F _ hKb (nsK hns)).run callerA [] s₁ H ⟨[.ref a], []⟩ [.ref a] [.ref a] _ _ hr e0 (hbind s₁ (.ref a)) (.cons rfl .nil) (hsp H hO hS)) fun r s' h => ?_
    cases r with
    | error e => exact (hCX H e s' h).elim
    | ok fl =>
      cases fl with
      | next => exact False.elim h
      | brk => exact False.elim h
      | cont => exact False.elim h
      | ret u =>
        obtain ⟨v, H', os, bare, un, hok', r', q⟩ := h
        refine ⟨⟨u, v, H', rfl, r', hok', q⟩, OldK.of_keep fun b o e => ?_, os, bare⟩
        cases q : H b with
        | none => exact un.keep b o e q (by intro z; exact absurd (show b ∈ ([] : List Addr) from z) (by simp)) (by simp)
        | some u =>
          rcases hO b with z | ⟨ob, xs, z⟩
          · rw [q] at z; cases z
          · have z2 := un.frzs b ob _ z
            obtain ⟨e1, _⟩ := hok b _ z
            obtain ⟨e2, _⟩ := hok' b _ z2
            rw [e] at e1; cases e1
            exact e2
  cases hk : K.lookup a with
  | some o =>
    -- the script is one of the module's own objects
    have e := KX a o hk
    rw [ha] at e
    cases e
    refine core (fun _ => none) (fun _ => .inl rfl) (.inr ⟨_, vs.toArray, _, hk, rfl, rfl, rfl, by rw [List.size_toArray, lenV]; exact hl, by simpa using rv⟩) (fun b u z => by have z' : (none : Option HO) = some u := z; cases z') (fun b z => absurd rfl z) fun z => absurd rfl z
  | none =>
    refine core (fun b => if b = a then some (.frz { cls := .type "list", data := .seq vs.toArray } (.lst (ns.map V.int))) else none) (fun b => ?_) (.inl (.inr ⟨{ cls := .type "list", data := .seq vs.toArray }, if_pos rfl⟩)) (fun b u z => ?_) (fun b z => ?_) fun _ => hk
    · by_cases hb : b = a
      · exact .inr ⟨_, _, if_pos hb⟩
      · exact .inl (if_neg hb)
    · by_cases hb : b = a
      · have z' := (if_pos hb).symm.trans z
        cases z'
        subst hb
        exact ⟨ha, by rw [List.length_map]; exact hl, vs, _, rv, ha⟩
      · have z' := (if_neg hb).symm.trans z
        cases z'
    · by_cases hb : b = a
      · exact hb
      · exact absurd (if_neg hb) z
theorem reads_vals {R : PySem.W.WRecords} {cl : Str → Option Addr} {h : Heap} : ∀ {ys : List Int} {us : List Value}, Vals (ys.map V.int) us → PySem.W.ReadsAllW R cl h us (ys.map PySem.W.WData.int) []
  | [], _, r => by
    cases r
    exact .nil
  | y :: ys, _, r => by
    cases r with
    | cons a b =>
      obtain ⟨t, rfl⟩ := a
      exact PySem.W.ReadsAllW.cons (as := []) (bs := []) (.int y t) (reads_vals b)
theorem spec_walk {r : PySem.W.OpenSpec} {n k : Nat} {q : Program} {loose : List Str} {XP : (Str → Option Value) → Heap → Prop} {YP : World → Heap → Prop} {d : DefRec} {K : Params → PySem.W.Frag} {CX : CXT} {sp : PySem.W.Frag → Sp} {x : Str} {f : List Int → List Int} {asked : List Int → Prop}
    (hreq : ∀ args, r.pre args = true → ∃ ns : List Int, args = [PySem.W.WData.list (ns.map PySem.W.WData.int)] ∧ ns.length ≤ n ∧ asked ns ∧ r.claim.post args (.list ((f ns).map PySem.W.WData.int)) args = true)
    (hn2 : n ≤ sizeLine) (hdf : d.params.defaults = []) (hr : Room k callerA)
    (hY : ∀ (w : World) (h : Heap), YP w h → (K w.params).In h)
    (F : ∀ (w : World) (mg : Str → Option Value) (fa : Addr) (h : Heap), (K w.params).In h → h.Ns mainGlobals mg → mg d.name = some (.ref fa) →
      ∃ fd : FuncData, (∀ (s : Shared) (u : Value), BindsTo s fd ⟨[u], []⟩ [(x, u)]) ∧
        ∀ base : Heap, (K w.params).In base → base.Ns mainGlobals mg → FnOk r.prog w (K w.params) mg base CX k fa fd [x] (sp (K w.params)))
    (hsp : ∀ (K : PySem.W.Frag) (H : Hp) (a : Addr) (ns : List Int), ns.length ≤ n → asked ns → Only H → SqL K H a (ns.map V.int) → sp K [.ref a] H (fun v H' => ∃ l, v = .ref l ∧ H' l = some (.lst ((f ns).map V.int))) fun _ _ _ => False)
    (hCX : ∀ (H : Hp) (s : Shared) (e : Value) (s' : Shared), CX [] H s (fun _ _ _ => False) e s' → False) :
    PySem.W.WalkOS q loose XP YP r d [] (fun f vs => PySem.call f vs) := by
  intro w s₀ s₁ mg mb G Y fa o pm cd doc dV kV ho hd hcd hD hmg hg args vals as hpre hlay hrd hwl hlo
  obtain rfl : dV = .none := PySem.W.Dflts.none hD hdf
  obtain rfl : kV = .none := PySem.W.Dflts.noKw hD
  obtain ⟨ns, rfl, hlen, hask, hpost⟩ := hreq args hpre
  obtain ⟨a, vs, rfl, hobj, hints⟩ : ∃ a vs, vals = [Value.ref a] ∧ s₁.heap.get? a = some { cls := .type "list", data := .seq vs.toArray } ∧ IntsAre vs ns := by
    cases hwl with
    | cons w1 w2 =>
      cases w2
      cases w1 with
      | list ho hall => exact ⟨_, _, rfl, ho, Att.ints_of_wellAll ns _ hall⟩
  have KX := hY w _ Y
  obtain ⟨fd, hb, hF⟩ := F w mg fa _ KX G.T.g hmg
  have key := spec_call KX G.T.g G.T.b G.T.builtins G.T.nolimit hg hobj hints (Nat.le_trans hlen hn2) hr hF hb (fun H hO hS => hsp _ H a ns hlen hask hO hS) (fun H e s' => hCX H s₁ e s')
  refine PySem.W.enter_call (codeAny_mono key fun res s' hq => ?_)
  obtain ⟨⟨u, v, H', rfl, rv, hok, l, rfl, hl⟩, h2, h3, h4⟩ := hq
  obtain rfl : u = Value.ref l := rv
  obtain ⟨_, its, m, hv, hget⟩ := hok l _ hl
  exact ⟨.inl ⟨.ref l, _, _, rfl, fun _ => rfl, .list hget rfl rfl (by simpa using reads_vals hv), hpost, fun z => absurd z Bool.false_ne_true⟩, h2, h3, h4⟩
end L2
/-! Cuts: what is wanted between two parts is said by the prover, once. -/
namespace L2
open PySem PySem.Spec PyProof.Rows
section
variable {X : Cx}
def tCutS (t : TS) : TS := fun D σ H => ∃ R : St → Hp → Prop, t { D with nx := R } σ H ∧ ∀ σ' H', R σ' H' → D.nx σ' H'
theorem ps_cut {st : Stmt} {t : TS} (h : PS X st t) : PS X st (tCutS t) := by
  intro pins s σ H D I ⟨R, hw, hr⟩
  refine thn (h pins s σ H _ I hw) fun f s' q => ?_
  cases f with
  | next =>
    obtain ⟨σ', H', I', q⟩ := q
    exact ⟨σ', H', I', hr _ _ q⟩
  | brk => exact q
  | cont => exact q
  | ret u => exact q
def tCutE (t : TE) : TE := fun σ H Q => ∃ R : V → Hp → Prop, t σ H R ∧ ∀ v H', R v H' → Q v H'
theorem pe_cut {e : Expr} {t : TE} (h : PE X e t) : PE X e (tCutE t) := by
  intro pins s σ H Q I ⟨R, hw, hr⟩
  refine thn (h pins s σ H _ I hw) fun u s' q => ?_
  obtain ⟨v, H', I', rv, q⟩ := q
  exact ⟨v, H', I', rv, hr _ _ q⟩
def tCutT (t : TT) : TT := fun σ H Q => ∃ R : Bool → Hp → Prop, t σ H R ∧ ∀ v H', R v H' → Q v H'
theorem pt_cut {e : Expr} {t : TT} (h : PT X e t) : PT X e (tCutT t) := by
  intro pins s σ H Q I ⟨R, hw, hr⟩
  refine thn (h pins s σ H _ I hw) fun u s' q => ?_
  obtain ⟨H', I', q⟩ := q
  exact ⟨H', I', hr _ _ q⟩
/-- a cut by the value, the heap as it was -/
theorem tCutE_of {t : TE} {σ : St} {H : Hp} {Q : VK} (v : V) (h : t σ H fun x H' => x = v ∧ H' = H) (k : Q v H) : tCutE t σ H Q := ⟨_, h, fun _ _ ⟨e1, e2⟩ => by subst e1 e2; exact k⟩
theorem tCutT_of {t : TT} {σ : St} {H : Hp} {Q : Bool → Hp → Prop} (b : Bool) (h : t σ H fun x H' => x = b ∧ H' = H) (k : Q b H) : tCutT t σ H Q := ⟨_, h, fun _ _ ⟨e1, e2⟩ => by subst e1 e2; exact k⟩
/-- while, by a word and a measure; its test is cut -/
theorem while_cut {c : TT} {tb : TS} {D : Ends} {σ : St} {H : Hp} (Pv : St → Hp → Prop) (μ : St → Hp → Nat) (h0 : Pv σ H)
    (hs : ∀ σ H, Pv σ H → tCutT c σ H fun b H1 => if b = true then tb { D with nx := fun σ' H' => Pv σ' H' ∧ μ σ' H' < μ σ H, ct := fun σ' H' => Pv σ' H' ∧ μ σ' H' < μ σ H, bk := D.nx } σ H1 else D.nx σ H1) :
    tWhile (tCutT c) tb D σ H := while_by Pv μ h0 hs fun _ _ _ _ hq ⟨R, h1, h2⟩ => ⟨R, h1, fun b H' r => hq _ _ (h2 _ _ r)⟩
end
end L2
/-! Rules of my own beside the layer's: setdefault, min of three, list(reversed(xs)), enumerate. -/
namespace L2
open PySem PySem.Spec PyProof.Rows
section
variable {X : Cx}
/-! ### d.setdefault(k, v) -/
theorem d_setdef {pins : List (Addr × Obj)} {σ : St} {H : Hp} {s : Shared} {a : Addr} {kvs : List (Key × V)} {k : Key} {u r : Value} {y : V} {A : Around} {E : Value → Shared → Prop} {Q : Value → Shared → Prop} (I : Inv X pins σ H s) (e : H a = some (.dK kvs)) (ry : RelV (kV k) u) (rv : RelV y r) (hz1 : kvs.length < sizeLine)
    (h1 : ∀ v w' s', valV kvs k = some v → Inv X pins σ H s' → RelV v w' → Q w' s') (h2 : ∀ s', valV kvs k = none → Inv X pins σ (upd H a (.dK (putK kvs k y))) s' → Q r s') :
    wpAny (model X.prog X.w) A (call (.builtin "dict.setdefault") [.ref a, u, r]) Q E s := by
  obtain ⟨z, hd, vs, rel, dd⟩ := dk_of I.hok e
  refine call_meetsIn PySem.F.slot_dict_setdefault dd.typeIs PySem.F.entry_dict_setdefault (PySem.F.args_dict_setdefault_3 _ _ _) (kt_meets_setdefault (mixKind X.prog X.w) a (kV_is ry) hd r)
    ⟨vs, dd, by rw [← rel.length]; exact z, fun w' hw => ?_, fun hn h' dd' hs => ?_⟩
  · have q := rel.val k
    rw [hw] at q
    cases l : valV kvs k with
    | none =>
      rw [l] at q
      exact (show False from q).elim
    | some v =>
      rw [l] at q
      exact h1 v w' _ l (I.tok _) q
  · have q := rel.val k
    rw [hn] at q
    have l : valV kvs k = none := by
      cases l : valV kvs k with
      | none => rfl
      | some v =>
        rw [l] at q
        exact (show False from q).elim
    have he : ∃ q, h'.get? a = some q := let ⟨q, _, _, hq, _⟩ := dd'; ⟨q, hq⟩
    have hl : (putK kvs k y).length ≤ sizeLine := Nat.le_trans (length_putK kvs k y) hz1
    exact h2 _ l (d_write I (by rw [e]; exact True.intro) hs he (dk_new hl hd (rel.put k rv) dd'))
def tDSetdef (td ty tx : TE) : TE := fun σ H Q => td σ H fun x H1 => ∃ a, x = .ref a ∧ IsD H1 a ∧ ty σ H1 fun y H2 => tx σ H2 fun z H3 => ∃ kvs k, H3 a = some (.dK kvs) ∧ y = kV k ∧ kvs.length < sizeLine ∧
  (∀ v, valV kvs k = some v → Q v H3) ∧ (valV kvs k = none → Q z (upd H3 a (.dK (putK kvs k z))))
theorem pe_dsetdefault2 {o e f : Expr} {apos cpos : Pos} {td ty tx : TE} (ho : PE X o td) (he : PE X e ty) (hf : PE X f tx) (m : M2 X o "setdefault" apos e f cpos) : PE X (.Call (.Attribute o "setdefault" apos) [e, f] [] cpos) (tDSetdef td ty tx) := by
  intro pins s σ H Q I h
  refine wpAny_Call_method m.base m.few m.line PySem.F.plainAttrs_dict PySem.F.slot_dict_setdefault PySem.F.type_dict_setdefault (thn (ho pins s σ H _ I h) fun u s1 ⟨x, H1, I1, rx, a, ex, d, q1⟩ => ?_)
  subst ex
  obtain rfl : u = Value.ref a := rx
  obtain ⟨t1, t2, _⟩ := isD_at I1 d
  refine ⟨t1, t2, ?_⟩
  rw [m.trees]
  refine Calls.callWith_builtin rfl (Calls.evalArgs_plain (Calls.spliced_cons (thn (he pins s1 σ H1 _ I1 q1) fun iv s2 ⟨y, H2, I2, ry, q2⟩ =>
    Calls.spliced_cons (thn (hf pins s2 σ H2 _ I2 q2) fun fv s3 ⟨z, H3, I3, rz, kvs, k, ea, ey, hz, q3, q4⟩ => Calls.spliced_nil ?_))))
  subst ey
  exact d_setdef I3 ea ry rz hz (fun v w' s4 l I4 rw' => ⟨v, _, I4, rw', q3 v l⟩) fun s4 l I4 => ⟨z, _, I4, rz, q4 l⟩
/-! ### min of three ints -/
theorem call_min3 (hc : X.calm = true) : CallR X (.builtin "min") (fun xs H Q => ∃ i j k, xs = [.int i, .int j, .int k] ∧ Q (.int (min (min i j) k)) H) := by
  intro pins s σ H xs us Q I r h
  obtain ⟨i, j, k, rfl, q⟩ := h
  obtain ⟨u, v, w', rfl, ⟨t, rfl⟩, ⟨t', rfl⟩, ⟨t2, rfl⟩⟩ : ∃ u v w', us = [u, v, w'] ∧ RelV (.int i) u ∧ RelV (.int j) v ∧ RelV (.int k) w' := by
    cases r with
    | cons r1 r =>
      cases r with
      | cons r2 r =>
        cases r with
        | cons r3 r =>
          cases r
          exact ⟨_, _, _, rfl, r1, r2, r3⟩
  refine min_three_ints (I.ok.hd hc) fun h' tk kp => ⟨_, H, I.kept kp, ?_, q⟩
  by_cases h1 : j < i
  · rw [if_pos h1]
    by_cases h2 : k < j
    · rw [if_pos h2, show min (min i j) k = k by omega]
      exact ⟨_, rfl⟩
    · rw [if_neg h2, show min (min i j) k = j by omega]
      exact ⟨_, rfl⟩
  · rw [if_neg h1]
    by_cases h2 : k < i
    · rw [if_pos h2, show min (min i j) k = k by omega]
      exact ⟨_, rfl⟩
    · rw [if_neg h2, show min (min i j) k = i by omega]
      exact ⟨_, rfl⟩
end
/-! ### for i, x in enumerate(xs), the list left as it is -/
theorem for_enum {K : PySem.W.Frag} {a : Addr} {xs : List V} {g : TG} {tb : TS} {D : Ends} {σ : St} {H : Hp} (Pv : Nat → St → Hp → Prop) (h0 : Pv 0 σ H) (hl : ∀ i σ H, i ≤ xs.length → Pv i σ H → SqL K H a xs)
    (hs : ∀ i x T σ H, xs[i]? = some x → Pv i σ H → H T = none → g (.ref T) σ (upd H T (.tup [.int (i : Nat), x])) fun σ2 H2 => tb { D with nx := Pv (i + 1), ct := Pv (i + 1), bk := D.nx } σ2 H2) (hd : ∀ σ H, Pv xs.length σ H → D.nx σ H) :
    ∃ W : Nat → Nat → St → Hp → Prop, (∃ m, W 0 m σ H) ∧ ∀ i m σ H, W i m σ H →
      ((Ite K a).stop i H ∧ D.nx σ H) ∨ ((Ite K a).go i H ∧ ∃ N : St → Hp → Prop, (∀ σ' H', N σ' H' → ∃ m', m' < m ∧ W (i + 1) m' σ' H') ∧ ∀ x H', (Ite K a).yld i H x H' → g x σ H' fun σ2 H2 => tb { D with nx := N, ct := N, bk := D.nx } σ2 H2) := by
  refine ⟨fun i m σ H => m = xs.length - i ∧ i ≤ xs.length ∧ Pv i σ H, ⟨xs.length, by simp, Nat.zero_le _, h0⟩, ?_⟩
  rintro i m σ H ⟨rfl, hi, p⟩
  have q := hl i σ H hi p
  by_cases hlt : i < xs.length
  · refine .inr ⟨⟨xs, xs[i], q, by simp [hlt]⟩, Pv (i + 1), fun σ' H' p' => ⟨xs.length - (i + 1), by omega, rfl, hlt, p'⟩, fun x H' y => ?_⟩
    obtain ⟨T, z, rfl, hT, rfl, y⟩ := y
    exact hs i z T σ _ (y xs q) p hT
  · have e : i = xs.length := by omega
    subst e
    exact .inl ⟨⟨xs, q, Nat.le_refl _⟩, hd σ H p⟩
end L2
/-! ### list(reversed(xs)) -/
namespace PySem
theorem lri_nolen : typeLookup (.type "list_reverseiterator") "__len__" = pure none := by rw [typeLookup_type, builtinLookup_eq_fast]; kernel_rfl
theorem lri_hint : typeLookup (.type "list_reverseiterator") "__length_hint__" = pure (some (.builtin "list_reverseiterator.__length_hint__")) := by rw [typeLookup_type, builtinLookup_eq_fast]; kernel_rfl
section
variable {prog : Program} {w : World} {A : Around} {s : Shared} {R : Result → Shared → Prop} {E : Value → Shared → Prop} {I l : Addr} {items : Array Value}
theorem ext_rev (hh : A.handled = none) (hne : l ≠ I) (hit : s.heap.IsRevIter I l ((items.size : Int) - 1)) (hl : s.heap.IsList l items) (S : Addr) (res : Value) (c₀ : Nat) (hSI : S ≠ I) (hSl : S ≠ l) (hS : s.heap.get? S = some { cls := .type "list", data := .seq #[] c₀ })
    (hR : ∀ s' acc' c', Moved [S, I] (fun a b => b = a) s s' → s'.heap.get? S = some { cls := .type "list", dict := none, data := .seq acc' c', slots := #[] } → ItemsOf (fun i v => items[items.size - 1 - i]? = some v) acc' items.size → R (.ok (.ret res)) s') (hn : items.size ≤ sizeLine) :
    wpAny (model prog w) A.in1 (Builtin.List.listExtendWith (.ref S) (.ref I) res)
      (fun fin s' => match fin with
        | .done f => R (.ok f) s'
        | .again c' => c'.quiet = true ∧ codeAny (model prog w) A c' R s') (fun e s' => R (.error e) s') s := by
  have W := (Walks.listRev (prog := prog) (w := w) (A := A.in1) hh I l hne items).toS
  have hSf : S ∉ [I, l] := fun hm => by
    rcases List.mem_cons.mp hm with z | z
    · exact hSI z
    · exact hSl (List.mem_singleton.mp z)
  have hT : s.TypeIs (.ref I) "list_reverseiterator" := hit.typeIs
  have hst : (fun i (s : Shared) => i ≤ items.size ∧ s.heap.IsRevIter I l ((items.size : Int) - 1 - (i : Int)) ∧ s.heap.IsList l items) 0 s := ⟨Nat.zero_le _, by simpa using hit, hl⟩
  unfold Builtin.List.listExtendWith
  refine wpAny_bind (wpAny_typeOf hT ?_)
  have h1 : Builtin.List.listSameRef (.ref S) (.ref I) = false := by simp [Builtin.List.listSameRef, hSI]
  have h2 : (Value.type "list_reverseiterator" == Value.type "list") = false := by decide
  have h3 : (Value.type "list_reverseiterator" == Value.type "tuple") = false := by decide
  simp only [h1, h2, h3, Bool.or_false, Bool.false_eq_true, if_false]
  refine wpAny_bind (W.self 0 _ _ _ hst ?_)
  refine wpAny_bind (wpAny_holding ?_); unfold Builtin.List.listLengthHint
  refine wpAny_bind (wpAny_specialOf hT lri_nolen ?_)
  show wpAny _ A.in1 (specialOf (Value.ref I) (Str.ofString "__length_hint__") >>= _) _ _ _
  refine wpAny_bind (wpAny_specialOf hT lri_hint ?_)
  generalize hid : ("list_reverseiterator.__length_hint__" : String) = id0
  wp_delta
  rw [show splitId id0 = some ("list_reverseiterator", "__length_hint__") from by subst hid; decide +kernel]
  subst hid
  refine wpAny_bind (wpAny_isInstance (b := true) hT (by rw [isSubtype_type]; kernel_rfl) ?_)
  refine wpAny_pure ?_
  rw [if_neg (by decide)]
  exact wpAny_pure ⟨plainId_quiet F.plain_extend_loop _, codeAny_extend_loopS W hn _ hSf _ items.size 0 _ _ _ rfl (Nat.zero_le _) hst hS (ItemsOf.nil _) fun s' acc' c' hm hS' hacc => hR s' acc' c' hm hS' hacc⟩
theorem init_rev (hh : A.handled = none) (hne : l ≠ I) (hit : s.heap.IsRevIter I l ((items.size : Int) - 1)) (hl : s.heap.IsList l items) (S : Addr) (hSI : S ≠ I) (hSl : S ≠ l) (hS : s.heap.get? S = some { cls := .type "list", data := .seq #[] })
    (hR : ∀ s' acc' c', Moved [S, I] (fun a b => b = a) s s' → s'.heap.get? S = some { cls := .type "list", dict := none, data := .seq acc' c', slots := #[] } → ItemsOf (fun i v => items[items.size - 1 - i]? = some v) acc' items.size → R (.ok (.ret .none)) s') (hn : items.size ≤ sizeLine) :
    wpAny (model prog w) A.in1 (Builtin.«list.__init__» ⟨[.ref S, .ref I], []⟩)
      (fun fin s' => match fin with
        | .done f => R (.ok f) s'
        | .again c' => c'.quiet = true ∧ codeAny (model prog w) A c' R s') (fun e s' => R (.error e) s') s := by
  show wpAny _ A.in1 (do
    let old ← Builtin.List.listItems (.ref S)
    Builtin.List.listUpdate (.ref S) (fun _ => #[])
    letGo old.toList.reverse
    Builtin.List.listExtendWith (.ref S) (.ref I) .none) _ _ s
  refine wpAny_bind ?_; unfold Builtin.List.listItems
  refine wpAny_bind (wpAny_seqItems hS rfl (wpAny_pure ?_)); show wpAny _ A.in1 (updateSeq S (fun _ => #[]) >>= fun _ => letGo (#[] : Array Value).toList.reverse >>= fun _ => Builtin.List.listExtendWith (.ref S) (.ref I) .none) _ _ s
  refine wpAny_bind (wpAny_updateSeq hS rfl ?_)
  have hS2 := Heap.get?_update_self (Obj.mapSeq (fun _ => (#[] : Array Value))) hS rfl
  have oth : ∀ b o, b ≠ S → s.heap.get? b = some o → (s.heap.update S (Obj.mapSeq (fun _ => (#[] : Array Value)))).get? b = some o := fun b o hb e => (Heap.get?_update_other _ _ (Ne.symm hb)).trans e
  refine wpAny_bind (wpAny_letGo ?_)
  refine ext_rev hh hne (hit.at fun o e => oth I o hSI.symm e) (hl.at fun o e => oth l o hSl.symm e) S .none _ hSI hSl hS2 (fun s' acc' c' hm hS' hacc => hR s' acc' c' ?_ hS' hacc) hn
  exact ⟨fun b o hb e => hm.heap b o hb (oth b o (fun z => hb (z ▸ List.mem_cons_self)) e), hm.gens, hm.drawn, hm.os, hm.toks⟩
theorem list_rev {Q : Value → Shared → Prop} (hh : A.handled = none) (hne : l ≠ I) (hit : s.heap.IsRevIter I l ((items.size : Int) - 1)) (hl : s.heap.IsList l items) (hn : items.size ≤ sizeLine)
    (hQ : ∀ s' acc' c', s' = { s with heap := s'.heap, toks := s'.toks } → (∀ b o, b ≠ I → s.heap.get? b = some o → s'.heap.get? b = some o) → s'.heap.get? s.heap.objs.size = some { cls := .type "list", dict := none, data := .seq acc' c', slots := #[] } →
      ItemsOf (fun i v => items[items.size - 1 - i]? = some v) acc' items.size → Q (.ref s.heap.objs.size) s') :
    wpAny (model prog w) A (call (.type "list") [.ref I]) Q E s := by
  refine callType_codes (Q₁ := fun obj s₁ => obj = .ref s.heap.objs.size ∧ s₁ = { s with heap := s.heap.push { cls := .type "list", data := .seq #[] } }) F.called_list (F.typeCall_list_1 _) F.entry_list_init (code_list_new _ ⟨rfl, rfl⟩) fun obj s₁ h₁ => ?_
  obtain ⟨rfl, rfl⟩ := h₁
  have hS : (s.heap.push { cls := .type "list", data := .seq #[] }).get? s.heap.objs.size = some { cls := .type "list", data := .seq #[] } := Heap.get?_push_size _ rfl
  have hI : s.heap.objs.size ≠ I := fun e => by
    obtain ⟨o, ho, _⟩ := hit
    exact absurd (Heap.lt_size ho) (by rw [e]; exact Nat.lt_irrefl _)
  have hL : s.heap.objs.size ≠ l := fun e => by
    obtain ⟨o, ho, _⟩ := hl
    exact absurd (Heap.lt_size ho) (by rw [e]; exact Nat.lt_irrefl _)
  refine ⟨⟨_, hS, rfl⟩, F.args_list_init_2 _ _, init_rev (A := A.in1) hh hne (hit.at fun o e => Heap.get?_push_of_some _ e) (hl.at fun o e => Heap.get?_push_of_some _ e) _ hI hL hS (fun s' acc' c' hm hS' hacc => ?_) hn⟩
  refine ⟨rfl, hQ s' acc' c' ?_ (fun b o hb e => ?_) hS' hacc⟩
  · obtain ⟨h', g', d', tk', os'⟩ := s'
    have e1 : g' = s.gens := hm.gens
    have e2 : d' = s.drawn := hm.drawn
    have e3 : os' = s.os := hm.os
    subst e1 e2 e3
    rfl
  · refine hm.heap b o (fun z => ?_) (Heap.get?_push_of_some _ e)
    rcases List.mem_cons.mp z with z | z
    · exact absurd (Heap.lt_size e) (by rw [z]; exact Nat.lt_irrefl _)
    · exact hb (List.mem_singleton.mp z)
end
end PySem
namespace L2
open PySem PySem.Spec PyProof.Rows
section
variable {X : Cx}
theorem vals_of_items {xs : List V} {its : List Value} (r : Vals xs its) {acc : Array Value} (h : ItemsOf (fun i v => its.toArray[its.toArray.size - 1 - i]? = some v) acc its.toArray.size) : Vals xs.reverse acc.toList := by
  have e : acc.toList = its.reverse := by
    refine List.ext_getElem? fun i => ?_
    have hs : acc.size = its.length := by simpa using h.1
    by_cases q : i < its.length
    · have hi : i < acc.size := by omega
      have h2 := h.2 i acc[i] (Array.getElem?_eq_getElem hi)
      rw [List.getElem?_reverse q, Array.getElem?_toList, Array.getElem?_eq_getElem hi]
      simpa using h2.symm
    · rw [List.getElem?_eq_none (by simp; omega), List.getElem?_eq_none (by simp; omega)]
  rw [e]
  have rev : ∀ {xs : List V} {its : List Value}, Vals xs its → Vals xs.reverse its.reverse := by
    intro xs its r
    induction r with
    | nil => exact .nil
    | cons a b ih =>
      rw [List.reverse_cons, List.reverse_cons]
      exact ih.append (.cons a .nil)
  exact rev r
def tListRev (K : PySem.W.Frag) (ta : TA) : TE := fun σ H Q => ta σ H fun vs H1 => ∃ (a : Addr) (xs : List V), vs = [.ref a] ∧ SqL K H1 a xs ∧ ∀ l, H1 l = none → Q (.ref l) (upd H1 l (.lst xs.reverse))
theorem pe_listrev {e : Expr} {ta : TA} {p p2 pos pos2 : Pos} (hc : X.calm = true) (hg1 : Gl X "list") (hm1 : X.mg "list" = none) (hg : Gl X "reversed") (hm : X.mg "reversed" = none) (ha : PA X [e] ta)
    (hs : starEach [e] X.env = [(false, eval e X.env)] := by rfl) (hs2 : starEach [.Call (.Name "reversed" p) [e] [] pos] X.env = [(false, eval (.Call (.Name "reversed" p) [e] [] pos) X.env)] := by rfl) :
    PE X (.Call (.Name "list" p2) [.Call (.Name "reversed" p) [e] [] pos] [] pos2) (tListRev X.K ta) := by
  intro pins s σ H Q I h
  refine wpAny_Call_Name_kw (ld_blt I hg1 hm1 (show bootBuiltins "list" = some (.type "list") from by first | rfl | decide +kernel) ?_)
  refine PyProof.Rows.callWith_type1 ?_ hs2 rfl
  rw [hs2]
  refine Calls.spliced_cons (Call_ (ld_blt I hg hm boot_reversed5 (PyProof.Rows.callWith_type1 (thn (ha pos pins s σ H _ I h) fun us s1 ⟨vs, H1, I1, r1, q1⟩ => ?_) hs rfl)))
  obtain ⟨a, xs, e, hq, q⟩ := q1
  subst e
  cases r1 with
  | cons r rr =>
    cases rr
    cases r
    obtain ⟨its, rv, p', hz⟩ := I1.list hq
    have hl := rv.length
    refine call_reversed_list p'.isList (Calls.spliced_nil ?_)
    have hne : a ≠ s1.heap.objs.size := fun z => by
      obtain ⟨o, ho, _⟩ := p'.isList
      exact absurd (Heap.lt_size ho) (by rw [z]; exact Nat.lt_irrefl _)
    refine list_rev (I := s1.heap.objs.size) (l := a) (items := its.toArray) (I1.ok.hd hc) hne ⟨_, Heap.get?_push_size _ rfl, rfl, rfl⟩ (p'.isList.at fun o e => Heap.get?_push_of_some _ e) (by simp; omega) fun s' acc' c' es hk hS hit => ?_
    rw [es]
    have hsz : s1.heap.objs.size ≤ (s1.heap.push (revObj a ((its.toArray.size : Int) - 1))).objs.size := by
      rw [Heap.size_push]
      exact Nat.le_succ _
    have kp : ∀ b u, s1.heap.get? b = some u → s'.heap.get? b = some u := fun b u e => hk b u (Nat.ne_of_lt (Heap.lt_size e)) (Heap.get?_push_of_some _ e)
    have hlr : xs.reverse.length ≤ sizeLine := by rw [List.length_reverse]; exact hz
    exact ⟨.ref _, _, I1.laid (t' := s'.toks) kp hsz (show ObjOk X.prog X.w _ s'.heap _ (.lst xs.reverse) from ⟨hlr, acc'.toList, c', vals_of_items rv hit, by simpa using hS⟩), rfl, q _ (I1.hok.fresh hsz)⟩
end
end L2
/-! The request as typed calls: what is asked, and what is due call by call. Of the specification alone. -/
namespace Ty
open Sw23
inductive Cl where
  | opn (f c : Int)
  | wr (b : List Int)
  | cls
  | rd (n : Int)
  | inn (b : List Int)
  | out (n : Int)
  | tick (n : Int)
  | state
def flat : Cl → List Int
  | .opn f c => [1, f, c]
  | .wr b => 2 :: (b.length : Int) :: b
  | .cls => [3]
  | .rd n => [4, n]
  | .inn b => 5 :: (b.length : Int) :: b
  | .out n => [6, n]
  | .tick n => [7, n]
  | .state => [8]
def flats : List Cl → List Int
  | [] => []
  | c :: r => flat c ++ flats r
def spec : Cl → Sw23.Call
  | .opn f c => .open_ f.toNat c
  | .wr b => .write (b.map Int.toNat) b.length
  | .cls => .close
  | .rd n => .read n
  | .inn b => .in_ (b.map Int.toNat) b.length
  | .out n => .out n
  | .tick n => .tick n
  | .state => .state
def Byt (b : List Int) : Prop := ∀ x ∈ b, 0 ≤ x ∧ x < 256
def W32 (n : Int) : Prop := -2147483648 ≤ n ∧ n < 2147483648
def Ok : Cl → Prop
  | .opn f c => (0 ≤ f ∧ f < 4294967296) ∧ W32 c
  | .wr b => Byt b
  | .cls => True
  | .rd n => W32 n
  | .inn b => Byt b
  | .out n => W32 n
  | .tick n => W32 n
  | .state => True
/-- one call's answer, the count ahead -/
def one (y : Ans) : List Int := ((1 + y.out.length : Nat) : Int) :: y.code :: y.out.map fun (x : Nat) => (x : Int)
def due : St → List Cl → List Int
  | _, [] => []
  | s, c :: r => one (worked s (spec c)).2 ++ due (worked s (spec c)).1 r
def many : St → List Cl → Nat
  | _, [] => 0
  | s, c :: r => 1 + (worked s (spec c)).2.out.length + many (worked s (spec c)).1 r

/-- the call as PyFlat has it -/
def raw : Cl → List (List Int)
  | .opn f c => [[1, f, c]]
  | .wr b => [[2], b]
  | .cls => [[3]]
  | .rd n => [[4, n]]
  | .inn b => [[5], b]
  | .out n => [[6, n]]
  | .tick n => [[7, n]]
  | .state => [[8]]
theorem raw_of {c : List (List Int)} (h : PyFlat.okCall PySw23.shape c) : ∃ x : Cl, c = raw x := by
  obtain ⟨p, a, xs, rfl, hs⟩ := h
  unfold PySw23.shape at hs
  have z : ∀ {n k : Nat}, some (n, k) = some (a.length, xs.length) → a.length = n ∧ xs.length = k := fun e => by
    have e' := Prod.mk.inj (Option.some.inj e)
    exact ⟨e'.1.symm, e'.2.symm⟩
  split at hs
  · rename_i e; subst e
    obtain ⟨h1, h2⟩ := z hs
    match a, xs, h1, h2 with
    | [f, c], [], _, _ => exact ⟨.opn f c, rfl⟩
  split at hs
  · rename_i e; subst e
    obtain ⟨h1, h2⟩ := z hs
    match a, xs, h1, h2 with
    | [], [b], _, _ => exact ⟨.wr b, rfl⟩
  split at hs
  · rename_i e; subst e
    obtain ⟨h1, h2⟩ := z hs
    match a, xs, h1, h2 with
    | [], [], _, _ => exact ⟨.cls, rfl⟩
  split at hs
  · rename_i e; subst e
    obtain ⟨h1, h2⟩ := z hs
    match a, xs, h1, h2 with
    | [n], [], _, _ => exact ⟨.rd n, rfl⟩
  split at hs
  · rename_i e; subst e
    obtain ⟨h1, h2⟩ := z hs
    match a, xs, h1, h2 with
    | [], [b], _, _ => exact ⟨.inn b, rfl⟩
  split at hs
  · rename_i e; subst e
    obtain ⟨h1, h2⟩ := z hs
    match a, xs, h1, h2 with
    | [n], [], _, _ => exact ⟨.out n, rfl⟩
  split at hs
  · rename_i e; subst e
    obtain ⟨h1, h2⟩ := z hs
    match a, xs, h1, h2 with
    | [n], [], _, _ => exact ⟨.tick n, rfl⟩
  split at hs
  · rename_i e; subst e
    obtain ⟨h1, h2⟩ := z hs
    match a, xs, h1, h2 with
    | [], [], _, _ => exact ⟨.state, rfl⟩
  · cases hs
theorem raws_of : ∀ {cs : List (List (List Int))}, (∀ c ∈ cs, PyFlat.okCall PySw23.shape c) → ∃ xs : List Cl, cs = xs.map raw
  | [], _ => ⟨[], rfl⟩
  | c :: cs, h => by
    obtain ⟨x, rfl⟩ := raw_of (h c (List.Mem.head _))
    obtain ⟨xs, rfl⟩ := raws_of (cs := cs) fun d hd => h d (List.Mem.tail _ hd)
    exact ⟨x :: xs, rfl⟩
theorem put1_raw (x : Cl) : PyFlat.put1 (raw x) = flat x := by
  cases x <;> simp [PyFlat.put1, raw, flat, PyFlat.putRows, PyFlat.putRow]
theorem put_raw : ∀ xs : List Cl, PyFlat.put (xs.map raw) = flats xs
  | [] => rfl
  | x :: xs => by
    show PyFlat.put1 (raw x) ++ PyFlat.put (xs.map raw) = flat x ++ flats xs
    rw [put1_raw, put_raw xs]
theorem whole_spec (x : Cl) : Sw23Neutral.callOf (PySw23.whole (raw x)) = some (spec x) := by
  cases x <;> simp [PySw23.whole, raw, Sw23Neutral.callOf, spec, Sw23Neutral.nats]
theorem step_whole (s : St) (x : Cl) : Sw23Neutral.step s (PySw23.whole (raw x)) = ((worked s (spec x)).1, (worked s (spec x)).2.code :: (worked s (spec x)).2.out.map fun (n : Nat) => (n : Int)) := by
  unfold Sw23Neutral.step
  rw [whole_spec]
  rfl
theorem told_due : ∀ (xs : List Cl) (s : St), PyFlat.told (PyFlat.played Sw23Neutral.step s ((xs.map raw).map PySw23.whole)) = due s xs
  | [], _ => rfl
  | x :: xs, s => by
    have ih := told_due xs (worked s (spec x)).1
    simp only [List.map_cons, PyFlat.played, PyFlat.told, List.flatMap_cons, due]
    rw [step_whole]
    have e : PyFlat.told (PyFlat.played Sw23Neutral.step (worked s (spec x)).1 ((xs.map raw).map PySw23.whole)) = due (worked s (spec x)).1 xs := ih
    unfold PyFlat.told at e
    rw [e]
    simp [one, Nat.add_comm]
theorem numbers_many : ∀ (xs : List Cl) (s : St), Sw23Neutral.numbersOf s ((xs.map raw).map PySw23.whole) = many s xs
  | [], _ => rfl
  | x :: xs, s => by
    have ih := numbers_many xs (worked s (spec x)).1
    simp only [List.map_cons, Sw23Neutral.numbersOf, many]
    rw [step_whole]
    simp only [List.length_cons, List.length_map]
    rw [ih]
    omega
theorem nat32 {z : Int} (h : Sw23Neutral.natural z 32 = true) : 0 ≤ z ∧ z < 4294967296 := by
  unfold Sw23Neutral.natural at h
  simp only [Bool.and_eq_true, decide_eq_true_eq] at h
  exact ⟨h.1, by have := h.2; omega⟩
theorem nat8 {b : List Int} (h : (b.all fun z => Sw23Neutral.natural z 8) = true) : Byt b := by
  intro x hx
  have q := List.all_eq_true.mp h x hx
  unfold Sw23Neutral.natural at q
  simp only [Bool.and_eq_true, decide_eq_true_eq] at q
  exact ⟨q.1, by have := q.2; omega⟩
theorem w32 {z : Int} (h : Sw23Neutral.whole32 z = true) : W32 z := by
  unfold Sw23Neutral.whole32 at h
  simp only [Bool.and_eq_true, decide_eq_true_eq] at h
  unfold W32
  omega
theorem asked_ok (x : Cl) (h : Sw23Neutral.asked1 (PySw23.whole (raw x)) = true) : Ok x := by
  cases x with
  | opn f c =>
    have h' : (Sw23Neutral.natural f 32 && Sw23Neutral.whole32 c) = true := h
    rw [Bool.and_eq_true] at h'
    exact ⟨nat32 h'.1, w32 h'.2⟩
  | wr b =>
    have h' : (Sw23Neutral.whole32 (b.length : Int) && ((b.all (fun (z : Int) => Sw23Neutral.natural z 8) && Sw23Neutral.long b (b.length : Int) 0 1000000))) = true := h
    rw [Bool.and_eq_true, Bool.and_eq_true] at h'
    exact nat8 h'.2.1
  | cls => trivial
  | rd n => exact w32 h
  | inn b =>
    have h' : (Sw23Neutral.whole32 (b.length : Int) && ((b.all (fun (z : Int) => Sw23Neutral.natural z 8) && Sw23Neutral.long b (b.length : Int) 0 65535))) = true := h
    rw [Bool.and_eq_true, Bool.and_eq_true] at h'
    exact nat8 h'.2.1
  | out n => exact w32 h
  | tick n => exact w32 h
  | state => trivial
/-- **what is asked, and what is due** -/
theorem of_asked {l : List Int} (h : PySw23.answers_asked l = true) : ∃ (f c : Int) (cs : List Cl), l = flats (.opn f c :: cs) ∧ (0 ≤ c ∧ c ≤ 1) ∧ (∀ x ∈ Cl.opn f c :: cs, Ok x) ∧ cs.length < 400 ∧
    many none (.opn f c :: cs) ≤ 1000000 ∧ PySw23.answers l = due none (.opn f c :: cs) := by
  unfold PySw23.answers_asked at h
  cases e : PySw23.calls l with
  | none => rw [e] at h; cases h
  | some ds =>
    rw [e] at h
    have e' := e
    unfold PySw23.calls at e'
    cases e2 : PyFlat.calls PySw23.shape l.length l with
    | none => rw [e2] at e'; cases e'
    | some cs =>
      rw [e2] at e'
      have e3 : cs.map PySw23.whole = ds := Option.some.inj e'
      obtain ⟨hl, hok⟩ := PyFlat.put_calls _ _ _ e2
      obtain ⟨xs, rfl⟩ := raws_of hok
      rw [put_raw] at hl
      subst e3
      simp only [Bool.and_eq_true, PyFlat.atMost, decide_eq_true_eq] at h
      obtain ⟨h4, ha⟩ := h
      unfold Sw23Neutral.asked at ha
      simp only [Bool.and_eq_true, decide_eq_true_eq] at ha
      obtain ⟨h1, _, h3, h5⟩ := ha
      have hOk : ∀ x ∈ xs, Ok x := fun x hx => asked_ok x (List.all_eq_true.mp h1 _ (List.mem_map_of_mem (List.mem_map_of_mem hx)))
      have hm : many none xs ≤ 1000000 := by
        rw [← numbers_many]
        exact h5
      have hans : PySw23.answers l = due none xs := by
        unfold PySw23.answers
        rw [e]
        exact told_due xs none
      cases xs with
      | nil => exact absurd h3 (by simp)
      | cons x xs =>
        cases x with
        | opn f c =>
          have h3' : (decide (0 ≤ c) && decide (c ≤ 1)) = true := h3
          simp only [Bool.and_eq_true, decide_eq_true_eq] at h3'
          refine ⟨f, c, xs, hl, h3', hOk, ?_, hm, hans⟩
          simp only [List.length_map, List.length_cons] at h4
          omega
        | _ => exact absurd h3 (by simp [raw, PySw23.whole])
end Ty
/-! What holds of an end whenever calls were made on it. Of the specification alone. -/
namespace Ty
open Sw23
def BytN (b : List Nat) : Prop := ∀ x ∈ b, x < 256
structure GoodO (o : Other) : Prop where
  fst : o.first < ROUND
  cb : BytN o.came
  ab : ∀ x ∈ o.ahead, x.2 < 256
  rd : o.read ≤ o.came.length
  wn : o.came.length ≤ o.read + 8192
  al : ∀ x ∈ o.ahead, o.due < x.1 ∧ x.1 ≤ 8192 + o.read
  an : (o.ahead.map (·.1)).Nodup
structure Good (e : End) : Prop where
  f : e.first < ROUND
  bt : BytN e.bytes
  an : e.acked ≤ e.next
  ns : e.next ≤ e.sent
  sl : e.sent ≤ e.last + e.closed.toNat
  hl : e.held ≤ 16384
  th : e.theirs < 65536
  pt : 1000 ≤ e.patience ∧ e.patience ≤ 60000
  wt : e.waited < e.patience
  ot : ∀ o, e.other = some o → GoodO o
  no : e.other = none → e.acked = 0 ∧ e.owes = false
theorem good_opened {f : Nat} (h : f < ROUND) (c : Bool) : Good (opened f c) where
  f := h
  bt := fun x hx => by cases hx
  an := Nat.le_refl _
  ns := Nat.le_refl _
  sl := Nat.zero_le _
  hl := Nat.zero_le _
  th := by show 0 < 65536; decide
  pt := ⟨(by decide : 1000 ≤ 1000), (by decide : 1000 ≤ 60000)⟩
  wt := by show 0 < 1000; decide
  ot := fun o ho => by cases ho
  no := fun _ => ⟨rfl, rfl⟩
/-! ### a segment read -/
theorem number_lt : ∀ (l : List Nat) (n : Nat), BytN l → l.foldl (fun n c => 256 * n + c) n < (n + 1) * 256 ^ l.length
  | [], n, _ => by simp
  | c :: l, n, h => by
    have hc := h c (List.Mem.head _)
    have ih := number_lt l (256 * n + c) fun x hx => h x (List.Mem.tail _ hx)
    simp only [List.foldl_cons, List.length_cons, Nat.pow_succ]
    have e : (256 * n + c + 1) * 256 ^ l.length ≤ (n + 1) * (256 ^ l.length * 256) := by
      have : 256 * n + c + 1 ≤ 256 * (n + 1) := by omega
      calc (256 * n + c + 1) * 256 ^ l.length ≤ (256 * (n + 1)) * 256 ^ l.length := Nat.mul_le_mul_right _ this
        _ = (n + 1) * (256 ^ l.length * 256) := by rw [Nat.mul_comm 256 (n + 1), Nat.mul_assoc, Nat.mul_comm 256]
    omega
theorem number_lt' {l : List Nat} (h : BytN l) (k : Nat) (hl : l.length ≤ k) : number l < 256 ^ k := by
  have e := number_lt l 0 h
  unfold number
  have : 256 ^ l.length ≤ 256 ^ k := Nat.pow_le_pow_right (by decide) hl
  omega
theorem BytN.take {l : List Nat} (h : BytN l) (n : Nat) : BytN (l.take n) := fun x hx => h x (List.mem_of_mem_take hx)
theorem BytN.drop {l : List Nat} (h : BytN l) (n : Nat) : BytN (l.drop n) := fun x hx => h x (List.mem_of_mem_drop hx)
structure GoodS (s : Segment) : Prop where
  pl : s.place < ROUND
  wa : s.wanted < ROUND
  wi : s.window < 65536
  da : BytN s.data
theorem good_read {b : List Nat} {s : Segment} (h : BytN b) (e : Sw23.read b = some s) : GoodS s := by
  unfold Sw23.read at e
  split at e
  · cases e
  · have e' := (Option.some.inj e).symm
    subst e'
    refine ⟨?_, ?_, ?_, ?_⟩
    · exact number_lt' (h.take 4) 4 (by rw [List.length_take]; omega)
    · exact number_lt' ((h.drop 4).take 4) 4 (by rw [List.length_take]; omega)
    · exact number_lt' ((h.drop 10).take 2) 2 (by rw [List.length_take]; omega)
    · exact h.drop 14
/-! ### bytes that come -/
/-- as GoodO, but bytes ahead may be due -/
structure PreO (o : Other) : Prop where
  fst : o.first < ROUND
  cb : BytN o.came
  ab : ∀ x ∈ o.ahead, x.2 < 256
  rd : o.read ≤ o.came.length
  wn : o.came.length ≤ o.read + 8192
  al : ∀ x ∈ o.ahead, o.due ≤ x.1 ∧ x.1 ≤ 8192 + o.read
  an : (o.ahead.map (·.1)).Nodup
theorem filter_lt {l : List (Nat × Nat)} {x : Nat × Nat} (h : x ∈ l) : (l.filter fun y => y.1 != x.1).length < l.length := by
  induction l with
  | nil => cases h
  | cons a l ih =>
    rw [List.filter_cons]
    by_cases e : (a.1 != x.1) = true
    · rw [if_pos e]
      have hx : x ∈ l := by
        rcases List.mem_cons.mp h with q | q
        · subst q
          simp at e
        · exact q
      have := ih hx
      simp only [List.length_cons]
      omega
    · rw [if_neg e]
      have := List.length_filter_le (fun y : Nat × Nat => y.1 != x.1) l
      simp only [List.length_cons]
      omega
theorem settled_good : ∀ (f : Nat) (o : Other), PreO o → o.ahead.length < f → GoodO (settled f o)
  | 0, o, _, hf => by omega
  | f + 1, o, g, hf => by
    unfold settled
    cases e : o.ahead.find? fun x => x.1 == o.due with
    | none =>
      refine ⟨g.fst, g.cb, g.ab, g.rd, g.wn, fun x hx => ⟨?_, (g.al x hx).2⟩, g.an⟩
      have h1 := (g.al x hx).1
      have h2 := List.find?_eq_none.mp e x hx
      have h3 : x.1 ≠ o.due := by simpa using h2
      show o.due < x.1
      omega
    | some x =>
      have hx : x ∈ o.ahead := List.mem_of_find?_eq_some e
      have h0 : x.1 = o.due := by simpa using List.find?_some e
      have hb := (g.al x hx).2
      refine settled_good f _ ⟨g.fst, ?_, ?_, ?_, ?_, ?_, ?_⟩ ?_
      · intro c hc
        rcases List.mem_append.mp hc with q | q
        · exact g.cb c q
        · rw [List.mem_singleton.mp q]
          exact g.ab x hx
      · exact fun y hy => g.ab y (List.mem_filter.mp hy).1
      · show o.read ≤ (o.came ++ [x.2]).length
        have := g.rd
        rw [List.length_append]
        omega
      · show (o.came ++ [x.2]).length ≤ o.read + 8192
        rw [List.length_append]
        have : o.due = 1 + o.came.length := rfl
        simp only [List.length_cons, List.length_nil]
        omega
      · intro y hy
        obtain ⟨q1, q2⟩ := List.mem_filter.mp hy
        have q3 := g.al y q1
        refine ⟨?_, q3.2⟩
        show 1 + (o.came ++ [x.2]).length ≤ y.1
        rw [List.length_append]
        have : o.due = 1 + o.came.length := rfl
        have q4 : y.1 ≠ x.1 := by simpa using q2
        simp only [List.length_cons, List.length_nil]
        omega
      · exact List.Nodup.sublist (List.Sublist.map _ List.filter_sublist) g.an
      · have := filter_lt hx
        show (o.ahead.filter fun y => y.1 != x.1).length < f
        omega
/-- the bytes of a segment that are kept -/
def kept (o : Other) (p : Int) (data : List Nat) : List (Nat × Nat) := ((List.range data.length).zip data).filterMap fun x =>
  if (o.due : Int) ≤ p + x.1 ∧ p + x.1 < (o.due + o.window : Nat) ∧ (o.ahead.any fun y => (y.1 : Int) == p + x.1) = false then some ((p + x.1).toNat, x.2) else none
theorem kept_mem {o : Other} {p : Int} {data : List Nat} {y : Nat × Nat} (h : y ∈ kept o p data) : ∃ i : Nat, data[i]? = some y.2 ∧ (y.1 : Int) = p + i ∧ o.due ≤ y.1 ∧ y.1 < o.due + o.window ∧ ∀ z ∈ o.ahead, z.1 ≠ y.1 := by
  unfold kept at h
  obtain ⟨x, hx, e⟩ := List.mem_filterMap.mp h
  split at e
  · rename_i c
    obtain ⟨c1, c2, c3⟩ := c
    have e' := Option.some.inj e
    subst e'
    obtain ⟨i, hi, ei⟩ := List.mem_iff_getElem.mp hx
    rw [List.getElem_zip] at ei
    subst ei
    have hi' : i < data.length := by
      rw [List.length_zip, List.length_range] at hi
      omega
    have er : (List.range data.length)[i]'(by rw [List.length_range]; exact hi') = i := List.getElem_range _
    simp only [er] at c1 c2 c3 ⊢
    have c0 : (0 : Int) ≤ p + i := by omega
    refine ⟨i, by simp [hi'], by omega, by omega, by omega, fun z hz q => ?_⟩
    have c4 := List.any_eq_false.mp c3 z hz
    apply c4
    rw [beq_iff_eq]
    omega
  · cases e
theorem keys_nodup (p : Int) (o : Other) : ∀ (l : List Nat) (a : Nat), ((((List.range' a l.length).zip l).filterMap fun x =>
    if (o.due : Int) ≤ p + x.1 ∧ p + x.1 < (o.due + o.window : Nat) ∧ (o.ahead.any fun y => (y.1 : Int) == p + x.1) = false then some ((p + x.1).toNat, x.2) else none).map (·.1)).Nodup ∧
    ∀ y ∈ (((List.range' a l.length).zip l).filterMap fun x =>
    if (o.due : Int) ≤ p + x.1 ∧ p + x.1 < (o.due + o.window : Nat) ∧ (o.ahead.any fun y => (y.1 : Int) == p + x.1) = false then some ((p + x.1).toNat, x.2) else none), p + a ≤ (y.1 : Int)
  | [], a => by simp
  | c :: l, a => by
    obtain ⟨h1, h2⟩ := keys_nodup p o l (a + 1)
    rw [List.length_cons, List.range'_succ, List.zip_cons_cons, List.filterMap_cons]
    split
    · rename_i e
      refine ⟨h1, fun y hy => ?_⟩
      have := h2 y hy
      omega
    · rename_i z e
      split at e
      · rename_i c0
        have e' := (Option.some.inj e).symm
        subst e'
        refine ⟨?_, ?_⟩
        · rw [List.map_cons, List.nodup_cons]
          refine ⟨fun m => ?_, h1⟩
          obtain ⟨y, hy, ey⟩ := List.mem_map.mp m
          have := h2 y hy
          have c1 := c0.1
          simp only at ey c1
          omega
        · intro y hy
          rcases List.mem_cons.mp hy with q | q
          · subst q
            have c1 := c0.1
            simp only at c1 ⊢
            omega
          · have := h2 y q
            omega
      · cases e
theorem kept_nodup (o : Other) (p : Int) (data : List Nat) : ((kept o p data).map (·.1)).Nodup := by
  have h := (keys_nodup p o data 0).1
  unfold kept
  rw [List.range_eq_range']
  exact h
theorem takes_eq (o : Other) (p : Int) (data : List Nat) (ends : Bool) : o.takes p data ends = settled (o.ahead.length + (kept o p data).length + 1)
    { o with ahead := o.ahead ++ kept o p data, last := if o.last = none ∧ ends = true ∧ (o.due : Int) ≤ p + data.length ∧ p + data.length ≤ (o.due + o.window : Nat) then some (p + data.length).toNat else o.last } := rfl
theorem pre_takes {o : Other} (g : GoodO o) (p : Int) {data : List Nat} (hd : BytN data) (x : Option Nat) : PreO { o with ahead := o.ahead ++ kept o p data, last := x } := by
  have hw : o.due + o.window ≤ 8193 + o.read := by
    have := g.rd
    have := g.wn
    show 1 + o.came.length + (8192 - (o.came.length - o.read)) ≤ _
    omega
  refine ⟨g.fst, g.cb, ?_, g.rd, g.wn, ?_, ?_⟩
  · intro y hy
    rcases List.mem_append.mp hy with q | q
    · exact g.ab y q
    · obtain ⟨i, hi, _⟩ := kept_mem q
      exact hd _ (List.mem_of_getElem? hi)
  · intro y hy
    rcases List.mem_append.mp hy with q | q
    · have := g.al y q
      exact ⟨Nat.le_of_lt this.1, this.2⟩
    · obtain ⟨i, _, _, h1, h2, _⟩ := kept_mem q
      exact ⟨h1, by show y.1 ≤ 8192 + o.read; omega⟩
  · show ((o.ahead ++ kept o p data).map (·.1)).Nodup
    rw [List.map_append, List.nodup_append]
    refine ⟨g.an, kept_nodup o p data, fun a ha b hb e => ?_⟩
    obtain ⟨z, hz, rfl⟩ := List.mem_map.mp ha
    obtain ⟨y, hy, rfl⟩ := List.mem_map.mp hb
    obtain ⟨i, _, _, _, _, h3⟩ := kept_mem hy
    exact h3 z hz e
theorem good_takes {o : Other} (g : GoodO o) (p : Int) {data : List Nat} (hd : BytN data) (ends : Bool) : GoodO (o.takes p data ends) := by
  rw [takes_eq]
  refine settled_good _ _ (pre_takes g p hd _) ?_
  show (o.ahead ++ kept o p data).length < _
  rw [List.length_append]
  omega

/-! ### the end -/
theorem good_answered {e f : End} {s : Segment} (g : Good e) (gs : GoodS s) (ho : e.other ≠ none) (h : e.answered s = some f) : Good f ∧ f.other = e.other ∧ f.broken = e.broken := by
  unfold End.answered at h
  simp only at h
  split at h
  · have h' := Option.some.inj h
    subst h'
    exact ⟨g, rfl, rfl⟩
  · rename_i h1
    split at h
    · cases h
    · rename_i h2
      have h' := Option.some.inj h
      subst h'
      generalize hz : (nearest e.acked ((s.wanted + ROUND - e.first % ROUND) % ROUND)).toNat = a at h2 ⊢
      have ha : e.acked ≤ a := by omega
      refine ⟨⟨g.f, g.bt, ?_, ?_, g.sl, ?_, gs.wi, ?_, ?_, g.ot, fun q => absurd q ho⟩, rfl, rfl⟩
      · show a ≤ max e.next a
        omega
      · show max e.next a ≤ e.sent
        have := g.ns
        omega
      · show e.bytes.length - (a - 1) ≤ 16384
        have := g.hl
        unfold End.held at this
        omega
      · show 1000 ≤ (if e.acked < a then 1000 else e.patience) ∧ (if e.acked < a then 1000 else e.patience) ≤ 60000
        split
        · omega
        · exact g.pt
      · show (if e.acked < a then 0 else e.waited) < (if e.acked < a then 1000 else e.patience)
        split
        · omega
        · exact g.wt
theorem good_comes {e : End} {s : Segment} (g : Good e) (gs : GoodS s) : Good (e.comes s).2 := by
  have brk : ∀ b, Good { e with broken := b } := fun b => ⟨g.f, g.bt, g.an, g.ns, g.sl, g.hl, g.th, g.pt, g.wt, g.ot, g.no⟩
  unfold End.comes
  split
  · exact g
  split
  · split
    · exact brk _
    · exact g
  split
  · split
    · exact brk _
    · exact brk _
  · simp only
    have go : GoodO (e.other.getD ⟨s.place, [], [], none, 0⟩) := by
      cases q : e.other with
      | none => exact ⟨gs.pl, fun x hx => (by cases hx), fun x hx => (by cases hx), Nat.le_refl _, Nat.zero_le _, fun x hx => (by cases hx), List.nodup_nil⟩
      | some o => exact g.ot o q
    generalize e.other.getD ⟨s.place, [], [], none, 0⟩ = o at go ⊢
    have gf : Good { e with other := some o } := ⟨g.f, g.bt, g.an, g.ns, g.sl, g.hl, g.th, g.pt, g.wt, fun o' h' => (Option.some.inj h') ▸ go, fun q => by cases q⟩
    have gt : ∀ (p : Int) (x : End), Good x → ∀ b, Good { x with other := some (o.takes p s.data s.ends), owes := b } := fun p x gx b =>
      ⟨gx.f, gx.bt, gx.an, gx.ns, gx.sl, gx.hl, gx.th, gx.pt, gx.wt, fun o' h' => (Option.some.inj h') ▸ good_takes go p gs.da s.ends, fun q => by cases q⟩
    split
    · exact ⟨gf.f, gf.bt, gf.an, gf.ns, gf.sl, gf.hl, gf.th, gf.pt, gf.wt, gf.ot, fun q => by cases q⟩
    · rename_i x hx
      split at hx
      · obtain ⟨h1, _, _⟩ := good_answered gf gs (by intro q; cases q) hx
        exact gt _ _ h1 _
      · have := Option.some.inj hx
        subst this
        exact gt _ _ gf _
theorem good_goes {e f : End} {n : Nat} {s : Segment} (g : Good e) (h : e.goes n = some (s, f)) : Good f := by
  unfold End.goes at h
  split at h
  · cases h
  split at h
  · rename_i h0
    split at h
    · have h' := (Prod.mk.inj (Option.some.inj h)).2
      subst h'
      refine ⟨g.f, g.bt, ?_, ?_, ?_, g.hl, g.th, g.pt, g.wt, g.ot, fun q => ⟨(g.no q).1, ?_⟩⟩
      · show e.acked ≤ 1
        have := g.an
        omega
      · show 1 ≤ max e.sent 1
        omega
      · show max e.sent 1 ≤ 1 + e.bytes.length + e.closed.toNat
        have h3 := g.sl
        unfold End.last at h3
        omega
      · show (e.owes && _) = false
        rw [(g.no q).2]
        rfl
    · cases h
  · simp only at h
    generalize hn : (if 1 ≤ e.acked then e.some_ n else 0) = k at h
    generalize hf : (decide (1 ≤ e.acked) && (e.closed && e.next + k == e.last)) = fin at h
    split at h
    · have h' := (Prod.mk.inj (Option.some.inj h)).2
      rename_i hnf
      subst h'
      have hk : 0 < k → e.next + k ≤ e.last := by
        intro hk
        have : k ≤ e.bytes.length - (e.next - 1) := by
          rw [← hn] at hk ⊢
          split
          · unfold End.some_
            omega
          · omega
        unfold End.last
        omega
      have hfin : fin = true → e.next + k = e.last ∧ e.closed = true := by
        intro q
        subst q
        simp only [Bool.and_eq_true, beq_iff_eq] at hf
        exact ⟨hf.2.2, hf.2.1⟩
      refine ⟨g.f, g.bt, ?_, ?_, ?_, g.hl, g.th, g.pt, g.wt, g.ot, fun q => ⟨(g.no q).1, ?_⟩⟩
      · show e.acked ≤ e.next + k + fin.toNat
        have := g.an
        omega
      · show e.next + k + fin.toNat ≤ max e.sent (e.next + k + fin.toNat)
        omega
      · show max e.sent (e.next + k + fin.toNat) ≤ e.last + e.closed.toNat
        have h3 := g.sl
        cases fin with
        | true =>
          obtain ⟨q1, q2⟩ := hfin rfl
          rw [q2] at h3 ⊢
          simp only [Bool.toNat_true] at h3 ⊢
          omega
        | false =>
          simp only [Bool.toNat_false]
          rcases hnf with q | q
          · have := hk q
            omega
          · cases q
      · show (e.owes && _) = false
        rw [(g.no q).2]
        rfl
    · split at h
      · have h' := (Prod.mk.inj (Option.some.inj h)).2
        subst h'
        rename_i ho
        refine ⟨g.f, g.bt, g.an, g.ns, g.sl, g.hl, g.th, g.pt, g.wt, g.ot, fun q => ?_⟩
        have q' : e.other = none := q
        rw [q'] at ho
        simp at ho
      · cases h
theorem good_ticked {e : End} (g : Good e) (ms : Nat) : Good (e.ticked ms).2 := by
  unfold End.ticked
  split
  · exact g
  · simp only
    generalize hw : (if e.waits = true then e.waited + ms else 0) = w
    split
    · refine ⟨g.f, g.bt, Nat.le_refl _, ?_, g.sl, g.hl, g.th, ?_, ?_, g.ot, g.no⟩
      · show e.acked ≤ e.sent
        have := g.an
        have := g.ns
        omega
      · show 1000 ≤ min (2 * e.patience) 60000 ∧ min (2 * e.patience) 60000 ≤ 60000
        have := g.pt
        omega
      · show 0 < min (2 * e.patience) 60000
        have := g.pt
        omega
    · rename_i h
      refine ⟨g.f, g.bt, g.an, g.ns, g.sl, g.hl, g.th, g.pt, ?_, g.ot, g.no⟩
      show w < e.patience
      have := g.pt
      by_cases q : e.waits = true
      · rw [if_pos q] at hw
        simp only [q, true_and] at h
        omega
      · rw [if_neg q] at hw
        omega
def GoodM (m : St) : Prop := ∀ e, m = some e → Good e
theorem nats_byt {b : List Int} (h : Byt b) : BytN (b.map Int.toNat) := by
  intro x hx
  obtain ⟨y, hy, rfl⟩ := List.mem_map.mp hx
  have := h y hy
  omega
theorem good_worked {m : St} {x : Cl} (g : GoodM m) (hx : Ok x) : GoodM (worked m (spec x)).1 := by
  intro f hf
  cases x with
  | opn a c =>
    have hf' : (if within c 0 1 = true then (some (opened a.toNat (c == 1)), says 0) else (m, says (-2))).1 = some f := hf
    split at hf'
    · have := Option.some.inj hf'
      subst this
      have : a.toNat < ROUND := by
        have := hx.1
        unfold ROUND
        omega
      exact good_opened this _
    · exact g f hf'
  | wr b =>
    cases m with
    | none => cases hf
    | some e =>
      have ge := g e rfl
      simp only [spec, worked] at hf
      split at hf
      · exact g f hf
      split at hf
      · exact g f hf
      · rename_i h1 h2
        have := Option.some.inj hf
        subst this
        have hc : e.closed = false := by
          cases q : e.closed with
          | false => rfl
          | true => rw [q] at h2; simp at h2
        generalize hk : min (b.map Int.toNat).length (16384 - e.held) = k
        have hkl : k ≤ (b.map Int.toNat).length := by omega
        have hkh : k ≤ 16384 - e.held := by omega
        have el : (e.bytes ++ (b.map Int.toNat).take k).length = e.bytes.length + k := by
          rw [List.length_append, List.length_take]
          omega
        refine ⟨ge.f, ?_, ge.an, ge.ns, ?_, ?_, ge.th, ge.pt, ge.wt, ge.ot, ge.no⟩
        · intro z hz
          rcases List.mem_append.mp hz with q | q
          · exact ge.bt z q
          · exact (nats_byt hx).take k z q
        · show e.sent ≤ 1 + (e.bytes ++ (b.map Int.toNat).take k).length + e.closed.toNat
          rw [el]
          have := ge.sl
          unfold End.last at this
          omega
        · show (e.bytes ++ (b.map Int.toNat).take k).length - (e.acked - 1) ≤ 16384
          rw [el]
          have := ge.hl
          unfold End.held at this hkh
          omega
  | cls =>
    cases m with
    | none => cases hf
    | some e =>
      have ge := g e rfl
      have := Option.some.inj hf
      subst this
      refine ⟨ge.f, ge.bt, ge.an, ge.ns, ?_, ge.hl, ge.th, ge.pt, ge.wt, ge.ot, ge.no⟩
      show e.sent ≤ e.last + (e.closed || !e.broken).toNat
      have := ge.sl
      cases q : e.closed with
      | true => rw [q] at this; simpa using this
      | false =>
        rw [q] at this
        simp at this
        omega
  | rd n =>
    cases m with
    | none => cases hf
    | some e =>
      have ge := g e rfl
      simp only [spec, worked] at hf
      split at hf
      · exact g f hf
      cases q : e.other with
      | none =>
        rw [q] at hf
        exact g f hf
      | some o =>
        rw [q] at hf
        simp only at hf
        split at hf
        · rename_i hlt
          have := Option.some.inj hf
          subst this
          have go := ge.ot o q
          refine ⟨ge.f, ge.bt, ge.an, ge.ns, ge.sl, ge.hl, ge.th, ge.pt, ge.wt, fun o' h' => ?_, fun z => by cases z⟩
          have := Option.some.inj h'
          subst this
          have hl : ((o.came.drop o.read).take n.toNat).length ≤ o.came.length - o.read := by
            rw [List.length_take, List.length_drop]
            omega
          refine ⟨go.fst, go.cb, go.ab, ?_, ?_, fun x hx => ?_, go.an⟩
          · show o.read + _ ≤ o.came.length
            omega
          · show o.came.length ≤ o.read + ((o.came.drop o.read).take n.toNat).length + 8192
            have := go.wn
            omega
          · have h3 := go.al x hx
            refine ⟨h3.1, ?_⟩
            show x.1 ≤ 8192 + (o.read + ((o.came.drop o.read).take n.toNat).length)
            omega
        · exact g f hf
  | inn b =>
    cases m with
    | none => cases hf
    | some e =>
      have ge := g e rfl
      simp only [spec, worked] at hf
      split at hf
      · exact g f hf
      cases q : Sw23.read (b.map Int.toNat) with
      | none =>
        rw [q] at hf
        exact g f hf
      | some s =>
        rw [q] at hf
        have := Option.some.inj hf
        subst this
        exact good_comes ge (good_read (nats_byt hx) q)
  | out n =>
    cases m with
    | none => cases hf
    | some e =>
      have ge := g e rfl
      simp only [spec, worked] at hf
      split at hf
      · exact g f hf
      cases q : e.goes n.toNat with
      | none =>
        rw [q] at hf
        exact g f hf
      | some s =>
        obtain ⟨s, e'⟩ := s
        rw [q] at hf
        have := Option.some.inj hf
        subst this
        exact good_goes ge q
  | tick n =>
    cases m with
    | none => cases hf
    | some e =>
      have ge := g e rfl
      simp only [spec, worked] at hf
      split at hf
      · exact g f hf
      · have := Option.some.inj hf
        subst this
        exact good_ticked ge _
  | state =>
    cases m with
    | none => cases hf
    | some e => exact g f hf
end Ty
/-! Sums, bytes and numbers of segments, in plain arithmetic. -/
namespace Ty
open Sw23
theorem folded_eq {n : Nat} (h : n < 4294967296) : folded 40 n = if n = 0 then 0 else (n - 1) % 65535 + 1 := by
  show (if n < 65536 then n else if n % 65536 + n / 65536 < 65536 then n % 65536 + n / 65536 else
    if (n % 65536 + n / 65536) % 65536 + (n % 65536 + n / 65536) / 65536 < 65536 then (n % 65536 + n / 65536) % 65536 + (n % 65536 + n / 65536) / 65536 else folded 37 _) = _
  by_cases h0 : n = 0
  · subst h0
    rfl
  rw [if_neg h0]
  split
  · omega
  split
  · omega
  split
  · omega
  · omega
theorem words_sum : ∀ b : List Nat, BytN b → (wordsOf b).sum ≤ 65535 * b.length
  | [], _ => by simp [wordsOf]
  | [a], h => by
    have := h a (List.Mem.head _)
    simp [wordsOf]
    omega
  | a :: b :: l, h => by
    have h1 := h a (List.Mem.head _)
    have h2 := h b (List.Mem.tail _ (List.Mem.head _))
    have ih := words_sum l fun x hx => h x (List.Mem.tail _ (List.Mem.tail _ hx))
    simp only [wordsOf, List.sum_cons, List.length_cons]
    omega
theorem sum_ok {b : List Nat} (h : BytN b) (hl : b.length ≤ 65535) : sum b = 65535 ↔ 0 < (wordsOf b).sum ∧ (wordsOf b).sum % 65535 = 0 := by
  have hs := words_sum b h
  unfold Sw23.sum
  generalize (wordsOf b).sum = S at hs ⊢
  rw [folded_eq (by omega)]
  split <;> omega
theorem bytesOf4 (n : Nat) : bytesOf 4 n = [n / 16777216 % 256, n / 65536 % 256, n / 256 % 256, n % 256] := by
  show [n / 256 ^ 3 % 256, n / 256 ^ 2 % 256, n / 256 ^ 1 % 256, n / 256 ^ 0 % 256] = _
  simp
theorem bytesOf2 (n : Nat) : bytesOf 2 n = [n / 256 % 256, n % 256] := by
  show [n / 256 ^ 1 % 256, n / 256 ^ 0 % 256] = _
  simp
theorem body_eq (s : Segment) : body s 0 = [s.place / 16777216 % 256, s.place / 65536 % 256, s.place / 256 % 256, s.place % 256,
    s.wanted / 16777216 % 256, s.wanted / 65536 % 256, s.wanted / 256 % 256, s.wanted % 256, flags s, 0, s.window / 256 % 256, s.window % 256, 0, 0] ++ s.data := by
  unfold body
  rw [bytesOf4, bytesOf4, bytesOf2, bytesOf2]
  rfl
end Ty
/-! The program's own steps as functions on plain values: no heap, no text. -/
namespace Pr
open Ty (Cl Ok spec one flat W32 Byt)
/-- the object's values -/
structure Py where
  first : Int
  calling : Bool
  written : List Int
  closed : Bool
  acked : Int
  next_number : Int
  sent : Int
  theirs : Int
  their_first : Option Int
  came : Int
  unread : List Int
  ahead : List (Int × Int)
  their_end : Option Int
  owes : Bool
  waited : Int
  patience : Int
  probe : Bool
  broken : Bool
def Py.made (f : Int) (c : Bool) : Py := ⟨f, c, [], false, 0, 0, 0, 0, none, 0, [], [], none, false, 0, 1000, false, false⟩
/-! ### a segment's numbers -/
def sumI : Nat → List Int → Int
  | _, [] => 0
  | k, x :: r => (if k % 2 = 0 then x * 256 else x) + sumI (k + 1) r
def sumOk (xs : List Int) : Bool := decide (0 < sumI 0 xs ∧ sumI 0 xs % 65535 = 0)
def isRight (xs : List Int) : Bool := decide (14 ≤ xs.length) && (decide (xs.getD 9 0 = 0) && sumOk xs)
def numOf (xs : List Int) : Int := xs.foldl (fun n c => n * 256 + c) 0
def numAt (xs : List Int) (k n : Nat) : Int := numOf ((xs.drop k).take n)
def flag (xs : List Int) (j : Nat) : Bool := (xs.getD 8 0).toNat.testBit j
def nearI (x w : Int) : Int := if 2147483648 ≤ (x - w) % 4294967296 then w + (x - w) % 4294967296 - 4294967296 else w + (x - w) % 4294967296
def digits (z : Int) : Nat → List Int
  | 0 => []
  | n + 1 => z % 256 :: digits (z / 256) n
def rowOf (z : Int) (n : Nat) : List Int := (digits z n).reverse
/-! ### looks -/
def Py.window (e : Py) : Int := 8192 - e.unread.length
def Py.nio (e : Py) : Int := e.came + 1
def Py.whole (e : Py) : Bool := decide (e.their_end = some e.nio)
def Py.wanted (e : Py) : Int := e.nio + (if e.whole = true then 1 else 0)
def Py.room (e : Py) : Int := 16384 - (e.written.length - min (max (e.acked - 1) 0) e.written.length)
def Py.nothing (e : Py) : Int := if e.whole = true then -1 else if e.broken = true then -3 else 0
def Py.endn (e : Py) : Int := e.written.length + 1
def Py.begun (e : Py) : Bool := e.their_first.isSome
def Py.wplace (e : Py) : Int := (e.their_first.getD 0 + e.wanted) % 4294967296
/-! ### write, close, read -/
def Py.close (e : Py) : Py × List Int := if (e.closed || e.broken) = true then (e, [-1]) else ({ e with closed := true }, [0])
def Py.write (e : Py) (xs : List Int) : Py × List Int := if (e.closed || e.broken) = true then (e, [-1]) else ({ e with written := e.written ++ xs.take e.room.toNat }, [((xs.take e.room.toNat).length : Int)])
def Py.read (e : Py) (n : Int) : Py × List Int := if e.unread = [] then (e, [e.nothing]) else
  let e1 := { e with unread := e.unread.drop n.toNat }
  ((if e.window < 536 ∧ 536 ≤ e1.window then { e1 with owes := true } else e1), ((e.unread.take n.toNat).length : Int) :: e.unread.take n.toNat)
/-! ### in -/
def Py.early (e : Py) (xs : List Int) : Bool := if (e.begun || flag xs 0) = true then false else
  !(flag xs 3 && (flag xs 2 && decide (numAt xs 4 4 = (e.first + 1) % 4294967296))) || decide (e.sent = 0)
def Py.brk (e : Py) (xs : List Int) : Py := if (!e.begun || decide (numAt xs 0 4 = e.wplace)) = true then { e with broken := true } else e
def Py.ans (e : Py) (xs : List Int) : Py × Bool :=
  let a := nearI (numAt xs 4 4 - e.first) e.acked
  if e.sent < a then ({ e with owes := true }, false) else if a < e.acked then (e, true) else
    ({ e with waited := if e.acked < a then 0 else e.waited, patience := if e.acked < a then 1000 else e.patience, acked := a, next_number := max e.next_number a, theirs := numAt xs 10 2 }, true)
def Py.numb (e : Py) (xs : List Int) : Int := nearI (numAt xs 0 4 - e.their_first.getD 0) e.wanted + (if flag xs 0 = true then 1 else 0)
def kept1 (ah : List (Int × Int)) (lo hi n : Int) (x : Nat × Int) : Option (Int × Int) :=
  if lo ≤ n + x.1 ∧ n + x.1 < hi ∧ (ah.any fun y => y.1 == n + x.1) = false then some (n + x.1, x.2) else none
def keptI (ah : List (Int × Int)) (lo hi n : Int) (data : List Int) : List (Int × Int) := ((List.range data.length).zip data).filterMap (kept1 ah lo hi n)
def bring : Nat → Py → Py
  | 0, e => e
  | f + 1, e => match e.ahead.find? fun x => x.1 == e.nio with
    | some x => bring f { e with unread := e.unread ++ [x.2], ahead := e.ahead.filter (fun y => y.1 != e.nio), came := e.came + 1 }
    | none => e
def Py.keep (e : Py) (n : Int) (data : List Int) : Py := { e with ahead := e.ahead ++ keptI e.ahead e.nio (e.nio + e.window) n data }
def Py.ends (e : Py) (b : Bool) (lo hi q : Int) : Py := if (b && (decide (e.their_end = none) && (decide (lo ≤ q) && decide (q ≤ hi)))) = true then { e with their_end := some q } else e
def Py.brought (e : Py) : Py := bring (e.ahead.length + 1) e
def Py.owe (e : Py) (b : Bool) : Py := if b = true then { e with owes := true } else e
def Py.data (e : Py) (xs : List Int) : Py :=
  let d := xs.drop 14
  let n := e.numb xs
  ((((e.keep n d).ends (flag xs 1) e.nio (e.nio + e.window) (n + d.length)).brought).owe (flag xs 0 || (flag xs 1 || decide (0 < d.length))))
def Py.begin (e : Py) (xs : List Int) : Py := if e.begun = true then e else { e with their_first := some (numAt xs 0 4) }
def Py.inn (e : Py) (xs : List Int) : Py × List Int :=
  if (e.broken || (!isRight xs || e.early xs)) = true then (e, [0]) else if flag xs 3 = true then (e.brk xs, [1]) else
    if flag xs 2 = true then (if ((e.begin xs).ans xs).2 = true then (((e.begin xs).ans xs).1.data xs, [1]) else (((e.begin xs).ans xs).1, [1])) else ((e.begin xs).data xs, [1])
/-! ### out -/
def Py.due (e : Py) (m : Int) : List Int := if e.acked = 0 then [] else
  (e.written.drop (e.next_number - 1).toNat).take (min (min 536 m) (max (e.acked + e.theirs + (if e.theirs = 0 ∧ e.probe = true then 1 else 0) - e.next_number) 0)).toNat
def Py.seg (e : Py) (mark : Int) (data : List Int) : List Int :=
  rowOf (e.first + e.next_number) 4 ++ rowOf (if e.begun = true then e.wplace else 0) 4 ++ [if e.begun = true then mark + 4 else mark, 0] ++ rowOf e.window 2 ++ [0, 0] ++ data
def Py.sentNow (e : Py) (mark : Int) (data : List Int) : Py :=
  let nx := e.next_number + (data.length + (if mark = 0 then 0 else 1))
  { e with owes := if e.begun = true then false else e.owes, next_number := nx, sent := max e.sent nx, probe := if (decide (mark = 2) || decide (0 < data.length)) = true then false else e.probe }
def Py.send (e : Py) (mark : Int) (data : List Int) : Py × List Int := (e.sentNow mark data, ((e.seg mark data).length : Int) :: (e.seg mark data ++ [1]))
def Py.begDue (e : Py) : Bool := decide (e.next_number = 0) && (e.calling || e.begun)
def Py.endDue (e : Py) (n : Int) : Bool := decide (0 < e.acked) && (e.closed && decide (e.next_number + n = e.endn))
def Py.ansDue (e : Py) : Bool := e.owes && e.begun
def Py.out (e : Py) (m : Int) : Py × List Int :=
  if e.broken = true then (e, [0]) else if e.begDue = true then e.send 1 [] else
    if e.endDue (e.due (m - 14)).length = true then e.send 2 (e.due (m - 14)) else
      if (decide (0 < (e.due (m - 14)).length) || e.ansDue) = true then e.send 0 (e.due (m - 14)) else (e, [0])
/-! ### tick, state -/
def Py.waits (e : Py) : Bool := decide (e.acked < e.sent) || (decide (e.theirs = 0) && (decide (0 < e.acked) && decide (e.sent < e.endn)))
def Py.tick (e : Py) (ms : Int) : Py × List Int := if e.broken = true then (e, [0]) else
  let w := if e.waits = true then e.waited + ms else 0
  if w < e.patience then ({ e with waited := w }, [0]) else ({ e with next_number := e.acked, probe := true, waited := 0, patience := min (e.patience * 2) 60000 }, [1])
def Py.state (e : Py) : List Int := if e.broken = true then [5] else if (!e.begun || decide (e.acked = 0)) = true then [0] else
  [1 + (if e.whole = true then 1 else 0) + (if e.endn < e.acked then 2 else 0)]
/-! ### calls -/
/-- a call's number, and what is handed in with it -/
def kind : Cl → Int
  | .opn _ _ => 1
  | .wr _ => 2
  | .cls => 3
  | .rd _ => 4
  | .inn _ => 5
  | .out _ => 6
  | .tick _ => 7
  | .state => 8
def nums : Cl → List Int
  | .opn f c => [f, c]
  | .wr b => b
  | .cls => []
  | .rd n => [n]
  | .inn b => b
  | .out n => [n]
  | .tick n => [n]
  | .state => []
def rangeOk : Cl → Bool
  | .opn _ c => decide (0 ≤ c) && decide (c ≤ 1)
  | .rd n => decide (0 ≤ n) && decide (n ≤ 1000000)
  | .out n => decide (14 ≤ n) && decide (n ≤ 65535)
  | .tick n => decide (0 ≤ n) && decide (n ≤ 1000000)
  | _ => true
def Py.step (e : Py) : Cl → Py × List Int
  | .wr b => e.write b
  | .cls => e.close
  | .rd n => e.read n
  | .inn b => e.inn b
  | .out n => e.out n
  | .tick n => e.tick n
  | .state => (e, e.state)
  | .opn _ _ => (e, [0])
/-- what a call asks of the end that it is about -/
def Pre (e : Py) : Cl → Prop
  | .wr b => 0 ≤ e.room ∧ e.written.length + b.length ≤ 1000000
  | .rd n => 0 ≤ n ∧ e.unread.length ≤ 1000000
  | .inn b => Byt b ∧ b.length ≤ 30000 ∧ e.ahead.length ≤ 30000 ∧ e.unread.length ≤ 30000 ∧ 0 ≤ e.came ∧ e.came ≤ 30000
  | .out n => 14 ≤ n ∧ (e.acked ≠ 0 → 1 ≤ e.next_number)
  | .tick _ => 0 ≤ e.patience ∧ e.patience ≤ 60000
  | _ => True
/-- the end that a call is about -/
def now (m : Option Py) : Cl → Option Py
  | .opn f z => some (.made f (decide (z = 1)))
  | _ => m
def run (m : Option Py) (c : Cl) : Option Py × List Int :=
  if rangeOk c = true then (match now m c with
    | some e => (some (e.step c).1, (e.step c).2)
    | none => (none, []))
  else (m, [-2])
/-- what the mathematics owes: the object's values and the specification's state go together -/
structure Sim (R : Nat → Option Py → Sw23.St → Prop) : Prop where
  start : R 0 none none
  pre : ∀ n m s c e, R n m s → Ok c → n + (flat c).length ≤ 30000 → rangeOk c = true → now m c = some e → Pre e c
  step : ∀ n m s c, R n m s → Ok c → n + (flat c).length ≤ 30000 → (now m c).isSome = true → R (n + (flat c).length) (run m c).1 (Sw23.worked s (spec c)).1 ∧ one (Sw23.worked s (spec c)).2 = ((run m c).2.length : Int) :: (run m c).2
end Pr
/-! The specification's end as the object's values; what is asked of one another. -/
namespace Pr
open Ty (Cl Ok spec one flat W32 Byt BytN Good GoodO GoodS GoodM)
open Sw23
def nI (l : List Nat) : List Int := l.map fun (x : Nat) => (x : Int)
theorem ints_app (l m : List Nat) : nI (l ++ m) = nI l ++ nI m := by simp [nI]
theorem ints_take (l : List Nat) (n : Nat) : nI (l.take n) = (nI l).take n := by simp [nI, List.map_take]
theorem ints_drop (l : List Nat) (n : Nat) : nI (l.drop n) = (nI l).drop n := by simp [nI, List.map_drop]
theorem ints_len (l : List Nat) : (nI l).length = l.length := by simp [nI]
theorem ints_nats {b : List Int} (h : Byt b) : nI (b.map Int.toNat) = b := by
  unfold nI
  rw [List.map_map]
  have e : ∀ x ∈ b, ((fun (x : Nat) => (x : Int)) ∘ Int.toNat) x = x := fun x hx => by
    have := h x hx
    simp
    omega
  rw [List.map_congr_left e]
  simp
def pairs (l : List (Nat × Nat)) : List (Int × Int) := l.map fun x => ((x.1 : Int), (x.2 : Int))
def toPy (E : End) : Py where
  first := E.first
  calling := E.calls
  written := nI E.bytes
  closed := E.closed
  acked := E.acked
  next_number := E.next
  sent := E.sent
  theirs := E.theirs
  their_first := E.other.map fun o => (o.first : Int)
  came := match E.other with
    | none => 0
    | some o => o.came.length
  unread := match E.other with
    | none => []
    | some o => nI (o.came.drop o.read)
  ahead := match E.other with
    | none => []
    | some o => pairs o.ahead
  their_end := match E.other with
    | none => none
    | some o => o.last.map fun (x : Nat) => (x : Int)
  owes := E.owes
  waited := E.waited
  patience := E.patience
  probe := E.probe
  broken := E.broken
def ansOf (y : Ans) : List Int := y.code :: nI y.out
theorem one_ans (y : Ans) : one y = ((ansOf y).length : Int) :: ansOf y := by
  simp [one, ansOf, nI]
  omega
/-! ### looks -/
section
variable {E : End} {o : Other}
theorem whole_some (h : E.other = some o) : (toPy E).whole = o.whole := by
  unfold Py.whole Py.nio Other.whole Other.due toPy
  simp only [h]
  cases o.last with
  | none => simp
  | some x =>
    simp
    rw [Bool.eq_iff_iff]
    simp
    omega
theorem whole_none (h : E.other = none) : (toPy E).whole = false := by
  unfold Py.whole Py.nio toPy
  simp [h]
theorem nio_some (h : E.other = some o) : (toPy E).nio = o.due := by
  unfold Py.nio Other.due toPy
  simp only [h]
  omega
theorem wanted_some (h : E.other = some o) : (toPy E).wanted = o.wanted := by
  unfold Py.wanted Other.wanted
  rw [nio_some h, whole_some h]
  cases o.whole <;> simp
theorem window_some (h : E.other = some o) (g : GoodO o) : (toPy E).window = o.window := by
  unfold Py.window Other.window toPy
  simp only [h, ints_len, List.length_drop]
  have := g.rd
  have := g.wn
  omega
theorem window_none (h : E.other = none) : (toPy E).window = 8192 := by
  unfold Py.window toPy
  simp [h]
theorem begun_some (h : E.other = some o) : (toPy E).begun = true := by
  unfold Py.begun toPy
  simp [h]
theorem begun_none (h : E.other = none) : (toPy E).begun = false := by
  unfold Py.begun toPy
  simp [h]
theorem begun_eq (E : End) : (toPy E).begun = E.other.isSome := by
  unfold Py.begun toPy
  simp
theorem wplace_some (h : E.other = some o) : (toPy E).wplace = (((o.first + o.wanted) % ROUND : Nat) : Int) := by
  unfold Py.wplace
  rw [wanted_some h]
  unfold toPy
  simp [h, ROUND]
theorem endn_eq (E : End) : (toPy E).endn = E.last := by
  unfold Py.endn End.last toPy
  simp only [ints_len]
  omega
theorem room_eq (g : Good E) : (toPy E).room = ((16384 - E.held : Nat) : Int) := by
  unfold Py.room toPy
  simp only [ints_len]
  have := g.hl
  unfold End.held at *
  omega
end
/-! ### write, close, read -/
theorem write_eq {E : End} (g : Good E) {b : List Int} (hb : Byt b) (hl : b.length ≤ 30000) : (toPy E).write b = (match worked (some E) (.write (b.map Int.toNat) b.length) with | (some F, y) => (toPy F, ansOf y) | (none, y) => (toPy E, ansOf y)) := by
  have hw : within (b.length : Int) 0 1000000 = true := by simp [within]; omega
  unfold Py.write worked
  simp only [hw, Bool.true_eq_false, if_false]
  by_cases q : (E.closed || E.broken) = true
  · have q' : ((toPy E).closed || (toPy E).broken) = true := q
    simp only [q, q', if_true]
    rfl
  · have q' : ¬ ((toPy E).closed || (toPy E).broken) = true := q
    rw [if_neg q']
    simp only [q, Bool.false_eq_true, if_false]
    rw [room_eq g]
    have e1 : ((16384 - E.held : Nat) : Int).toNat = 16384 - E.held := by omega
    rw [e1]
    have e2 : nI ((b.map Int.toNat).take (min (b.map Int.toNat).length (16384 - E.held))) = b.take (16384 - E.held) := by
      rw [ints_take, ints_nats hb, List.length_map, Nat.min_comm, ← List.take_eq_take_min]
    refine Prod.ext ?_ ?_
    · show _ = toPy { E with bytes := E.bytes ++ _ }
      unfold toPy
      simp only [ints_app, e2]
    · simp [ansOf, says, nI]
      omega
theorem close_eq {E : End} : (toPy E).close = (match worked (some E) .close with | (some F, y) => (toPy F, ansOf y) | (none, y) => (toPy E, ansOf y)) := by
  unfold Py.close worked
  have q' : ((toPy E).closed || (toPy E).broken) = (E.closed || E.broken) := rfl
  rw [q']
  cases h1 : E.closed <;> cases h2 : E.broken <;> simp [ansOf, says, nI, toPy, h1, h2]
theorem nothing_some {E : End} {o : Other} (h : E.other = some o) : (toPy E).nothing = if o.whole = true then -1 else if E.broken = true then -3 else 0 := by
  unfold Py.nothing
  rw [whole_some h]
  rfl
theorem nothing_none {E : End} (h : E.other = none) : (toPy E).nothing = if E.broken = true then -3 else 0 := by
  unfold Py.nothing
  rw [whole_none h]
  rfl
theorem read_eq {E : End} (g : Good E) {n : Int} (hn : within n 0 1000000 = true) : (toPy E).read n = (match worked (some E) (.read n) with | (some F, y) => (toPy F, ansOf y) | (none, y) => (toPy E, ansOf y)) := by
  unfold Py.read worked
  simp only [hn, Bool.true_eq_false, if_false]
  cases h : E.other with
  | none =>
    have e1 : (toPy E).unread = [] := by unfold toPy; simp [h]
    rw [if_pos e1, nothing_none h]
    rfl
  | some o =>
    have go := g.ot o h
    have e1 : (toPy E).unread = nI (o.came.drop o.read) := by unfold toPy; simp [h]
    by_cases q : o.read < o.came.length
    · have e2 : (toPy E).unread ≠ [] := by
        rw [e1]
        intro z
        have := congrArg List.length z
        simp [ints_len] at this
        omega
      rw [if_neg e2]
      simp only [q, if_true]
      generalize hF : ({ E with other := some { o with read := o.read + ((o.came.drop o.read).take n.toNat).length } } : End) = F
      have hFo : F.other = some { o with read := o.read + ((o.came.drop o.read).take n.toNat).length } := by rw [← hF]
      have eF : ({ toPy E with unread := (toPy E).unread.drop n.toNat } : Py) = toPy F := by
        rw [← hF, e1]
        unfold toPy
        simp only [h, Option.map_some, ← ints_drop, List.drop_drop]
        congr 2
        rw [List.length_take, List.length_drop]
        by_cases z : n.toNat ≤ o.came.length - o.read
        · rw [Nat.min_eq_left z]
        · rw [Nat.min_eq_right (by omega), List.drop_eq_nil_of_le (by omega), List.drop_eq_nil_of_le (by omega)]
      have gF : GoodO { o with read := o.read + ((o.came.drop o.read).take n.toNat).length } := by
        constructor
        · exact go.fst
        · exact go.cb
        · exact go.ab
        · simp; omega
        · have := go.wn; simp; omega
        · intro x hx
          have := go.al x hx
          exact ⟨this.1, by have := this.2; simp; omega⟩
        · exact go.an
      have w1 := window_some h go
      have w2 := window_some hFo gF
      refine Prod.ext ?_ ?_
      · simp only [show ({ toPy E with unread := (toPy E).unread.drop n.toNat } : Py).window = _ from (congrArg Py.window eF).trans w2, w1]
        by_cases z : o.window < 536 ∧ 536 ≤ ({ o with read := o.read + ((o.came.drop o.read).take n.toNat).length } : Other).window
        · rw [if_pos (by omega)]
          refine (congrArg (fun x : Py => { x with owes := true }) eF).trans ?_
          rw [← hF]
          unfold toPy
          simp only [decide_eq_true z.1, decide_eq_true z.2, Bool.and_true, Bool.or_true]
        · rw [if_neg (by omega)]
          refine eF.trans ?_
          rw [← hF]
          have z' : (decide (o.window < 536) && decide (536 ≤ ({ o with read := o.read + ((o.came.drop o.read).take n.toNat).length } : Other).window)) = false := by
            rw [← Bool.decide_and, decide_eq_false z]
          unfold toPy
          simp only [z', Bool.or_false]
      · rw [e1]
        simp [ansOf, tells, nI]
    · have e2 : (toPy E).unread = [] := by
        rw [e1, List.drop_eq_nil_of_le (by omega)]
        rfl
      rw [if_pos e2, nothing_some h]
      simp only [q, if_false]
      rfl
/-! ### tick, state -/
theorem waits_eq {E : End} (g : Good E) : (toPy E).waits = E.waits := by
  unfold Py.waits End.waits
  rw [endn_eq]
  unfold toPy
  have h1 := g.an
  have h2 := g.ns
  rw [Bool.eq_iff_iff]
  simp
  omega
theorem tick_eq {E : End} (g : Good E) {n : Int} (hn : within n 0 1000000 = true) : (toPy E).tick n = (match worked (some E) (.tick n) with | (some F, y) => (toPy F, ansOf y) | (none, y) => (toPy E, ansOf y)) := by
  unfold Py.tick worked
  simp only [hn, Bool.true_eq_false, if_false]
  unfold End.ticked
  have hp := g.pt
  simp [within] at hn
  have q' : (toPy E).broken = E.broken := rfl
  rw [q']
  by_cases q : E.broken = true
  · simp only [q, if_true]
    rfl
  · simp only [q, Bool.false_eq_true, if_false]
    rw [waits_eq g]
    have ew : (toPy E).waited = E.waited := rfl
    have ep : (toPy E).patience = E.patience := rfl
    rw [ew, ep]
    by_cases w : E.waits = true
    · simp only [w, if_true, true_and]
      by_cases z : E.patience ≤ E.waited + n.toNat
      · rw [if_neg (by omega), if_pos z]
        simp [toPy, ansOf, says, nI]
        omega
      · rw [if_pos (by omega), if_neg z]
        simp [toPy, ansOf, says, nI]
        omega
    · simp only [w, Bool.false_eq_true, if_false, false_and]
      rw [if_pos (by omega)]
      simp [toPy, ansOf, says, nI]
theorem state_eq {E : End} (g : Good E) : (toPy E, (toPy E).state) = (match worked (some E) .state with | (some F, y) => (toPy F, ansOf y) | (none, y) => (toPy E, ansOf y)) := by
  unfold Py.state worked
  simp only
  unfold End.state
  have q' : (toPy E).broken = E.broken := rfl
  rw [q']
  by_cases q : E.broken = true
  · simp only [q, if_true]
    rfl
  · simp only [q, Bool.false_eq_true, if_false]
    cases h : E.other with
    | none =>
      rw [begun_none h]
      rfl
    | some o =>
      rw [begun_some h, whole_some h, endn_eq]
      have ea : (toPy E).acked = E.acked := rfl
      rw [ea]
      have hs := g.sl
      have h1 := g.an
      have h2 := g.ns
      by_cases z : E.acked = 0
      · simp [z, ansOf, says, nI]
      · have z' : ¬ ((E.acked : Int) = 0) := by omega
        have e1 : decide (E.closed = true ∧ E.last < E.acked) = decide ((E.last : Int) < E.acked) := by
          rw [decide_eq_decide]
          constructor
          · intro k; omega
          · intro k
            refine ⟨?_, by omega⟩
            cases hc : E.closed with
            | true => rfl
            | false =>
              rw [hc] at hs
              simp at hs
              omega
        simp only [z, z', decide_false, Bool.not_true, Bool.or_false, Bool.false_eq_true, if_false, e1]
        by_cases k : (E.last : Int) < E.acked
        · cases o.whole <;> simp [k, ansOf, says, nI]
        · cases o.whole <;> simp [k, ansOf, says, nI]
end Pr
/-! A segment that comes. -/
namespace Pr
open Ty (Cl Ok spec one flat W32 Byt BytN Good GoodO GoodS GoodM)
open Sw23
theorem num_ints : ∀ (l : List Nat) (n : Nat), (nI l).foldl (fun (n c : Int) => n * 256 + c) (n : Int) = ((l.foldl (fun n c => 256 * n + c) n : Nat) : Int)
  | [], _ => rfl
  | x :: l, n => by
    have ih := num_ints l (256 * n + x)
    show (nI l).foldl (fun (n c : Int) => n * 256 + c) ((n : Int) * 256 + (x : Int)) = _
    rw [show (n : Int) * 256 + (x : Int) = ((256 * n + x : Nat) : Int) by omega]
    exact ih
theorem numAt_ints (l : List Nat) (k n : Nat) : numAt (nI l) k n = (number ((l.drop k).take n) : Nat) := by
  unfold numAt numOf number
  rw [← ints_drop, ← ints_take]
  exact num_ints _ 0
theorem getD_ints (l : List Nat) (k : Nat) : (nI l).getD k 0 = ((l.getD k 0 : Nat) : Int) := by
  unfold nI
  simp only [List.getD_eq_getElem?_getD, List.getElem?_map]
  cases l[k]? <;> rfl
theorem sumI_ints : ∀ (l : List Nat) (k : Nat), k % 2 = 0 → sumI k (nI l) = ((wordsOf l).sum : Nat)
  | [], _, _ => rfl
  | [a], k, h => by
    show (if k % 2 = 0 then (a : Int) * 256 else (a : Int)) + 0 = _
    rw [if_pos h]
    simp [wordsOf]
    omega
  | a :: b :: l, k, h => by
    have ih := sumI_ints l (k + 1 + 1) (by omega)
    show (if k % 2 = 0 then (a : Int) * 256 else (a : Int)) + ((if (k + 1) % 2 = 0 then (b : Int) * 256 else (b : Int)) + sumI (k + 1 + 1) (nI l)) = _
    rw [if_pos h, if_neg (by omega), ih]
    simp only [wordsOf, List.sum_cons]
    omega
theorem sumOk_ints {l : List Nat} (h : BytN l) (hl : l.length ≤ 65535) : sumOk (nI l) = decide (sum l = 65535) := by
  unfold sumOk
  rw [sumI_ints l 0 rfl, decide_eq_decide, Ty.sum_ok h hl]
  omega
/-- what is read of a segment, and of the same as nI -/
structure SegIs (xs : List Int) (s : Segment) : Prop where
  place : numAt xs 0 4 = (s.place : Int)
  wanted : numAt xs 4 4 = (s.wanted : Int)
  window : numAt xs 10 2 = (s.window : Int)
  begins : flag xs 0 = s.begins
  ends : flag xs 1 = s.ends
  answers : flag xs 2 = s.answers
  breaks : flag xs 3 = s.breaks
  data : xs.drop 14 = nI s.data
  good : GoodS s
theorem read_is {b : List Int} (hb : Byt b) (hl : b.length ≤ 65535) : (isRight b = false ∧ Sw23.read (b.map Int.toNat) = none) ∨ (isRight b = true ∧ ∃ s, Sw23.read (b.map Int.toNat) = some s ∧ SegIs b s) := by
  have hN := Ty.nats_byt hb
  have e0 := ints_nats hb
  generalize b.map Int.toNat = l at hN e0
  subst e0
  rw [ints_len] at hl
  have e1 : isRight (nI l) = !decide (l.length < 14 ∨ l.getD 9 0 ≠ 0 ∨ sum l ≠ 65535) := by
    unfold isRight
    rw [ints_len, getD_ints, sumOk_ints hN hl, Bool.eq_iff_iff]
    simp
  rw [e1]
  by_cases q : l.length < 14 ∨ l.getD 9 0 ≠ 0 ∨ sum l ≠ 65535
  · left
    refine ⟨by rw [decide_eq_true q]; rfl, ?_⟩
    unfold Sw23.read
    rw [if_pos q]
  · right
    refine ⟨by rw [decide_eq_false q]; rfl, ?_⟩
    have e2 : Sw23.read l = some ⟨number (l.take 4), number ((l.drop 4).take 4), (l.getD 8 0).testBit 0, (l.getD 8 0).testBit 1, (l.getD 8 0).testBit 2, (l.getD 8 0).testBit 3, number ((l.drop 10).take 2), l.drop 14⟩ := by
      unfold Sw23.read
      rw [if_neg q]
    have fl : ∀ j, flag (nI l) j = (l.getD 8 0).testBit j := fun j => by
      unfold flag
      rw [getD_ints]
      rfl
    exact ⟨_, e2, ⟨numAt_ints l 0 4, numAt_ints l 4 4, numAt_ints l 10 2, fl 0, fl 1, fl 2, fl 3, (ints_drop l 14).symm, Ty.good_read hN e2⟩⟩
theorem near_eq (x w f : Nat) (hf : f < 4294967296) : nearI ((x : Int) - (f : Int)) (w : Int) = nearest w ((x + ROUND - f % ROUND) % ROUND) := by
  unfold nearI nearest ROUND
  simp only
  have e : ((((x + 2 ^ 32 - f % 2 ^ 32) % 2 ^ 32 : Nat) : Int) - (w : Int)) % ((2 ^ 32 : Nat) : Int) = ((x : Int) - f - w) % 4294967296 := by
    have : ((2 ^ 32 : Nat)) = 4294967296 := rfl
    rw [this]
    omega
  rw [e]
  have e31 : (2 : Int) ^ 31 = 2147483648 := rfl
  have e32 : (((2 ^ 32 : Nat)) : Int) = 4294967296 := rfl
  rw [e31, e32]
  split <;> split <;> omega
/-! ### what is kept, and brought in order -/
theorem kept_eq (o : Other) (p : Int) (data : List Nat) : keptI (pairs o.ahead) (o.due : Int) ((o.due : Int) + (o.window : Int)) p (nI data) = pairs (Ty.kept o p data) := by
  unfold keptI Ty.kept pairs nI
  rw [List.length_map, List.map_filterMap]
  have ez : (List.range data.length).zip (data.map fun (x : Nat) => (x : Int)) = ((List.range data.length).zip data).map fun x => (x.1, (x.2 : Int)) := by
    rw [List.zip_map_right]
    rfl
  rw [ez, List.filterMap_map]
  congr 1
  funext x
  obtain ⟨i, c⟩ := x
  simp only [Function.comp, kept1]
  have ea : ((o.ahead.map fun x => ((x.1 : Int), (x.2 : Int))).any fun y => y.1 == p + (i : Int)) = (o.ahead.any fun y => (y.1 : Int) == p + (i : Int)) := by
    rw [List.any_map]
    rfl
  rw [ea]
  by_cases q : (o.due : Int) ≤ p + i ∧ p + i < (o.due + o.window : Nat) ∧ (o.ahead.any fun y => (y.1 : Int) == p + (i : Int)) = false
  · have q' : (o.due : Int) ≤ p + i ∧ p + i < (o.due : Int) + (o.window : Int) ∧ (o.ahead.any fun y => (y.1 : Int) == p + (i : Int)) = false := ⟨q.1, by have := q.2.1; omega, q.2.2⟩
    rw [if_pos q', if_pos q]
    have := q.1
    simp
    omega
  · have q' : ¬ ((o.due : Int) ≤ p + i ∧ p + i < (o.due : Int) + (o.window : Int) ∧ (o.ahead.any fun y => (y.1 : Int) == p + (i : Int)) = false) := fun z => q ⟨z.1, by have := z.2.1; omega, z.2.2⟩
    rw [if_neg q', if_neg q]
    rfl
theorem bring_settled (E : End) : ∀ (f : Nat) (o : Other), o.read ≤ o.came.length → bring f (toPy { E with other := some o }) = toPy { E with other := some (settled f o) }
  | 0, _, _ => rfl
  | f + 1, o, h => by
    have hn : (toPy { E with other := some o }).nio = o.due := nio_some rfl
    unfold bring settled
    rw [hn]
    have ea : (toPy { E with other := some o }).ahead = pairs o.ahead := rfl
    have ef : ((pairs o.ahead).find? fun x => x.1 == (o.due : Int)) = (o.ahead.find? fun x => x.1 == o.due).map fun x => ((x.1 : Int), (x.2 : Int)) := by
      unfold pairs
      rw [List.find?_map]
      congr 2
      funext x
      simp only [Function.comp]
      rw [Bool.eq_iff_iff]
      simp
      omega
    rw [ea, ef]
    cases q : o.ahead.find? fun x => x.1 == o.due with
    | none => rfl
    | some x =>
      have hx : x.1 = o.due := by simpa using List.find?_some q
      have ih := bring_settled E f { o with came := o.came ++ [x.2], ahead := o.ahead.filter fun y => y.1 != x.1 } (by simp; omega)
      simp only [Option.map_some]
      rw [← ih]
      congr 1
      unfold toPy
      simp only
      have e1 : pairs (o.ahead.filter fun y => y.1 != x.1) = (pairs o.ahead).filter fun y => y.1 != (o.due : Int) := by
        unfold pairs
        rw [List.filter_map]
        congr 2
        funext y
        simp only [Function.comp, hx]
        rw [Bool.eq_iff_iff]
        simp
        omega
      have e2 : nI ((o.came ++ [x.2]).drop o.read) = nI (o.came.drop o.read) ++ [(x.2 : Int)] := by
        rw [List.drop_append_of_le_length h, ints_app]
        rfl
      rw [e1, e2]
      simp
theorem data_eq {E : End} {o : Other} (h : E.other = some o) (go : GoodO o) {xs : List Int} {s : Segment} (hs : SegIs xs s) :
    (toPy E).data xs = toPy { E with other := some (o.takes (nearest o.wanted ((s.place + ROUND - o.first % ROUND) % ROUND) + (s.begins.toNat : Int)) s.data s.ends), owes := E.owes || (s.begins || (s.ends || s.data != [])) } := by
  have hf := go.fst
  have en : (toPy E).numb xs = nearest o.wanted ((s.place + ROUND - o.first % ROUND) % ROUND) + (s.begins.toNat : Int) := by
    unfold Py.numb
    rw [wanted_some h, hs.place, hs.begins]
    have : (toPy E).their_first.getD 0 = (o.first : Int) := by unfold toPy; simp [h]
    rw [this, near_eq _ _ _ (by unfold ROUND at hf; omega)]
    cases s.begins <;> rfl
  generalize hp : nearest o.wanted ((s.place + ROUND - o.first % ROUND) % ROUND) + (s.begins.toNat : Int) = p at en
  unfold Py.data
  simp only
  rw [en, hs.data, hs.begins, hs.ends, nio_some h, window_some h go, ints_len, Ty.takes_eq]
  have e1 : (toPy E).keep p (nI s.data) = toPy { E with other := some { o with ahead := o.ahead ++ Ty.kept o p s.data } } := by
    unfold Py.keep
    rw [nio_some h, window_some h go]
    have ea : (toPy E).ahead = pairs o.ahead := by unfold toPy; simp [h]
    rw [ea, kept_eq]
    unfold toPy
    simp [h, pairs]
  rw [e1]
  have e2 : ∀ L : Option Nat, (L = if o.last = none ∧ s.ends = true ∧ (o.due : Int) ≤ p + s.data.length ∧ p + s.data.length ≤ (o.due + o.window : Nat) then some (p + s.data.length).toNat else o.last) →
      (toPy { E with other := some { o with ahead := o.ahead ++ Ty.kept o p s.data } }).ends s.ends (o.due : Int) ((o.due : Int) + (o.window : Int)) (p + (s.data.length : Int)) = toPy { E with other := some { o with ahead := o.ahead ++ Ty.kept o p s.data, last := L } } := by
    intro L hL
    unfold Py.ends
    have et : (toPy { E with other := some { o with ahead := o.ahead ++ Ty.kept o p s.data } }).their_end = o.last.map fun (x : Nat) => (x : Int) := rfl
    rw [et]
    by_cases q : o.last = none ∧ s.ends = true ∧ (o.due : Int) ≤ p + s.data.length ∧ p + s.data.length ≤ (o.due + o.window : Nat)
    · rw [if_pos q] at hL
      obtain ⟨q1, q2, q3, q4⟩ := q
      rw [if_pos (by rw [q1, q2]; simp; omega), hL]
      unfold toPy
      simp
      omega
    · rw [if_neg q] at hL
      rw [if_neg (by
        intro z
        apply q
        simp at z
        refine ⟨z.2.1, z.1, z.2.2.1, ?_⟩
        have := z.2.2.2
        omega), hL]
  rw [e2 _ rfl]
  unfold Py.brought
  have e3 : (toPy { E with other := some { o with ahead := o.ahead ++ Ty.kept o p s.data, last := if o.last = none ∧ s.ends = true ∧ (o.due : Int) ≤ p + s.data.length ∧ p + s.data.length ≤ (o.due + o.window : Nat) then some (p + s.data.length).toNat else o.last } }).ahead.length = o.ahead.length + (Ty.kept o p s.data).length := by
    show (pairs (o.ahead ++ Ty.kept o p s.data)).length = _
    simp [pairs]
  have e5 : ∀ (f : Nat) (ah : List (Nat × Nat)) (L : Option Nat), bring f (toPy { E with other := some { o with ahead := ah, last := L } }) = toPy { E with other := some (settled f { o with ahead := ah, last := L }) } := fun f ah L => bring_settled E f { o with ahead := ah, last := L } go.rd
  rw [e3, e5]
  unfold Py.owe
  have e4 : (s.begins || (s.ends || decide (0 < s.data.length))) = (s.begins || (s.ends || s.data != [])) := by
    congr 2
    cases s.data <;> simp
  rw [e4]
  cases (s.begins || (s.ends || s.data != [])) with
  | true => simp [toPy]
  | false => simp
theorem ans_eq {E : End} (g : Good E) {xs : List Int} {s : Segment} (hs : SegIs xs s) : (toPy E).ans xs = (match E.answered s with | none => (toPy { E with owes := true }, false) | some F => (toPy F, true)) := by
  have hf := g.f
  unfold Py.ans End.answered
  have e1 : nearI (numAt xs 4 4 - (toPy E).first) (toPy E).acked = nearest E.acked ((s.wanted + ROUND - E.first % ROUND) % ROUND) := by
    rw [hs.wanted]
    exact near_eq _ _ _ (by unfold ROUND at hf; omega)
  simp only [e1]
  generalize nearest E.acked ((s.wanted + ROUND - E.first % ROUND) % ROUND) = z
  have es : (toPy E).sent = E.sent := rfl
  have ea : (toPy E).acked = E.acked := rfl
  rw [es, ea]
  have h1 := g.an
  have h2 := g.ns
  by_cases q1 : z < E.acked
  · rw [if_neg (by omega), if_pos q1, if_pos q1]
  · by_cases q2 : (E.sent : Int) < z
    · rw [if_pos q2, if_neg q1, if_pos (by omega)]
      rfl
    · have q4 : ¬ E.sent < z.toNat := by omega
      rw [if_neg q2, if_neg q1, if_neg q1, if_neg q4]
      simp only
      unfold toPy
      simp only [hs.window]
      have e3 : ((E.acked : Int) < z) = (E.acked < z.toNat) := by
        apply propext
        omega
      simp only [e3]
      refine Prod.ext ?_ rfl
      simp only
      by_cases q3 : E.acked < z.toNat
      · simp [q3]
        omega
      · simp [q3]
        omega
theorem early_none {E : End} (h : E.other = none) (g : Good E) {xs : List Int} {s : Segment} (hs : SegIs xs s) : (toPy E).early xs = (!s.begins && !decide (s.breaks = true ∧ s.answers = true ∧ s.wanted = (E.first + 1) % ROUND ∧ 0 < E.sent)) := by
  unfold Py.early
  rw [begun_none h, hs.begins, hs.breaks, hs.answers, hs.wanted]
  have es : (toPy E).sent = E.sent := rfl
  have ef : (toPy E).first = E.first := rfl
  rw [es, ef]
  cases s.begins with
  | true => rfl
  | false =>
    simp only [Bool.or_self, Bool.false_eq_true, if_false, Bool.not_false, Bool.true_and]
    cases s.breaks <;> cases s.answers <;> simp [ROUND]
    rw [Bool.eq_iff_iff]
    simp
    omega
theorem early_some {E : End} {o : Other} (h : E.other = some o) (xs : List Int) : (toPy E).early xs = false := by
  unfold Py.early
  rw [begun_some h]
  rfl
/-- a segment that is neither too early nor breaks -/
theorem comes_rest {E : End} {s : Segment} (q : ¬ E.broken = true) (c : ¬ (E.other.isNone = true ∧ s.begins = false)) (nb : ¬ s.breaks = true) (o : Other) (ho : E.other.getD ⟨s.place, [], [], none, 0⟩ = o) :
    E.comes s = (match (if s.answers = true then ({ E with other := some o } : End).answered s else some { E with other := some o }) with
      | none => (true, { E with other := some o, owes := true })
      | some g => (true, { g with other := some (o.takes (nearest o.wanted ((s.place + ROUND - o.first % ROUND) % ROUND) + (s.begins.toNat : Int)) s.data s.ends), owes := g.owes || (s.begins || (s.ends || s.data != [])) })) := by
  unfold End.comes
  rw [if_neg q, if_neg c, if_neg nb]
  simp only [ho]
  rfl
theorem rest_eq {E : End} {o : Other} (h : E.other = some o) (g : Good E) {b : List Int} {s : Segment} (hs : SegIs b s) :
    (if s.answers = true then (if ((toPy E).ans b).2 = true then (((toPy E).ans b).1.data b, [1]) else (((toPy E).ans b).1, [1])) else ((toPy E).data b, [1])) =
    (match (if s.answers = true then E.answered s else some E) with
      | none => (toPy { E with owes := true }, [(1 : Int)])
      | some g => (toPy { g with other := some (o.takes (nearest o.wanted ((s.place + ROUND - o.first % ROUND) % ROUND) + (s.begins.toNat : Int)) s.data s.ends), owes := g.owes || (s.begins || (s.ends || s.data != [])) }, [1])) := by
  by_cases q3 : s.answers = true
  · rw [if_pos q3, if_pos q3, ans_eq g hs]
    cases q4 : E.answered s with
    | none => rfl
    | some F =>
      have hF := Ty.good_answered g hs.good (by rw [h]; simp) q4
      rw [h] at hF
      show (Py.data (toPy F) b, _) = _
      rw [data_eq hF.2.1 (hF.1.ot _ hF.2.1) hs]
  · rw [if_neg q3, if_neg q3, data_eq h (g.ot o h) hs]
theorem in_comes {E : End} (g : Good E) {b : List Int} {s : Segment} (h1 : isRight b = true) (hs : SegIs b s) : (toPy E).inn b = (toPy (E.comes s).2, [if (E.comes s).1 = true then 1 else 0]) := by
  unfold Py.inn
  have eb : (toPy E).broken = E.broken := rfl
  rw [eb, h1]
  simp only [Bool.not_true, Bool.false_or]
  by_cases q : E.broken = true
  · have hc : E.comes s = (false, E) := by
      unfold End.comes
      rw [if_pos q]
    rw [hc, q]
    rfl
  have qf : E.broken = false := by simpa using q
  cases h : E.other with
  | none =>
    by_cases q1 : s.begins = true
    · have c : ¬ (E.other.isNone = true ∧ s.begins = false) := fun z => by rw [q1] at z; exact absurd z.2 (by decide)
      rw [early_none h g hs, qf, q1]
      simp only [Bool.not_true, Bool.false_and, Bool.or_self, Bool.false_eq_true, if_false]
      rw [hs.breaks, hs.answers]
      by_cases q2 : s.breaks = true
      · have hc : E.comes s = (true, { E with broken := true }) := by
          unfold End.comes
          rw [if_neg q, if_neg c, if_pos q2, h]
        rw [hc, if_pos q2]
        unfold Py.brk
        rw [begun_none h]
        rfl
      · rw [if_neg q2]
        have e1 : (toPy E).begin b = toPy { E with other := some ⟨s.place, [], [], none, 0⟩ } := by
          unfold Py.begin
          rw [begun_none h, hs.place]
          simp only [Bool.false_eq_true, if_false]
          unfold toPy
          simp [h, nI, pairs]
        have hpl := hs.good
        have gF : Good { E with other := some ⟨s.place, [], [], none, 0⟩ } := ⟨g.f, g.bt, g.an, g.ns, g.sl, g.hl, g.th, g.pt, g.wt, (fun o ho => by
          cases ho
          exact ⟨hpl.pl, fun x hx => (by cases hx), fun x hx => (by cases hx), Nat.le_refl _, Nat.zero_le _, fun x hx => (by cases hx), List.nodup_nil⟩), fun z => by cases z⟩
        rw [e1, rest_eq (E := { E with other := some ⟨s.place, [], [], none, 0⟩ }) rfl gF hs, comes_rest q c q2 ⟨s.place, [], [], none, 0⟩ (by rw [h]; rfl)]
        generalize (if s.answers = true then ({ E with other := some ⟨s.place, [], [], none, 0⟩ } : End).answered s else some { E with other := some ⟨s.place, [], [], none, 0⟩ }) = z
        cases z <;> rfl
    · have q1f : s.begins = false := by simpa using q1
      rw [early_none h g hs, qf, q1f]
      simp only [Bool.not_false, Bool.true_and, Bool.false_or]
      by_cases q2 : s.breaks = true ∧ s.answers = true ∧ s.wanted = (E.first + 1) % ROUND ∧ 0 < E.sent
      · have hc : E.comes s = (true, { E with broken := true }) := by
          unfold End.comes
          rw [if_neg q, if_pos ⟨by rw [h]; rfl, q1f⟩, if_pos q2]
        rw [hc, decide_eq_true q2, hs.breaks]
        simp only [Bool.not_true, Bool.false_eq_true, if_false]
        rw [if_pos q2.1]
        unfold Py.brk
        rw [begun_none h]
        rfl
      · have hc : E.comes s = (false, E) := by
          unfold End.comes
          rw [if_neg q, if_pos ⟨by rw [h]; rfl, q1f⟩, if_neg q2]
        rw [hc, decide_eq_false q2]
        rfl
  | some o =>
    have go := g.ot o h
    have c : ¬ (E.other.isNone = true ∧ s.begins = false) := fun z => by rw [h] at z; exact absurd z.1 (by simp)
    rw [early_some h, qf, hs.breaks, hs.answers]
    simp only [Bool.or_self, Bool.false_eq_true, if_false]
    by_cases q2 : s.breaks = true
    · have hc : E.comes s = (true, { E with broken := E.broken || s.place == (o.first + o.wanted) % ROUND }) := by
        unfold End.comes
        rw [if_neg q, if_neg c, if_pos q2, h]
      rw [hc, if_pos q2]
      unfold Py.brk
      rw [begun_some h, hs.place, wplace_some h, qf]
      simp only [Bool.not_true, Bool.false_or]
      by_cases q3 : s.place = (o.first + o.wanted) % ROUND
      · rw [decide_eq_true (by omega), show (s.place == (o.first + o.wanted) % ROUND) = true by simpa using q3]
        rfl
      · rw [decide_eq_false (by omega), show (s.place == (o.first + o.wanted) % ROUND) = false by simpa using q3]
        have e9 : ({ E with broken := false } : End) = E := by
          cases E
          simp only at qf
          rw [qf]
        rw [e9]
        rfl
    · rw [if_neg q2]
      have e1 : (toPy E).begin b = toPy E := by
        unfold Py.begin
        rw [begun_some h]
        rfl
      have e2 : ({ E with other := some o } : End) = E := by
        cases E
        simp only at h
        rw [h]
      have hc := comes_rest q c q2 o (by rw [h]; rfl)
      rw [e2] at hc
      rw [e1, rest_eq h g hs, hc]
      generalize (if s.answers = true then E.answered s else some E) = z
      cases z with
      | none =>
        show (toPy { E with owes := true }, [(1 : Int)]) = (toPy { E with other := some o, owes := true }, [1])
        rw [← h]
      | some F => rfl
theorem in_eq {E : End} (g : Good E) {b : List Int} (hb : Byt b) (hl : b.length ≤ 30000) : (toPy E).inn b = (match worked (some E) (.in_ (b.map Int.toNat) b.length) with | (some F, y) => (toPy F, ansOf y) | (none, y) => (toPy E, ansOf y)) := by
  have hw : within (b.length : Int) 0 65535 = true := by simp [within]; omega
  unfold worked
  simp only [hw, Bool.true_eq_false, if_false]
  rcases read_is hb (by omega) with ⟨h1, h2⟩ | ⟨h1, s, h2, hs⟩
  · rw [h2]
    unfold Py.inn
    rw [h1]
    simp
    rfl
  · rw [h2, in_comes g h1 hs]
    rfl
end Pr
/-! A segment that goes; all calls together. -/
namespace Pr
open Ty (Cl Ok spec one flat W32 Byt BytN Good GoodO GoodS GoodM)
open Sw23
theorem rowOf4 (z : Int) : rowOf z 4 = [z / 256 / 256 / 256 % 256, z / 256 / 256 % 256, z / 256 % 256, z % 256] := rfl
theorem rowOf2 (z : Int) : rowOf z 2 = [z / 256 % 256, z % 256] := rfl
theorem row_nat (z : Int) (p : Nat) (h : (p : Int) = z % 4294967296) : rowOf z 4 = nI [p / 16777216 % 256, p / 65536 % 256, p / 256 % 256, p % 256] := by
  rw [rowOf4]
  have e1 : z / 256 / 256 / 256 % 256 = ((p / 16777216 % 256 : Nat) : Int) := by omega
  have e2 : z / 256 / 256 % 256 = ((p / 65536 % 256 : Nat) : Int) := by omega
  have e3 : z / 256 % 256 = ((p / 256 % 256 : Nat) : Int) := by omega
  have e4 : z % 256 = ((p % 256 : Nat) : Int) := by omega
  rw [e1, e2, e3, e4]
  rfl
theorem row_nat2 (p : Nat) : rowOf (p : Int) 2 = nI [p / 256 % 256, p % 256] := by
  rw [rowOf2]
  have e3 : (p : Int) / 256 % 256 = ((p / 256 % 256 : Nat) : Int) := by omega
  have e4 : (p : Int) % 256 = ((p % 256 : Nat) : Int) := by omega
  rw [e3, e4]
  rfl
/-- the segment that goes -/
def segOf (E : End) (b f : Bool) (d : List Nat) : Segment := { E.plain E.next with begins := b, ends := f, data := d }
theorem seg_eq {E : End} (g : Good E) (b f : Bool) (d : List Nat) (mark : Int) (hm : mark = (b.toNat : Int) + 2 * (f.toNat : Int)) : (toPy E).seg mark (nI d) = nI (body (segOf E b f d) 0) := by
  have hf := g.f
  rw [Ty.body_eq, ints_app]
  unfold Py.seg segOf
  have ef : (toPy E).first = E.first := rfl
  have en : (toPy E).next_number = E.next := rfl
  rw [ef, en]
  cases h : E.other with
  | none =>
    rw [begun_none h, window_none h]
    simp only [Bool.false_eq_true, if_false]
    have e1 : E.plain E.next = ⟨(E.first + E.next) % ROUND, 0, false, false, false, false, 8192, []⟩ := by
      unfold End.plain
      rw [h]
    rw [e1, row_nat _ ((E.first + E.next) % ROUND) (by unfold ROUND; omega), row_nat 0 0 (by omega), show rowOf 8192 2 = _ from row_nat2 8192]
    unfold flags
    rw [hm]
    cases b <;> cases f <;> simp [nI]
  | some o =>
    have go := g.ot o h
    rw [begun_some h, window_some h go, wplace_some h]
    simp only [if_true]
    have e1 : E.plain E.next = ⟨(E.first + E.next) % ROUND, (o.first + o.wanted) % ROUND, false, false, true, false, o.window, []⟩ := by
      unfold End.plain
      rw [h]
    rw [e1, row_nat _ ((E.first + E.next) % ROUND) (by unfold ROUND; omega), row_nat _ ((o.first + o.wanted) % ROUND) (by unfold ROUND; omega), row_nat2]
    unfold flags
    rw [hm]
    cases b <;> cases f <;> simp [nI]
theorem sent_eq {E : End} (b f : Bool) (d : List Nat) (mark : Int) (hm : mark = (b.toNat : Int) + 2 * (f.toNat : Int)) (hbf : b = false ∨ f = false) :
    (toPy E).sentNow mark (nI d) = toPy { E.said (segOf E b f d) with next := E.next + d.length + b.toNat + f.toNat, sent := max E.sent (E.next + d.length + b.toNat + f.toNat), probe := if f = true ∨ 0 < d.length then false else E.probe } := by
  unfold Py.sentNow
  simp only [ints_len]
  have e0 : (E.said (segOf E b f d)) = { E with owes := E.owes && !E.other.isSome } := by
    unfold End.said segOf End.plain
    cases E.other <;> rfl
  rw [e0, begun_eq]
  unfold toPy
  simp only
  have e1 : (if mark = 0 then (0 : Int) else 1) = (b.toNat : Int) + f.toNat := by
    rw [hm]
    rcases hbf with z | z <;> rw [z]
    · cases f <;> simp
    · cases b <;> simp
  have e2 : (decide (mark = 2) || decide (0 < (d.length : Int))) = decide (f = true ∨ 0 < d.length) := by
    rw [hm, Bool.eq_iff_iff]
    rcases hbf with z | z <;> rw [z]
    · cases f <;> simp
    · cases b <;> simp
  rw [e1]
  congr 1
  · omega
  · omega
  · cases E.other.isSome <;> simp
  · have e3 : (decide (mark = 2) || decide (0 < d.length)) = decide (f = true ∨ 0 < d.length) := by
      rw [← e2]
      congr 2
      apply propext
      omega
    rw [e3]
    simp
theorem send_eq {E : End} (g : Good E) (b f : Bool) (d : List Nat) (mark : Int) (hm : mark = (b.toNat : Int) + 2 * (f.toNat : Int)) (hbf : b = false ∨ f = false) :
    (toPy E).send mark (nI d) = (toPy { E.said (segOf E b f d) with next := E.next + d.length + b.toNat + f.toNat, sent := max E.sent (E.next + d.length + b.toNat + f.toNat), probe := if f = true ∨ 0 < d.length then false else E.probe },
      ansOf ⟨((body (segOf E b f d) 0).length : Nat), told (segOf E b f d)⟩) := by
  unfold Py.send
  rw [seg_eq g b f d mark hm, sent_eq b f d mark hm hbf]
  unfold ansOf told
  rw [ints_app, ints_len]
  rfl
theorem due_eq {E : End} (g : Good E) {m : Int} (hm : within m 14 65535 = true) (n : Nat) (hn : n = if 1 ≤ E.acked then E.some_ m.toNat else 0) : (toPy E).due (m - 14) = nI ((E.bytes.drop (E.next - 1)).take n) ∧ ((E.bytes.drop (E.next - 1)).take n).length = n := by
  have h1 := g.an
  simp [within] at hm
  unfold Py.due
  have ea : (toPy E).acked = E.acked := rfl
  rw [ea]
  by_cases q : E.acked = 0
  · rw [if_neg (by omega)] at hn
    rw [if_pos (by omega), hn]
    exact ⟨rfl, rfl⟩
  · rw [if_pos (by omega)] at hn
    rw [if_neg (by omega)]
    have hle : n ≤ E.bytes.length - (E.next - 1) := by
      rw [hn]
      unfold End.some_
      omega
    refine ⟨?_, by rw [List.length_take, List.length_drop]; omega⟩
    rw [ints_take, ints_drop]
    show (List.drop ((E.next : Int) - 1).toNat (nI E.bytes)).take _ = _
    rw [show ((E.next : Int) - 1).toNat = E.next - 1 by omega, List.take_eq_take_min, List.length_drop, ints_len]
    congr 1
    rw [hn]
    unfold End.some_ toPy
    simp only
    have ep : (if (E.theirs : Int) = 0 ∧ E.probe = true then (1 : Int) else 0) = ((if E.theirs = 0 ∧ E.probe = true then 1 else 0 : Nat) : Int) := by
      by_cases z : E.theirs = 0 ∧ E.probe = true
      · rw [if_pos z, if_pos ⟨by omega, z.2⟩]
        rfl
      · rw [if_neg z, if_neg (fun k => z ⟨by omega, k.2⟩)]
        rfl
    rw [ep]
    generalize (if E.theirs = 0 ∧ E.probe = true then 1 else 0 : Nat) = u
    omega
theorem out_eq {E : End} (g : Good E) {m : Int} (hm : within m 14 65535 = true) : (toPy E).out m = (match worked (some E) (.out m) with | (some F, y) => (toPy F, ansOf y) | (none, y) => (toPy E, ansOf y)) := by
  unfold worked
  simp only [hm, Bool.true_eq_false, if_false]
  unfold Py.out
  have h1 := g.an
  have h2 := g.ns
  have eb : (toPy E).broken = E.broken := rfl
  have en : (toPy E).next_number = E.next := rfl
  have ec : (toPy E).calling = E.calls := rfl
  have ea : (toPy E).acked = E.acked := rfl
  have ed : (toPy E).closed = E.closed := rfl
  have eo : (toPy E).owes = E.owes := rfl
  rw [eb]
  by_cases q : E.broken = true
  · have hg : E.goes m.toNat = none := by
      unfold End.goes
      rw [if_pos q]
    rw [if_pos q, hg]
    rfl
  rw [if_neg q]
  unfold Py.begDue
  rw [en, ec, begun_eq]
  by_cases q0 : E.next = 0
  · by_cases q1 : E.calls = true ∨ E.other.isSome = true
    · have hg : E.goes m.toNat = some (segOf E true false [], { E.said (segOf E true false []) with next := 1, sent := max E.sent 1 }) := by
        unfold End.goes
        rw [if_neg q, if_pos q0, if_pos q1]
        unfold segOf
        rw [q0]
        unfold End.plain
        cases E.other <;> rfl
      rw [if_pos (by rw [decide_eq_true (by omega)]; simpa using q1), hg]
      have e1 := send_eq g true false [] 1 rfl (.inr rfl)
      simp only [List.length_nil, Bool.toNat_true, Bool.toNat_false, q0, Nat.lt_irrefl, or_false, Bool.false_eq_true, if_false, Nat.add_zero, Nat.zero_add] at e1
      rw [show ([] : List Int) = nI [] from rfl, e1]
      rfl
    · have hg : E.goes m.toNat = none := by
        unfold End.goes
        rw [if_neg q, if_pos q0, if_neg q1]
      have q2 : E.other.isSome = false := by
        cases z : E.other.isSome with
        | false => rfl
        | true => exact absurd (.inr z) q1
      have q3 : E.calls = false := by
        cases z : E.calls with
        | false => rfl
        | true => exact absurd (.inl z) q1
      have e0 : (toPy E).due (m - 14) = [] := by
        unfold Py.due
        rw [if_pos (by rw [ea]; omega)]
      rw [q2, q3, e0, hg]
      unfold Py.endDue Py.ansDue
      rw [ea, begun_eq, q2, decide_eq_false (p := 0 < (E.acked : Int)) (by omega)]
      simp
      rfl
  · rw [decide_eq_false (p := (E.next : Int) = 0) (by omega)]
    simp only [Bool.false_and, Bool.false_eq_true, if_false]
    generalize hn : (if 1 ≤ E.acked then E.some_ m.toNat else 0) = n
    obtain ⟨d1, d2⟩ := due_eq g hm n hn.symm
    rw [d1, ints_len]
    generalize hd : (E.bytes.drop (E.next - 1)).take n = d at d2
    unfold Py.endDue
    rw [ea, ed, en, endn_eq]
    have ef : (decide (0 < (E.acked : Int)) && (E.closed && decide ((E.next : Int) + (d.length : Int) = (E.last : Int)))) = (decide (1 ≤ E.acked) && (E.closed && E.next + n == E.last)) := by
      rw [d2]
      congr 1
      · rw [decide_eq_decide]
        omega
      · congr 1
        rw [Bool.eq_iff_iff]
        simp
        omega
    rw [ef]
    generalize hfin : (decide (1 ≤ E.acked) && (E.closed && E.next + n == E.last)) = fin
    have hgoes : E.goes m.toNat = if 0 < n ∨ fin = true then some (segOf E false fin d, { E.said (segOf E false fin d) with next := E.next + n + fin.toNat, sent := max E.sent (E.next + n + fin.toNat), probe := false })
        else if E.owes = true ∧ E.other.isSome = true then some (E.plain E.next, E.said (E.plain E.next)) else none := by
      unfold End.goes
      rw [if_neg q, if_neg q0]
      simp only [hn, hfin, hd]
      have e7 : ({ E.plain E.next with data := d, ends := fin } : Segment) = segOf E false fin d := by
        unfold segOf End.plain
        cases E.other <;> rfl
      rw [e7]
    rw [hgoes]
    cases fin with
    | true =>
      simp only [if_true, or_true]
      rw [send_eq g false true d 2 rfl (.inl rfl)]
      simp only [d2, Bool.toNat_true, Bool.toNat_false, Nat.add_zero, true_or, if_true]
    | false =>
      simp only [Bool.false_eq_true, if_false, or_false]
      unfold Py.ansDue
      rw [eo, begun_eq]
      by_cases qn : 0 < n
      · rw [if_pos qn, if_pos (by rw [d2, decide_eq_true qn]; rfl), send_eq g false false d 0 rfl (.inl rfl)]
        simp only [d2, Bool.toNat_false, Nat.add_zero, Bool.false_eq_true, false_or, qn, if_true]
      · have hdn : d = [] := List.length_eq_zero_iff.mp (by omega)
        rw [if_neg qn]
        by_cases qo : E.owes = true ∧ E.other.isSome = true
        · rw [if_pos qo, if_pos (by rw [qo.1, qo.2]; simp), hdn, send_eq g false false [] 0 rfl (.inl rfl)]
          have e8 : segOf E false false [] = E.plain E.next := by
            unfold segOf End.plain
            cases E.other <;> rfl
          rw [e8]
          simp only [List.length_nil, Bool.toNat_false, Nat.add_zero, Bool.false_eq_true, false_or, Nat.lt_irrefl, if_false]
          rw [Nat.max_eq_left h2]
          rfl
        · rw [if_neg qo, if_neg (by
            rw [d2]
            intro z
            simp at z
            rcases z with z | z
            · exact qn z
            · exact qo z)]
          rfl
/-! ### all calls -/
theorem step_eq {E : End} (g : Good E) {c : Cl} (hok : Ok c) (hl : (flat c).length ≤ 30000) (hr : rangeOk c = true) (hno : ∀ f z, c ≠ .opn f z) : ∃ F y, worked (some E) (spec c) = (some F, y) ∧ (toPy E).step c = (toPy F, ansOf y) := by
  have fin : ∀ (x : Py × List Int) (k : Sw23.Call), (∃ F, (worked (some E) k).1 = some F) → x = (match worked (some E) k with | (some F, y) => (toPy F, ansOf y) | (none, y) => (toPy E, ansOf y)) → ∃ F y, worked (some E) k = (some F, y) ∧ x = (toPy F, ansOf y) := by
    intro x k ⟨F, hF⟩ hx
    cases hk : worked (some E) k with
    | mk a y =>
      rw [hk] at hF
      simp only at hF
      subst hF
      rw [hk] at hx
      exact ⟨F, y, rfl, hx⟩
  have one : ∀ k : Sw23.Call, ∃ F, (worked (some E) k).1 = some F := by
    intro k
    unfold worked
    cases k <;> simp only <;> (repeat' split) <;> exact ⟨_, rfl⟩
  cases c with
  | opn f z => exact absurd rfl (hno f z)
  | wr b =>
    have : b.length ≤ 30000 := by simp [flat] at hl; omega
    exact fin _ _ (one _) (write_eq g hok this)
  | cls => exact fin _ _ (one _) close_eq
  | rd n => exact fin _ _ (one _) (read_eq g hr)
  | inn b =>
    have : b.length ≤ 30000 := by simp [flat] at hl; omega
    exact fin _ _ (one _) (in_eq g hok this)
  | out n => exact fin _ _ (one _) (out_eq g hr)
  | tick n => exact fin _ _ (one _) (tick_eq g hr)
  | state => exact fin _ _ (one _) (state_eq g)
/-! ### how long the lists grow -/
theorem bring_len : ∀ (f : Nat) (e : Py), (bring f e).written = e.written ∧ (bring f e).came + (bring f e).ahead.length ≤ e.came + e.ahead.length
  | 0, _ => ⟨rfl, Int.le_refl _⟩
  | f + 1, e => by
    unfold bring
    cases q : e.ahead.find? fun x => x.1 == e.nio with
    | none => exact ⟨rfl, Int.le_refl _⟩
    | some x =>
      have ih := bring_len f { e with unread := e.unread ++ [x.2], ahead := e.ahead.filter (fun y => y.1 != e.nio), came := e.came + 1 }
      refine ⟨ih.1, Int.le_trans ih.2 ?_⟩
      have hx : x.1 = e.nio := by simpa using List.find?_some q
      have hm := List.mem_of_find?_eq_some q
      have : (e.ahead.filter (fun y => y.1 != e.nio)).length < e.ahead.length := List.length_filter_lt_length_iff_exists.mpr ⟨x, hm, by simp [hx]⟩
      simp only
      omega
theorem data_len (e : Py) (xs : List Int) : (e.data xs).written = e.written ∧ (e.data xs).came + (e.data xs).ahead.length ≤ e.came + e.ahead.length + xs.length := by
  unfold Py.data
  simp only
  have ho : ∀ (x : Py) (b : Bool), (x.owe b).written = x.written ∧ (x.owe b).came + (x.owe b).ahead.length = x.came + x.ahead.length := fun x b => by
    unfold Py.owe
    split <;> exact ⟨rfl, rfl⟩
  have he : ∀ (x : Py) (b : Bool) (p q r : Int), (x.ends b p q r).written = x.written ∧ (x.ends b p q r).came + (x.ends b p q r).ahead.length = x.came + x.ahead.length := fun x b p q r => by
    unfold Py.ends
    split <;> exact ⟨rfl, rfl⟩
  have hk : ∀ (n : Int) (d : List Int), (e.keep n d).written = e.written ∧ (e.keep n d).came + (e.keep n d).ahead.length ≤ e.came + e.ahead.length + d.length := fun n d => by
    refine ⟨rfl, ?_⟩
    show e.came + ((e.ahead ++ keptI _ _ _ _ _).length : Int) ≤ _
    rw [List.length_append]
    have : (keptI e.ahead e.nio (e.nio + e.window) n d).length ≤ ((List.range d.length).zip d).length := List.length_filterMap_le _ _
    rw [List.length_zip, List.length_range, Nat.min_self] at this
    omega
  rw [(ho _ _).1, (ho _ _).2]
  have hb := fun x : Py => bring_len (x.ahead.length + 1) x
  unfold Py.brought
  rw [(hb _).1, (he _ _ _ _ _).1]
  refine ⟨(hk _ _).1, Int.le_trans (hb _).2 ?_⟩
  rw [(he _ _ _ _ _).2]
  refine Int.le_trans (hk _ _).2 ?_
  rw [List.length_drop]
  omega
theorem step_len (e : Py) (c : Cl) : (e.step c).1.written.length ≤ e.written.length + (flat c).length ∧ (e.step c).1.came + (e.step c).1.ahead.length ≤ e.came + e.ahead.length + (flat c).length := by
  cases c with
  | opn f z => exact ⟨Nat.le_add_right _ _, Int.le_add_of_nonneg_right (Int.natCast_nonneg _)⟩
  | wr b =>
    show (e.write b).1.written.length ≤ _ ∧ (e.write b).1.came + (e.write b).1.ahead.length ≤ _
    unfold Py.write
    split
    · exact ⟨Nat.le_add_right _ _, Int.le_add_of_nonneg_right (Int.natCast_nonneg _)⟩
    · refine ⟨?_, Int.le_add_of_nonneg_right (Int.natCast_nonneg _)⟩
      simp [flat]
      omega
  | cls =>
    show (e.close).1.written.length ≤ _ ∧ (e.close).1.came + (e.close).1.ahead.length ≤ _
    unfold Py.close
    split <;> exact ⟨Nat.le_add_right _ _, Int.le_add_of_nonneg_right (Int.natCast_nonneg _)⟩
  | rd n =>
    show (e.read n).1.written.length ≤ _ ∧ (e.read n).1.came + (e.read n).1.ahead.length ≤ _
    unfold Py.read
    split
    · exact ⟨Nat.le_add_right _ _, Int.le_add_of_nonneg_right (Int.natCast_nonneg _)⟩
    · simp only
      split <;> exact ⟨Nat.le_add_right _ _, Int.le_add_of_nonneg_right (Int.natCast_nonneg _)⟩
  | inn b =>
    show (e.inn b).1.written.length ≤ _ ∧ (e.inn b).1.came + (e.inn b).1.ahead.length ≤ _
    have hl : (flat (.inn b)).length = b.length + 2 := by simp [flat]
    rw [hl]
    have hbg : (e.begin b).written = e.written ∧ (e.begin b).came + (e.begin b).ahead.length = e.came + e.ahead.length := by
      unfold Py.begin
      split <;> exact ⟨rfl, rfl⟩
    have han : ((e.begin b).ans b).1.written = e.written ∧ ((e.begin b).ans b).1.came + ((e.begin b).ans b).1.ahead.length = e.came + e.ahead.length := by
      unfold Py.ans
      simp only
      split
      · exact hbg
      · split <;> exact hbg
    unfold Py.inn
    split
    · exact ⟨Nat.le_add_right _ _, Int.le_add_of_nonneg_right (Int.natCast_nonneg _)⟩
    split
    · have hk : (e.brk b).written = e.written ∧ (e.brk b).came + (e.brk b).ahead.length = e.came + e.ahead.length := by
        unfold Py.brk
        split <;> exact ⟨rfl, rfl⟩
      rw [hk.1, hk.2]
      exact ⟨Nat.le_add_right _ _, Int.le_add_of_nonneg_right (Int.natCast_nonneg _)⟩
    split
    · split
      · have hd := data_len ((e.begin b).ans b).1 b
        rw [han.1, han.2] at hd
        simp only [hd.1]
        omega
      · simp only [han.1, han.2]
        omega
    · have hd := data_len (e.begin b) b
      rw [hbg.1, hbg.2] at hd
      simp only [hd.1]
      omega
  | out n =>
    show (e.out n).1.written.length ≤ _ ∧ (e.out n).1.came + (e.out n).1.ahead.length ≤ _
    unfold Py.out
    repeat' split
    all_goals exact ⟨Nat.le_add_right _ _, Int.le_add_of_nonneg_right (Int.natCast_nonneg _)⟩
  | tick n =>
    show (e.tick n).1.written.length ≤ _ ∧ (e.tick n).1.came + (e.tick n).1.ahead.length ≤ _
    unfold Py.tick
    simp only
    repeat' split
    all_goals exact ⟨Nat.le_add_right _ _, Int.le_add_of_nonneg_right (Int.natCast_nonneg _)⟩
  | state => exact ⟨Nat.le_add_right _ _, Int.le_add_of_nonneg_right (Int.natCast_nonneg _)⟩
/-- the object's values are the specification's -/
def Rel (n : Nat) (m : Option Py) (s : St) : Prop := m = s.map toPy ∧ GoodM s ∧ ∀ e, m = some e → e.written.length ≤ n ∧ e.came + e.ahead.length ≤ n
theorem unread_le {E : End} (g : Good E) : (toPy E).unread.length ≤ 8192 := by
  unfold toPy
  cases h : E.other with
  | none => exact Nat.zero_le _
  | some o =>
    have go := g.ot o h
    have := go.wn
    simp only [ints_len, List.length_drop]
    omega
theorem sim : Sim Rel where
  start := ⟨rfl, (fun _ h => nomatch h), fun _ h => nomatch h⟩
  pre := by
    intro n m s c e ⟨hm, hg, hb⟩ hok hl hr he
    have key : (∀ f z, c ≠ .opn f z) → ∃ E, s = some E ∧ e = toPy E ∧ Good E ∧ e.written.length ≤ n ∧ e.came + e.ahead.length ≤ n := by
      intro hno
      have e1 : now m c = m := by cases c <;> first | rfl | exact absurd rfl (hno _ _)
      rw [e1] at he
      have hb' := hb e he
      rw [he] at hm
      cases s with
      | none => cases hm
      | some E => exact ⟨E, rfl, Option.some.inj hm, hg E rfl, hb'⟩
    cases c with
    | opn f z => trivial
    | wr b =>
      obtain ⟨E, rfl, rfl, g, h1, h2⟩ := key (fun _ _ z => by cases z)
      refine ⟨?_, ?_⟩
      · rw [room_eq g]; omega
      · simp [flat] at hl; omega
    | cls => trivial
    | rd k =>
      obtain ⟨E, rfl, rfl, g, h1, h2⟩ := key (fun _ _ z => by cases z)
      have := unread_le g
      simp [rangeOk] at hr
      exact ⟨hr.1, by omega⟩
    | inn b =>
      obtain ⟨E, rfl, rfl, g, h1, h2⟩ := key (fun _ _ z => by cases z)
      have := unread_le g
      simp [flat] at hl
      have hc : 0 ≤ (toPy E).came := by
        unfold toPy
        cases E.other <;> simp
      exact ⟨hok, by omega, by omega, by omega, hc, by omega⟩
    | out k =>
      obtain ⟨E, rfl, rfl, g, h1, h2⟩ := key (fun _ _ z => by cases z)
      simp [rangeOk] at hr
      refine ⟨hr.1, fun z => ?_⟩
      have := g.an
      have z' : ¬ (E.acked : Int) = 0 := z
      show (1 : Int) ≤ (E.next : Int)
      omega
    | tick k =>
      obtain ⟨E, rfl, rfl, g, h1, h2⟩ := key (fun _ _ z => by cases z)
      have := g.pt
      exact ⟨show (0 : Int) ≤ (E.patience : Int) by omega, show (E.patience : Int) ≤ 60000 by omega⟩
    | state => trivial
  step := by
    intro n m s c ⟨hm, hg, hb⟩ hok hl hnow
    have gw : GoodM (worked s (spec c)).1 := Ty.good_worked hg hok
    by_cases hopn : ∃ f z, c = .opn f z
    · obtain ⟨f, z, rfl⟩ := hopn
      by_cases hr : rangeOk (.opn f z) = true
      · have e1 : worked s (spec (.opn f z)) = (some (opened f.toNat (z == 1)), says 0) := by
          have hr' : within z 0 1 = true := hr
          show (if within z 0 1 = true then _ else _) = _
          rw [if_pos hr']
        have e2 : run m (.opn f z) = (some (.made f (decide (z = 1))), [0]) := by
          unfold run
          rw [if_pos hr]
          rfl
        rw [e1] at gw
        rw [e1, e2]
        refine ⟨⟨?_, gw, ?_⟩, rfl⟩
        · have hf : 0 ≤ f := hok.1.1
          show some _ = some (toPy (opened f.toNat (z == 1)))
          unfold opened toPy Py.made
          simp [nI]
          refine ⟨by omega, ?_⟩
          rw [Bool.eq_iff_iff]
          simp
        · intro e he
          cases he
          exact ⟨Nat.zero_le _, show (0 : Int) + 0 ≤ _ by omega⟩
      · have e1 : worked s (spec (.opn f z)) = (s, says (-2)) := by
          have hr' : ¬ within z 0 1 = true := hr
          show (if within z 0 1 = true then _ else _) = _
          rw [if_neg hr']
        have e2 : run m (.opn f z) = (m, [-2]) := by
          unfold run
          rw [if_neg hr]
        rw [e1, e2]
        refine ⟨⟨hm, hg, fun e he => ?_⟩, rfl⟩
        have := hb e he
        omega
    · have hno : ∀ f z, c ≠ .opn f z := fun f z h => hopn ⟨f, z, h⟩
      have e0 : now m c = m := by cases c <;> first | rfl | exact absurd rfl (hno _ _)
      rw [e0] at hnow
      cases s with
      | none =>
        rw [hm] at hnow
        cases hnow
      | some E =>
        have g := hg E rfl
        by_cases hr : rangeOk c = true
        · obtain ⟨F, y, e1, e2⟩ := step_eq g hok (by omega) hr hno
          have e3 : run m c = (some (toPy F), ansOf y) := by
            unfold run
            rw [if_pos hr, e0, hm]
            show (some ((toPy E).step c).1, ((toPy E).step c).2) = _
            rw [e2]
          rw [e1] at gw
          rw [e1, e3]
          refine ⟨⟨rfl, gw, ?_⟩, one_ans y⟩
          intro e he
          have he' := Option.some.inj he
          subst he'
          have hs := step_len (toPy E) c
          rw [e2] at hs
          have := hb (toPy E) hm
          simp only at hs
          omega
        · have e1 : worked (some E) (spec c) = (some E, says (-2)) := by
            cases c with
            | opn f z => exact absurd rfl (hno f z)
            | wr b => exact absurd rfl hr
            | cls => exact absurd rfl hr
            | rd k =>
              have : within k 0 1000000 = false := by simpa [within, rangeOk] using hr
              show (if within k 0 1000000 = false then _ else _) = _
              rw [if_pos this]
            | inn b => exact absurd rfl hr
            | out k =>
              have : within k 14 65535 = false := by simpa [within, rangeOk] using hr
              show (if within k 14 65535 = false then _ else _) = _
              rw [if_pos this]
            | tick k =>
              have : within k 0 1000000 = false := by simpa [within, rangeOk] using hr
              show (if within k 0 1000000 = false then _ else _) = _
              rw [if_pos this]
            | state => exact absurd rfl hr
          have e2 : run m c = (m, [-2]) := by
            unfold run
            rw [if_neg hr]
          rw [e1, e2]
          refine ⟨⟨hm, hg, fun e he => ?_⟩, rfl⟩
          have := hb e he
          omega
end Pr
/-! What the loop over data keeps, turn by turn. -/
namespace Pr
def Z (data : List Int) : List (Nat × Int) := (List.range data.length).zip data
theorem Z_len (data : List Int) : (Z data).length = data.length := by simp [Z]
theorem Z_get {data : List Int} {j : Nat} {x : Int} (h : data[j]? = some x) : (Z data)[j]? = some (j, x) := by
  have hj := (List.getElem?_eq_some_iff.mp h).1
  unfold Z
  rw [List.getElem?_zip_eq_some]
  exact ⟨by rw [List.getElem?_range hj], h⟩
theorem Z_at {data : List Int} {j : Nat} {y : Nat × Int} (h : (Z data)[j]? = some y) : y.1 = j ∧ j < data.length := by
  unfold Z at h
  rw [List.getElem?_zip_eq_some] at h
  have h1 := h.1
  have hj := (List.getElem?_eq_some_iff.mp h.2).1
  rw [List.getElem?_range hj] at h1
  exact ⟨(Option.some.inj h1).symm, hj⟩
theorem Z_take {data : List Int} {j : Nat} {y : Nat × Int} (h : y ∈ (Z data).take j) : y.1 < j := by
  obtain ⟨i, hi⟩ := List.mem_iff_getElem?.mp h
  rw [List.getElem?_take] at hi
  split at hi
  · have := (Z_at hi).1
    omega
  · cases hi
theorem Z_drop {data : List Int} {j : Nat} {y : Nat × Int} (h : y ∈ (Z data).drop j) : j ≤ y.1 ∧ y.1 < data.length := by
  obtain ⟨i, hi⟩ := List.mem_iff_getElem?.mp h
  rw [List.getElem?_drop] at hi
  have := Z_at hi
  omega
/-- kept behind some items -/
def keptN (ah : List (Int × Int)) (lo hi n : Int) (data : List Int) (j : Nat) : List (Int × Int) := ((Z data).take j).filterMap (kept1 ah lo hi n)
theorem keptN_start (ah : List (Int × Int)) (lo hi n : Int) (data : List Int) (j : Nat) (h : n + j ≤ max lo n) : keptN ah lo hi n data j = [] := by
  unfold keptN
  rw [List.filterMap_eq_nil_iff]
  intro y hy
  have := Z_take hy
  unfold kept1
  rw [if_neg]
  intro z
  omega
theorem keptN_step (ah : List (Int × Int)) (lo hi n : Int) (data : List Int) (j : Nat) (x : Int) (h : data[j]? = some x) (h1 : lo ≤ n + j) (h2 : n + j < hi) :
    keptN ah lo hi n data (j + 1) = keptN ah lo hi n data j ++ (if (ah.any fun y => y.1 == n + j) = true then [] else [(n + (j : Int), x)]) := by
  unfold keptN
  rw [List.take_add_one, Z_get h, List.filterMap_append]
  congr 1
  show ([(j, x)] : List (Nat × Int)).filterMap _ = _
  rw [List.filterMap_cons]
  unfold kept1
  cases q : ah.any fun y => y.1 == n + (j : Int) with
  | true => simp
  | false => simp [h1, h2]
theorem keptN_keys (ah : List (Int × Int)) (lo hi n : Int) (data : List Int) (j : Nat) : ((keptN ah lo hi n data j).any fun y => y.1 == n + (j : Int)) = false := by
  rw [List.any_eq_false]
  intro y hy
  unfold keptN at hy
  obtain ⟨z, hz, e⟩ := List.mem_filterMap.mp hy
  have := Z_take hz
  unfold kept1 at e
  split at e
  · cases e
    simp
    omega
  · cases e
theorem keptN_end (ah : List (Int × Int)) (lo hi n : Int) (data : List Int) (j : Nat) (h : n + j ≥ min hi (n + data.length)) : keptN ah lo hi n data j = keptI ah lo hi n data := by
  have e : keptI ah lo hi n data = ((Z data).take j ++ (Z data).drop j).filterMap (kept1 ah lo hi n) := by rw [List.take_append_drop]; rfl
  rw [e, List.filterMap_append]
  have e2 : ((Z data).drop j).filterMap (kept1 ah lo hi n) = [] := by
    rw [List.filterMap_eq_nil_iff]
    intro y hy
    have := Z_drop hy
    unfold kept1
    rw [if_neg]
    intro z
    omega
  rw [e2, List.append_nil]
  rfl
theorem keptN_le (ah : List (Int × Int)) (lo hi n : Int) (data : List Int) (j : Nat) : (keptN ah lo hi n data j).length ≤ data.length := by
  unfold keptN
  refine Nat.le_trans (List.length_filterMap_le _ _) ?_
  rw [List.length_take, Z_len]
  omega
theorem nearI_bounds (x y : Int) : y - 2147483648 ≤ nearI x y ∧ nearI x y < y + 2147483648 := by
  unfold nearI
  split <;> omega
end Pr
set_option maxHeartbeats 4000000
namespace Pr
open PySem L2
theorem sc_is_right : FnScope ["segment"] ["segment"] (defScope s_is_right) := ⟨rfl, rfl, rfl, by decide +kernel, rfl, by decide +kernel, by decide +kernel⟩
theorem sc_sum_is_right : FnScope ["segment", "total", "at", "value"] ["segment"] (defScope s_sum_is_right) := ⟨rfl, rfl, rfl, by decide +kernel, rfl, by decide +kernel, by decide +kernel⟩
theorem sc_number_at : FnScope ["segment", "at", "length", "number", "value"] ["segment", "at", "length"] (defScope s_number_at) := ⟨rfl, rfl, rfl, by decide +kernel, rfl, by decide +kernel, by decide +kernel⟩
theorem sc_place_of : FnScope ["segment"] ["segment"] (defScope s_place_of) := ⟨rfl, rfl, rfl, by decide +kernel, rfl, by decide +kernel, by decide +kernel⟩
theorem sc_wanted_place_of : FnScope ["segment"] ["segment"] (defScope s_wanted_place_of) := ⟨rfl, rfl, rfl, by decide +kernel, rfl, by decide +kernel, by decide +kernel⟩
theorem sc_window_of : FnScope ["segment"] ["segment"] (defScope s_window_of) := ⟨rfl, rfl, rfl, by decide +kernel, rfl, by decide +kernel, by decide +kernel⟩
theorem sc_has_flag : FnScope ["segment", "flag"] ["segment", "flag"] (defScope s_has_flag) := ⟨rfl, rfl, rfl, by decide +kernel, rfl, by decide +kernel, by decide +kernel⟩
theorem sc_data_of : FnScope ["segment"] ["segment"] (defScope s_data_of) := ⟨rfl, rfl, rfl, by decide +kernel, rfl, by decide +kernel, by decide +kernel⟩
theorem sc_segment_without_sum : FnScope ["place", "wanted_place", "flags", "window", "data"] ["place", "wanted_place", "flags", "window", "data"] (defScope s_segment_without_sum) := ⟨rfl, rfl, rfl, by decide +kernel, rfl, by decide +kernel, by decide +kernel⟩
theorem sc_row_of : FnScope ["number", "length", "row", "count"] ["number", "length"] (defScope s_row_of) := ⟨rfl, rfl, rfl, by decide +kernel, rfl, by decide +kernel, by decide +kernel⟩
theorem sc_nearest : FnScope ["number", "near", "further"] ["number", "near"] (defScope s_nearest) := ⟨rfl, rfl, rfl, by decide +kernel, rfl, by decide +kernel, by decide +kernel⟩
theorem sc_End_init : FnScope ["self", "first", "calling"] ["self", "first", "calling"] (defScope s_End_init) := ⟨rfl, rfl, rfl, by decide +kernel, rfl, by decide +kernel, by decide +kernel⟩
theorem sc_End_room : FnScope ["self", "acked_bytes"] ["self"] (defScope s_End_room) := ⟨rfl, rfl, rfl, by decide +kernel, rfl, by decide +kernel, by decide +kernel⟩
theorem sc_End_end_number : FnScope ["self"] ["self"] (defScope s_End_end_number) := ⟨rfl, rfl, rfl, by decide +kernel, rfl, by decide +kernel, by decide +kernel⟩
theorem sc_End_other_has_begun : FnScope ["self"] ["self"] (defScope s_End_other_has_begun) := ⟨rfl, rfl, rfl, by decide +kernel, rfl, by decide +kernel, by decide +kernel⟩
theorem sc_End_next_in_order : FnScope ["self"] ["self"] (defScope s_End_next_in_order) := ⟨rfl, rfl, rfl, by decide +kernel, rfl, by decide +kernel, by decide +kernel⟩
theorem sc_End_window : FnScope ["self"] ["self"] (defScope s_End_window) := ⟨rfl, rfl, rfl, by decide +kernel, rfl, by decide +kernel, by decide +kernel⟩
theorem sc_End_whole : FnScope ["self"] ["self"] (defScope s_End_whole) := ⟨rfl, rfl, rfl, by decide +kernel, rfl, by decide +kernel, by decide +kernel⟩
theorem sc_End_wanted : FnScope ["self"] ["self"] (defScope s_End_wanted) := ⟨rfl, rfl, rfl, by decide +kernel, rfl, by decide +kernel, by decide +kernel⟩
theorem sc_End_write : FnScope ["self", "row", "taken"] ["self", "row"] (defScope s_End_write) := ⟨rfl, rfl, rfl, by decide +kernel, rfl, by decide +kernel, by decide +kernel⟩
theorem sc_End_close : FnScope ["self"] ["self"] (defScope s_End_close) := ⟨rfl, rfl, rfl, by decide +kernel, rfl, by decide +kernel, by decide +kernel⟩
theorem sc_End_read : FnScope ["self", "most", "was_small", "taken"] ["self", "most"] (defScope s_End_read) := ⟨rfl, rfl, rfl, by decide +kernel, rfl, by decide +kernel, by decide +kernel⟩
theorem sc_End_nothing_to_read : FnScope ["self"] ["self"] (defScope s_End_nothing_to_read) := ⟨rfl, rfl, rfl, by decide +kernel, rfl, by decide +kernel, by decide +kernel⟩
theorem sc_End_take_in : FnScope ["self", "segment"] ["self", "segment"] (defScope s_End_take_in) := ⟨rfl, rfl, rfl, by decide +kernel, rfl, by decide +kernel, by decide +kernel⟩
theorem sc_End_comes_too_early : FnScope ["self", "segment", "wants_number_1", "refuses"] ["self", "segment"] (defScope s_End_comes_too_early) := ⟨rfl, rfl, rfl, by decide +kernel, rfl, by decide +kernel, by decide +kernel⟩
theorem sc_End_take_break : FnScope ["self", "segment"] ["self", "segment"] (defScope s_End_take_break) := ⟨rfl, rfl, rfl, by decide +kernel, rfl, by decide +kernel, by decide +kernel⟩
theorem sc_End_wanted_place : FnScope ["self"] ["self"] (defScope s_End_wanted_place) := ⟨rfl, rfl, rfl, by decide +kernel, rfl, by decide +kernel, by decide +kernel⟩
theorem sc_End_take_answer : FnScope ["self", "segment", "answered"] ["self", "segment"] (defScope s_End_take_answer) := ⟨rfl, rfl, rfl, by decide +kernel, rfl, by decide +kernel, by decide +kernel⟩
theorem sc_End_take_data : FnScope ["self", "segment", "data", "number", "start", "stop", "k"] ["self", "segment"] (defScope s_End_take_data) := ⟨rfl, rfl, rfl, by decide +kernel, rfl, by decide +kernel, by decide +kernel⟩
theorem sc_End_number_of_data : FnScope ["self", "segment", "number"] ["self", "segment"] (defScope s_End_number_of_data) := ⟨rfl, rfl, rfl, by decide +kernel, rfl, by decide +kernel, by decide +kernel⟩
theorem sc_End_bring_in_order : FnScope ["self"] ["self"] (defScope s_End_bring_in_order) := ⟨rfl, rfl, rfl, by decide +kernel, rfl, by decide +kernel, by decide +kernel⟩
theorem sc_End_out : FnScope ["self", "most", "data"] ["self", "most"] (defScope s_End_out) := ⟨rfl, rfl, rfl, by decide +kernel, rfl, by decide +kernel, by decide +kernel⟩
theorem sc_End_beginning_is_due : FnScope ["self"] ["self"] (defScope s_End_beginning_is_due) := ⟨rfl, rfl, rfl, by decide +kernel, rfl, by decide +kernel, by decide +kernel⟩
theorem sc_End_data_due : FnScope ["self", "most", "stop", "place_left", "start"] ["self", "most"] (defScope s_End_data_due) := ⟨rfl, rfl, rfl, by decide +kernel, rfl, by decide +kernel, by decide +kernel⟩
theorem sc_End_end_is_due : FnScope ["self", "bytes_before"] ["self", "bytes_before"] (defScope s_End_end_is_due) := ⟨rfl, rfl, rfl, by decide +kernel, rfl, by decide +kernel, by decide +kernel⟩
theorem sc_End_answer_is_due : FnScope ["self"] ["self"] (defScope s_End_answer_is_due) := ⟨rfl, rfl, rfl, by decide +kernel, rfl, by decide +kernel, by decide +kernel⟩
theorem sc_End_send : FnScope ["self", "mark", "data", "flags", "wanted_place", "place", "segment"] ["self", "mark", "data"] (defScope s_End_send) := ⟨rfl, rfl, rfl, by decide +kernel, rfl, by decide +kernel, by decide +kernel⟩
theorem sc_End_tick : FnScope ["self", "passed"] ["self", "passed"] (defScope s_End_tick) := ⟨rfl, rfl, rfl, by decide +kernel, rfl, by decide +kernel, by decide +kernel⟩
theorem sc_End_waits : FnScope ["self", "shut_out"] ["self"] (defScope s_End_waits) := ⟨rfl, rfl, rfl, by decide +kernel, rfl, by decide +kernel, by decide +kernel⟩
theorem sc_End_state : FnScope ["self", "end_is_acked"] ["self"] (defScope s_End_state) := ⟨rfl, rfl, rfl, by decide +kernel, rfl, by decide +kernel, by decide +kernel⟩
theorem sc_answers : FnScope ["calls", "end", "told", "kind", "handed", "answer"] ["calls"] (defScope s_answers) := ⟨rfl, rfl, rfl, by decide +kernel, rfl, by decide +kernel, by decide +kernel⟩
theorem sc_split_calls : FnScope ["calls", "parts", "at", "kind", "start", "stop"] ["calls"] (defScope s_split_calls) := ⟨rfl, rfl, rfl, by decide +kernel, rfl, by decide +kernel, by decide +kernel⟩
theorem sc_how_many_numbers : FnScope ["kind"] ["kind"] (defScope s_how_many_numbers) := ⟨rfl, rfl, rfl, by decide +kernel, rfl, by decide +kernel, by decide +kernel⟩
theorem sc_in_range : FnScope ["kind", "handed"] ["kind", "handed"] (defScope s_in_range) := ⟨rfl, rfl, rfl, by decide +kernel, rfl, by decide +kernel, by decide +kernel⟩
theorem sc_answer_call : FnScope ["end", "kind", "handed"] ["end", "kind", "handed"] (defScope s_answer_call) := ⟨rfl, rfl, rfl, by decide +kernel, rfl, by decide +kernel, by decide +kernel⟩
structure Ad where
  C_End : Addr
  f_is_right : Addr
  fd_is_right : FuncData
  f_sum_is_right : Addr
  fd_sum_is_right : FuncData
  f_number_at : Addr
  fd_number_at : FuncData
  f_place_of : Addr
  fd_place_of : FuncData
  f_wanted_place_of : Addr
  fd_wanted_place_of : FuncData
  f_window_of : Addr
  fd_window_of : FuncData
  f_has_flag : Addr
  fd_has_flag : FuncData
  f_data_of : Addr
  fd_data_of : FuncData
  f_segment_without_sum : Addr
  fd_segment_without_sum : FuncData
  f_row_of : Addr
  fd_row_of : FuncData
  f_nearest : Addr
  fd_nearest : FuncData
  f_End_init : Addr
  fd_End_init : FuncData
  f_End_room : Addr
  fd_End_room : FuncData
  f_End_end_number : Addr
  fd_End_end_number : FuncData
  f_End_other_has_begun : Addr
  fd_End_other_has_begun : FuncData
  f_End_next_in_order : Addr
  fd_End_next_in_order : FuncData
  f_End_window : Addr
  fd_End_window : FuncData
  f_End_whole : Addr
  fd_End_whole : FuncData
  f_End_wanted : Addr
  fd_End_wanted : FuncData
  f_End_write : Addr
  fd_End_write : FuncData
  f_End_close : Addr
  fd_End_close : FuncData
  f_End_read : Addr
  fd_End_read : FuncData
  f_End_nothing_to_read : Addr
  fd_End_nothing_to_read : FuncData
  f_End_take_in : Addr
  fd_End_take_in : FuncData
  f_End_comes_too_early : Addr
  fd_End_comes_too_early : FuncData
  f_End_take_break : Addr
  fd_End_take_break : FuncData
  f_End_wanted_place : Addr
  fd_End_wanted_place : FuncData
  f_End_take_answer : Addr
  fd_End_take_answer : FuncData
  f_End_take_data : Addr
  fd_End_take_data : FuncData
  f_End_number_of_data : Addr
  fd_End_number_of_data : FuncData
  f_End_bring_in_order : Addr
  fd_End_bring_in_order : FuncData
  f_End_out : Addr
  fd_End_out : FuncData
  f_End_beginning_is_due : Addr
  fd_End_beginning_is_due : FuncData
  f_End_data_due : Addr
  fd_End_data_due : FuncData
  f_End_end_is_due : Addr
  fd_End_end_is_due : FuncData
  f_End_answer_is_due : Addr
  fd_End_answer_is_due : FuncData
  f_End_send : Addr
  fd_End_send : FuncData
  f_End_tick : Addr
  fd_End_tick : FuncData
  f_End_waits : Addr
  fd_End_waits : FuncData
  f_End_state : Addr
  fd_End_state : FuncData
  f_answers : Addr
  fd_answers : FuncData
  f_split_calls : Addr
  fd_split_calls : FuncData
  f_how_many_numbers : Addr
  fd_how_many_numbers : FuncData
  f_in_range : Addr
  fd_in_range : FuncData
  f_answer_call : Addr
  fd_answer_call : FuncData
  u_HEAD : Value
  u_WANTED_AT : Value
  u_FLAGS_AT : Value
  u_ZERO_AT : Value
  u_WINDOW_AT : Value
  u_BEGINS : Value
  u_ENDS : Value
  u_ANSWERS : Value
  u_BREAKS : Value
  u_ROUND : Value
  u_HALF_ROUND : Value
  u_WORD : Value
  u_FULL_WORD : Value
  u_SEND_ROOM : Value
  u_FULL_WINDOW : Value
  u_SMALL_WINDOW : Value
  u_MOST_DATA : Value
  u_FIRST_PATIENCE : Value
  u_MOST_PATIENCE : Value
  u_CLOSED_OR_BROKEN : Value
  u_ALL_READ : Value
  u_BROKEN : Value
  u_OPEN : Value
  u_WRITE : Value
  u_CLOSE : Value
  u_READ : Value
  u_IN : Value
  u_OUT : Value
  u_TICK : Value
  u_STATE : Value
  u_MOST_READ : Value
  u_LONGEST_SEGMENT : Value
  u_LONGEST_TICK : Value
  u_OUT_OF_RANGE : Value
structure Txt (K : PySem.W.Frag) (mg : Str → Option Value) (a : Ad) : Prop where
  cl_End : Cls K a.C_End
  g_End : mg "End" = some (.ref a.C_End)
  mk_End : Mk K a.C_End a.f_End_init
  n_End_first : NoAttr K a.C_End "first"
  n_End_calling : NoAttr K a.C_End "calling"
  n_End_written : NoAttr K a.C_End "written"
  n_End_closed : NoAttr K a.C_End "closed"
  n_End_acked : NoAttr K a.C_End "acked"
  n_End_next_number : NoAttr K a.C_End "next_number"
  n_End_sent : NoAttr K a.C_End "sent"
  n_End_theirs : NoAttr K a.C_End "theirs"
  n_End_their_first : NoAttr K a.C_End "their_first"
  n_End_came : NoAttr K a.C_End "came"
  n_End_unread : NoAttr K a.C_End "unread"
  n_End_ahead : NoAttr K a.C_End "ahead"
  n_End_their_end : NoAttr K a.C_End "their_end"
  n_End_owes : NoAttr K a.C_End "owes"
  n_End_waited : NoAttr K a.C_End "waited"
  n_End_patience : NoAttr K a.C_End "patience"
  n_End_probe : NoAttr K a.C_End "probe"
  n_End_broken : NoAttr K a.C_End "broken"
  F_is_right : Fun K "is_right" "is_right" s_is_right a.f_is_right a.fd_is_right
  b_is_right : Binds K a.fd_is_right ["segment"] []
  g_is_right : mg "is_right" = some (.ref a.f_is_right)
  F_sum_is_right : Fun K "sum_is_right" "sum_is_right" s_sum_is_right a.f_sum_is_right a.fd_sum_is_right
  b_sum_is_right : Binds K a.fd_sum_is_right ["segment"] []
  g_sum_is_right : mg "sum_is_right" = some (.ref a.f_sum_is_right)
  F_number_at : Fun K "number_at" "number_at" s_number_at a.f_number_at a.fd_number_at
  b_number_at : Binds K a.fd_number_at ["segment", "at", "length"] []
  g_number_at : mg "number_at" = some (.ref a.f_number_at)
  F_place_of : Fun K "place_of" "place_of" s_place_of a.f_place_of a.fd_place_of
  b_place_of : Binds K a.fd_place_of ["segment"] []
  g_place_of : mg "place_of" = some (.ref a.f_place_of)
  F_wanted_place_of : Fun K "wanted_place_of" "wanted_place_of" s_wanted_place_of a.f_wanted_place_of a.fd_wanted_place_of
  b_wanted_place_of : Binds K a.fd_wanted_place_of ["segment"] []
  g_wanted_place_of : mg "wanted_place_of" = some (.ref a.f_wanted_place_of)
  F_window_of : Fun K "window_of" "window_of" s_window_of a.f_window_of a.fd_window_of
  b_window_of : Binds K a.fd_window_of ["segment"] []
  g_window_of : mg "window_of" = some (.ref a.f_window_of)
  F_has_flag : Fun K "has_flag" "has_flag" s_has_flag a.f_has_flag a.fd_has_flag
  b_has_flag : Binds K a.fd_has_flag ["segment", "flag"] []
  g_has_flag : mg "has_flag" = some (.ref a.f_has_flag)
  F_data_of : Fun K "data_of" "data_of" s_data_of a.f_data_of a.fd_data_of
  b_data_of : Binds K a.fd_data_of ["segment"] []
  g_data_of : mg "data_of" = some (.ref a.f_data_of)
  F_segment_without_sum : Fun K "segment_without_sum" "segment_without_sum" s_segment_without_sum a.f_segment_without_sum a.fd_segment_without_sum
  b_segment_without_sum : Binds K a.fd_segment_without_sum ["place", "wanted_place", "flags", "window", "data"] []
  g_segment_without_sum : mg "segment_without_sum" = some (.ref a.f_segment_without_sum)
  F_row_of : Fun K "row_of" "row_of" s_row_of a.f_row_of a.fd_row_of
  b_row_of : Binds K a.fd_row_of ["number", "length"] []
  g_row_of : mg "row_of" = some (.ref a.f_row_of)
  F_nearest : Fun K "nearest" "nearest" s_nearest a.f_nearest a.fd_nearest
  b_nearest : Binds K a.fd_nearest ["number", "near"] []
  g_nearest : mg "nearest" = some (.ref a.f_nearest)
  F_End_init : Fun K "__init__" "End.__init__" s_End_init a.f_End_init a.fd_End_init
  b_End_init : Binds K a.fd_End_init ["self", "first", "calling"] []
  F_End_room : Fun K "room" "End.room" s_End_room a.f_End_room a.fd_End_room
  b_End_room : Binds K a.fd_End_room ["self"] []
  m_End_room : Meth K a.C_End "room" a.f_End_room
  F_End_end_number : Fun K "end_number" "End.end_number" s_End_end_number a.f_End_end_number a.fd_End_end_number
  b_End_end_number : Binds K a.fd_End_end_number ["self"] []
  m_End_end_number : Meth K a.C_End "end_number" a.f_End_end_number
  F_End_other_has_begun : Fun K "other_has_begun" "End.other_has_begun" s_End_other_has_begun a.f_End_other_has_begun a.fd_End_other_has_begun
  b_End_other_has_begun : Binds K a.fd_End_other_has_begun ["self"] []
  m_End_other_has_begun : Meth K a.C_End "other_has_begun" a.f_End_other_has_begun
  F_End_next_in_order : Fun K "next_in_order" "End.next_in_order" s_End_next_in_order a.f_End_next_in_order a.fd_End_next_in_order
  b_End_next_in_order : Binds K a.fd_End_next_in_order ["self"] []
  m_End_next_in_order : Meth K a.C_End "next_in_order" a.f_End_next_in_order
  F_End_window : Fun K "window" "End.window" s_End_window a.f_End_window a.fd_End_window
  b_End_window : Binds K a.fd_End_window ["self"] []
  m_End_window : Meth K a.C_End "window" a.f_End_window
  F_End_whole : Fun K "whole" "End.whole" s_End_whole a.f_End_whole a.fd_End_whole
  b_End_whole : Binds K a.fd_End_whole ["self"] []
  m_End_whole : Meth K a.C_End "whole" a.f_End_whole
  F_End_wanted : Fun K "wanted" "End.wanted" s_End_wanted a.f_End_wanted a.fd_End_wanted
  b_End_wanted : Binds K a.fd_End_wanted ["self"] []
  m_End_wanted : Meth K a.C_End "wanted" a.f_End_wanted
  F_End_write : Fun K "write" "End.write" s_End_write a.f_End_write a.fd_End_write
  b_End_write : Binds K a.fd_End_write ["self", "row"] []
  m_End_write : Meth K a.C_End "write" a.f_End_write
  F_End_close : Fun K "close" "End.close" s_End_close a.f_End_close a.fd_End_close
  b_End_close : Binds K a.fd_End_close ["self"] []
  m_End_close : Meth K a.C_End "close" a.f_End_close
  F_End_read : Fun K "read" "End.read" s_End_read a.f_End_read a.fd_End_read
  b_End_read : Binds K a.fd_End_read ["self", "most"] []
  m_End_read : Meth K a.C_End "read" a.f_End_read
  F_End_nothing_to_read : Fun K "nothing_to_read" "End.nothing_to_read" s_End_nothing_to_read a.f_End_nothing_to_read a.fd_End_nothing_to_read
  b_End_nothing_to_read : Binds K a.fd_End_nothing_to_read ["self"] []
  m_End_nothing_to_read : Meth K a.C_End "nothing_to_read" a.f_End_nothing_to_read
  F_End_take_in : Fun K "take_in" "End.take_in" s_End_take_in a.f_End_take_in a.fd_End_take_in
  b_End_take_in : Binds K a.fd_End_take_in ["self", "segment"] []
  m_End_take_in : Meth K a.C_End "take_in" a.f_End_take_in
  F_End_comes_too_early : Fun K "comes_too_early" "End.comes_too_early" s_End_comes_too_early a.f_End_comes_too_early a.fd_End_comes_too_early
  b_End_comes_too_early : Binds K a.fd_End_comes_too_early ["self", "segment"] []
  m_End_comes_too_early : Meth K a.C_End "comes_too_early" a.f_End_comes_too_early
  F_End_take_break : Fun K "take_break" "End.take_break" s_End_take_break a.f_End_take_break a.fd_End_take_break
  b_End_take_break : Binds K a.fd_End_take_break ["self", "segment"] []
  m_End_take_break : Meth K a.C_End "take_break" a.f_End_take_break
  F_End_wanted_place : Fun K "wanted_place" "End.wanted_place" s_End_wanted_place a.f_End_wanted_place a.fd_End_wanted_place
  b_End_wanted_place : Binds K a.fd_End_wanted_place ["self"] []
  m_End_wanted_place : Meth K a.C_End "wanted_place" a.f_End_wanted_place
  F_End_take_answer : Fun K "take_answer" "End.take_answer" s_End_take_answer a.f_End_take_answer a.fd_End_take_answer
  b_End_take_answer : Binds K a.fd_End_take_answer ["self", "segment"] []
  m_End_take_answer : Meth K a.C_End "take_answer" a.f_End_take_answer
  F_End_take_data : Fun K "take_data" "End.take_data" s_End_take_data a.f_End_take_data a.fd_End_take_data
  b_End_take_data : Binds K a.fd_End_take_data ["self", "segment"] []
  m_End_take_data : Meth K a.C_End "take_data" a.f_End_take_data
  F_End_number_of_data : Fun K "number_of_data" "End.number_of_data" s_End_number_of_data a.f_End_number_of_data a.fd_End_number_of_data
  b_End_number_of_data : Binds K a.fd_End_number_of_data ["self", "segment"] []
  m_End_number_of_data : Meth K a.C_End "number_of_data" a.f_End_number_of_data
  F_End_bring_in_order : Fun K "bring_in_order" "End.bring_in_order" s_End_bring_in_order a.f_End_bring_in_order a.fd_End_bring_in_order
  b_End_bring_in_order : Binds K a.fd_End_bring_in_order ["self"] []
  m_End_bring_in_order : Meth K a.C_End "bring_in_order" a.f_End_bring_in_order
  F_End_out : Fun K "out" "End.out" s_End_out a.f_End_out a.fd_End_out
  b_End_out : Binds K a.fd_End_out ["self", "most"] []
  m_End_out : Meth K a.C_End "out" a.f_End_out
  F_End_beginning_is_due : Fun K "beginning_is_due" "End.beginning_is_due" s_End_beginning_is_due a.f_End_beginning_is_due a.fd_End_beginning_is_due
  b_End_beginning_is_due : Binds K a.fd_End_beginning_is_due ["self"] []
  m_End_beginning_is_due : Meth K a.C_End "beginning_is_due" a.f_End_beginning_is_due
  F_End_data_due : Fun K "data_due" "End.data_due" s_End_data_due a.f_End_data_due a.fd_End_data_due
  b_End_data_due : Binds K a.fd_End_data_due ["self", "most"] []
  m_End_data_due : Meth K a.C_End "data_due" a.f_End_data_due
  F_End_end_is_due : Fun K "end_is_due" "End.end_is_due" s_End_end_is_due a.f_End_end_is_due a.fd_End_end_is_due
  b_End_end_is_due : Binds K a.fd_End_end_is_due ["self", "bytes_before"] []
  m_End_end_is_due : Meth K a.C_End "end_is_due" a.f_End_end_is_due
  F_End_answer_is_due : Fun K "answer_is_due" "End.answer_is_due" s_End_answer_is_due a.f_End_answer_is_due a.fd_End_answer_is_due
  b_End_answer_is_due : Binds K a.fd_End_answer_is_due ["self"] []
  m_End_answer_is_due : Meth K a.C_End "answer_is_due" a.f_End_answer_is_due
  F_End_send : Fun K "send" "End.send" s_End_send a.f_End_send a.fd_End_send
  b_End_send : Binds K a.fd_End_send ["self", "mark", "data"] []
  m_End_send : Meth K a.C_End "send" a.f_End_send
  F_End_tick : Fun K "tick" "End.tick" s_End_tick a.f_End_tick a.fd_End_tick
  b_End_tick : Binds K a.fd_End_tick ["self", "passed"] []
  m_End_tick : Meth K a.C_End "tick" a.f_End_tick
  F_End_waits : Fun K "waits" "End.waits" s_End_waits a.f_End_waits a.fd_End_waits
  b_End_waits : Binds K a.fd_End_waits ["self"] []
  m_End_waits : Meth K a.C_End "waits" a.f_End_waits
  F_End_state : Fun K "state" "End.state" s_End_state a.f_End_state a.fd_End_state
  b_End_state : Binds K a.fd_End_state ["self"] []
  m_End_state : Meth K a.C_End "state" a.f_End_state
  F_answers : Fun K "answers" "answers" s_answers a.f_answers a.fd_answers
  b_answers : Binds K a.fd_answers ["calls"] []
  g_answers : mg "answers" = some (.ref a.f_answers)
  F_split_calls : Fun K "split_calls" "split_calls" s_split_calls a.f_split_calls a.fd_split_calls
  b_split_calls : Binds K a.fd_split_calls ["calls"] []
  g_split_calls : mg "split_calls" = some (.ref a.f_split_calls)
  F_how_many_numbers : Fun K "how_many_numbers" "how_many_numbers" s_how_many_numbers a.f_how_many_numbers a.fd_how_many_numbers
  b_how_many_numbers : Binds K a.fd_how_many_numbers ["kind"] []
  g_how_many_numbers : mg "how_many_numbers" = some (.ref a.f_how_many_numbers)
  F_in_range : Fun K "in_range" "in_range" s_in_range a.f_in_range a.fd_in_range
  b_in_range : Binds K a.fd_in_range ["kind", "handed"] []
  g_in_range : mg "in_range" = some (.ref a.f_in_range)
  F_answer_call : Fun K "answer_call" "answer_call" s_answer_call a.f_answer_call a.fd_answer_call
  b_answer_call : Binds K a.fd_answer_call ["end", "kind", "handed"] []
  g_answer_call : mg "answer_call" = some (.ref a.f_answer_call)
  z_enumerate : mg "enumerate" = none
  z_len : mg "len" = none
  z_list : mg "list" = none
  z_max : mg "max" = none
  z_min : mg "min" = none
  z_range : mg "range" = none
  z_reversed : mg "reversed" = none
  entry : ∀ (s : Shared) (v : Value), BindsTo s a.fd_answers ⟨[v], []⟩ [("calls", v)]
  c_HEAD : mg "HEAD" = some a.u_HEAD ∧ RelV (V.int 14) a.u_HEAD
  c_WANTED_AT : mg "WANTED_AT" = some a.u_WANTED_AT ∧ RelV (V.int 4) a.u_WANTED_AT
  c_FLAGS_AT : mg "FLAGS_AT" = some a.u_FLAGS_AT ∧ RelV (V.int 8) a.u_FLAGS_AT
  c_ZERO_AT : mg "ZERO_AT" = some a.u_ZERO_AT ∧ RelV (V.int 9) a.u_ZERO_AT
  c_WINDOW_AT : mg "WINDOW_AT" = some a.u_WINDOW_AT ∧ RelV (V.int 10) a.u_WINDOW_AT
  c_BEGINS : mg "BEGINS" = some a.u_BEGINS ∧ RelV (V.int 1) a.u_BEGINS
  c_ENDS : mg "ENDS" = some a.u_ENDS ∧ RelV (V.int 2) a.u_ENDS
  c_ANSWERS : mg "ANSWERS" = some a.u_ANSWERS ∧ RelV (V.int 4) a.u_ANSWERS
  c_BREAKS : mg "BREAKS" = some a.u_BREAKS ∧ RelV (V.int 8) a.u_BREAKS
  c_ROUND : mg "ROUND" = some a.u_ROUND ∧ RelV (V.int 4294967296) a.u_ROUND
  c_HALF_ROUND : mg "HALF_ROUND" = some a.u_HALF_ROUND ∧ RelV (V.int 2147483648) a.u_HALF_ROUND
  c_WORD : mg "WORD" = some a.u_WORD ∧ RelV (V.int 65536) a.u_WORD
  c_FULL_WORD : mg "FULL_WORD" = some a.u_FULL_WORD ∧ RelV (V.int 65535) a.u_FULL_WORD
  c_SEND_ROOM : mg "SEND_ROOM" = some a.u_SEND_ROOM ∧ RelV (V.int 16384) a.u_SEND_ROOM
  c_FULL_WINDOW : mg "FULL_WINDOW" = some a.u_FULL_WINDOW ∧ RelV (V.int 8192) a.u_FULL_WINDOW
  c_SMALL_WINDOW : mg "SMALL_WINDOW" = some a.u_SMALL_WINDOW ∧ RelV (V.int 536) a.u_SMALL_WINDOW
  c_MOST_DATA : mg "MOST_DATA" = some a.u_MOST_DATA ∧ RelV (V.int 536) a.u_MOST_DATA
  c_FIRST_PATIENCE : mg "FIRST_PATIENCE" = some a.u_FIRST_PATIENCE ∧ RelV (V.int 1000) a.u_FIRST_PATIENCE
  c_MOST_PATIENCE : mg "MOST_PATIENCE" = some a.u_MOST_PATIENCE ∧ RelV (V.int 60000) a.u_MOST_PATIENCE
  c_CLOSED_OR_BROKEN : mg "CLOSED_OR_BROKEN" = some a.u_CLOSED_OR_BROKEN ∧ RelV (V.int (-1)) a.u_CLOSED_OR_BROKEN
  c_ALL_READ : mg "ALL_READ" = some a.u_ALL_READ ∧ RelV (V.int (-1)) a.u_ALL_READ
  c_BROKEN : mg "BROKEN" = some a.u_BROKEN ∧ RelV (V.int (-3)) a.u_BROKEN
  c_OPEN : mg "OPEN" = some a.u_OPEN ∧ RelV (V.int 1) a.u_OPEN
  c_WRITE : mg "WRITE" = some a.u_WRITE ∧ RelV (V.int 2) a.u_WRITE
  c_CLOSE : mg "CLOSE" = some a.u_CLOSE ∧ RelV (V.int 3) a.u_CLOSE
  c_READ : mg "READ" = some a.u_READ ∧ RelV (V.int 4) a.u_READ
  c_IN : mg "IN" = some a.u_IN ∧ RelV (V.int 5) a.u_IN
  c_OUT : mg "OUT" = some a.u_OUT ∧ RelV (V.int 6) a.u_OUT
  c_TICK : mg "TICK" = some a.u_TICK ∧ RelV (V.int 7) a.u_TICK
  c_STATE : mg "STATE" = some a.u_STATE ∧ RelV (V.int 8) a.u_STATE
  c_MOST_READ : mg "MOST_READ" = some a.u_MOST_READ ∧ RelV (V.int 1000000) a.u_MOST_READ
  c_LONGEST_SEGMENT : mg "LONGEST_SEGMENT" = some a.u_LONGEST_SEGMENT ∧ RelV (V.int 65535) a.u_LONGEST_SEGMENT
  c_LONGEST_TICK : mg "LONGEST_TICK" = some a.u_LONGEST_TICK ∧ RelV (V.int 1000000) a.u_LONGEST_TICK
  c_OUT_OF_RANGE : mg "OUT_OF_RANGE" = some a.u_OUT_OF_RANGE ∧ RelV (V.int (-2)) a.u_OUT_OF_RANGE
theorem all_mk {K : PySem.W.Frag} {h : Heap} {mg : Str → Option Value} (X : K.In h) (G : h.Ns mainGlobals mg)
    {C_End : Addr} {f_is_right : Addr} {od_is_right an_is_right : Option Addr} {sl_is_right : Array (Option Value)} {oc_is_right kV_is_right dc_is_right pm_is_right cd_is_right ct_is_right : Value} {f_sum_is_right : Addr} {od_sum_is_right an_sum_is_right : Option Addr} {sl_sum_is_right : Array (Option Value)} {oc_sum_is_right kV_sum_is_right dc_sum_is_right pm_sum_is_right cd_sum_is_right ct_sum_is_right : Value} {f_number_at : Addr} {od_number_at an_number_at : Option Addr} {sl_number_at : Array (Option Value)} {oc_number_at kV_number_at dc_number_at pm_number_at cd_number_at ct_number_at : Value} {f_place_of : Addr} {od_place_of an_place_of : Option Addr} {sl_place_of : Array (Option Value)} {oc_place_of kV_place_of dc_place_of pm_place_of cd_place_of ct_place_of : Value} {f_wanted_place_of : Addr} {od_wanted_place_of an_wanted_place_of : Option Addr} {sl_wanted_place_of : Array (Option Value)} {oc_wanted_place_of kV_wanted_place_of dc_wanted_place_of pm_wanted_place_of cd_wanted_place_of ct_wanted_place_of : Value} {f_window_of : Addr} {od_window_of an_window_of : Option Addr} {sl_window_of : Array (Option Value)} {oc_window_of kV_window_of dc_window_of pm_window_of cd_window_of ct_window_of : Value} {f_has_flag : Addr} {od_has_flag an_has_flag : Option Addr} {sl_has_flag : Array (Option Value)} {oc_has_flag kV_has_flag dc_has_flag pm_has_flag cd_has_flag ct_has_flag : Value} {f_data_of : Addr} {od_data_of an_data_of : Option Addr} {sl_data_of : Array (Option Value)} {oc_data_of kV_data_of dc_data_of pm_data_of cd_data_of ct_data_of : Value} {f_segment_without_sum : Addr} {od_segment_without_sum an_segment_without_sum : Option Addr} {sl_segment_without_sum : Array (Option Value)} {oc_segment_without_sum kV_segment_without_sum dc_segment_without_sum pm_segment_without_sum cd_segment_without_sum ct_segment_without_sum : Value} {f_row_of : Addr} {od_row_of an_row_of : Option Addr} {sl_row_of : Array (Option Value)} {oc_row_of kV_row_of dc_row_of pm_row_of cd_row_of ct_row_of : Value} {f_nearest : Addr} {od_nearest an_nearest : Option Addr} {sl_nearest : Array (Option Value)} {oc_nearest kV_nearest dc_nearest pm_nearest cd_nearest ct_nearest : Value} {f_End_init : Addr} {od_End_init an_End_init : Option Addr} {sl_End_init : Array (Option Value)} {oc_End_init kV_End_init dc_End_init pm_End_init cd_End_init ct_End_init : Value} {f_End_room : Addr} {od_End_room an_End_room : Option Addr} {sl_End_room : Array (Option Value)} {oc_End_room kV_End_room dc_End_room pm_End_room cd_End_room ct_End_room : Value} {f_End_end_number : Addr} {od_End_end_number an_End_end_number : Option Addr} {sl_End_end_number : Array (Option Value)} {oc_End_end_number kV_End_end_number dc_End_end_number pm_End_end_number cd_End_end_number ct_End_end_number : Value} {f_End_other_has_begun : Addr} {od_End_other_has_begun an_End_other_has_begun : Option Addr} {sl_End_other_has_begun : Array (Option Value)} {oc_End_other_has_begun kV_End_other_has_begun dc_End_other_has_begun pm_End_other_has_begun cd_End_other_has_begun ct_End_other_has_begun : Value} {f_End_next_in_order : Addr} {od_End_next_in_order an_End_next_in_order : Option Addr} {sl_End_next_in_order : Array (Option Value)} {oc_End_next_in_order kV_End_next_in_order dc_End_next_in_order pm_End_next_in_order cd_End_next_in_order ct_End_next_in_order : Value} {f_End_window : Addr} {od_End_window an_End_window : Option Addr} {sl_End_window : Array (Option Value)} {oc_End_window kV_End_window dc_End_window pm_End_window cd_End_window ct_End_window : Value} {f_End_whole : Addr} {od_End_whole an_End_whole : Option Addr} {sl_End_whole : Array (Option Value)} {oc_End_whole kV_End_whole dc_End_whole pm_End_whole cd_End_whole ct_End_whole : Value} {f_End_wanted : Addr} {od_End_wanted an_End_wanted : Option Addr} {sl_End_wanted : Array (Option Value)} {oc_End_wanted kV_End_wanted dc_End_wanted pm_End_wanted cd_End_wanted ct_End_wanted : Value} {f_End_write : Addr} {od_End_write an_End_write : Option Addr} {sl_End_write : Array (Option Value)} {oc_End_write kV_End_write dc_End_write pm_End_write cd_End_write ct_End_write : Value} {f_End_close : Addr} {od_End_close an_End_close : Option Addr} {sl_End_close : Array (Option Value)} {oc_End_close kV_End_close dc_End_close pm_End_close cd_End_close ct_End_close : Value} {f_End_read : Addr} {od_End_read an_End_read : Option Addr} {sl_End_read : Array (Option Value)} {oc_End_read kV_End_read dc_End_read pm_End_read cd_End_read ct_End_read : Value} {f_End_nothing_to_read : Addr} {od_End_nothing_to_read an_End_nothing_to_read : Option Addr} {sl_End_nothing_to_read : Array (Option Value)} {oc_End_nothing_to_read kV_End_nothing_to_read dc_End_nothing_to_read pm_End_nothing_to_read cd_End_nothing_to_read ct_End_nothing_to_read : Value} {f_End_take_in : Addr} {od_End_take_in an_End_take_in : Option Addr} {sl_End_take_in : Array (Option Value)} {oc_End_take_in kV_End_take_in dc_End_take_in pm_End_take_in cd_End_take_in ct_End_take_in : Value} {f_End_comes_too_early : Addr} {od_End_comes_too_early an_End_comes_too_early : Option Addr} {sl_End_comes_too_early : Array (Option Value)} {oc_End_comes_too_early kV_End_comes_too_early dc_End_comes_too_early pm_End_comes_too_early cd_End_comes_too_early ct_End_comes_too_early : Value} {f_End_take_break : Addr} {od_End_take_break an_End_take_break : Option Addr} {sl_End_take_break : Array (Option Value)} {oc_End_take_break kV_End_take_break dc_End_take_break pm_End_take_break cd_End_take_break ct_End_take_break : Value} {f_End_wanted_place : Addr} {od_End_wanted_place an_End_wanted_place : Option Addr} {sl_End_wanted_place : Array (Option Value)} {oc_End_wanted_place kV_End_wanted_place dc_End_wanted_place pm_End_wanted_place cd_End_wanted_place ct_End_wanted_place : Value} {f_End_take_answer : Addr} {od_End_take_answer an_End_take_answer : Option Addr} {sl_End_take_answer : Array (Option Value)} {oc_End_take_answer kV_End_take_answer dc_End_take_answer pm_End_take_answer cd_End_take_answer ct_End_take_answer : Value} {f_End_take_data : Addr} {od_End_take_data an_End_take_data : Option Addr} {sl_End_take_data : Array (Option Value)} {oc_End_take_data kV_End_take_data dc_End_take_data pm_End_take_data cd_End_take_data ct_End_take_data : Value} {f_End_number_of_data : Addr} {od_End_number_of_data an_End_number_of_data : Option Addr} {sl_End_number_of_data : Array (Option Value)} {oc_End_number_of_data kV_End_number_of_data dc_End_number_of_data pm_End_number_of_data cd_End_number_of_data ct_End_number_of_data : Value} {f_End_bring_in_order : Addr} {od_End_bring_in_order an_End_bring_in_order : Option Addr} {sl_End_bring_in_order : Array (Option Value)} {oc_End_bring_in_order kV_End_bring_in_order dc_End_bring_in_order pm_End_bring_in_order cd_End_bring_in_order ct_End_bring_in_order : Value} {f_End_out : Addr} {od_End_out an_End_out : Option Addr} {sl_End_out : Array (Option Value)} {oc_End_out kV_End_out dc_End_out pm_End_out cd_End_out ct_End_out : Value} {f_End_beginning_is_due : Addr} {od_End_beginning_is_due an_End_beginning_is_due : Option Addr} {sl_End_beginning_is_due : Array (Option Value)} {oc_End_beginning_is_due kV_End_beginning_is_due dc_End_beginning_is_due pm_End_beginning_is_due cd_End_beginning_is_due ct_End_beginning_is_due : Value} {f_End_data_due : Addr} {od_End_data_due an_End_data_due : Option Addr} {sl_End_data_due : Array (Option Value)} {oc_End_data_due kV_End_data_due dc_End_data_due pm_End_data_due cd_End_data_due ct_End_data_due : Value} {f_End_end_is_due : Addr} {od_End_end_is_due an_End_end_is_due : Option Addr} {sl_End_end_is_due : Array (Option Value)} {oc_End_end_is_due kV_End_end_is_due dc_End_end_is_due pm_End_end_is_due cd_End_end_is_due ct_End_end_is_due : Value} {f_End_answer_is_due : Addr} {od_End_answer_is_due an_End_answer_is_due : Option Addr} {sl_End_answer_is_due : Array (Option Value)} {oc_End_answer_is_due kV_End_answer_is_due dc_End_answer_is_due pm_End_answer_is_due cd_End_answer_is_due ct_End_answer_is_due : Value} {f_End_send : Addr} {od_End_send an_End_send : Option Addr} {sl_End_send : Array (Option Value)} {oc_End_send kV_End_send dc_End_send pm_End_send cd_End_send ct_End_send : Value} {f_End_tick : Addr} {od_End_tick an_End_tick : Option Addr} {sl_End_tick : Array (Option Value)} {oc_End_tick kV_End_tick dc_End_tick pm_End_tick cd_End_tick ct_End_tick : Value} {f_End_waits : Addr} {od_End_waits an_End_waits : Option Addr} {sl_End_waits : Array (Option Value)} {oc_End_waits kV_End_waits dc_End_waits pm_End_waits cd_End_waits ct_End_waits : Value} {f_End_state : Addr} {od_End_state an_End_state : Option Addr} {sl_End_state : Array (Option Value)} {oc_End_state kV_End_state dc_End_state pm_End_state cd_End_state ct_End_state : Value} {f_answers : Addr} {od_answers an_answers : Option Addr} {sl_answers : Array (Option Value)} {oc_answers kV_answers dc_answers pm_answers cd_answers ct_answers : Value} {f_split_calls : Addr} {od_split_calls an_split_calls : Option Addr} {sl_split_calls : Array (Option Value)} {oc_split_calls kV_split_calls dc_split_calls pm_split_calls cd_split_calls ct_split_calls : Value} {f_how_many_numbers : Addr} {od_how_many_numbers an_how_many_numbers : Option Addr} {sl_how_many_numbers : Array (Option Value)} {oc_how_many_numbers kV_how_many_numbers dc_how_many_numbers pm_how_many_numbers cd_how_many_numbers ct_how_many_numbers : Value} {f_in_range : Addr} {od_in_range an_in_range : Option Addr} {sl_in_range : Array (Option Value)} {oc_in_range kV_in_range dc_in_range pm_in_range cd_in_range ct_in_range : Value} {f_answer_call : Addr} {od_answer_call an_answer_call : Option Addr} {sl_answer_call : Array (Option Value)} {oc_answer_call kV_answer_call dc_answer_call pm_answer_call cd_answer_call ct_answer_call : Value} {t_HEAD : Tok} {t_WANTED_AT : Tok} {t_FLAGS_AT : Tok} {t_ZERO_AT : Tok} {t_WINDOW_AT : Tok} {t_BEGINS : Tok} {t_ENDS : Tok} {t_ANSWERS : Tok} {t_BREAKS : Tok} {t_ROUND : Tok} {t_HALF_ROUND : Tok} {t_WORD : Tok} {t_FULL_WORD : Tok} {t_SEND_ROOM : Tok} {t_FULL_WINDOW : Tok} {t_SMALL_WINDOW : Tok} {t_MOST_DATA : Tok} {t_FIRST_PATIENCE : Tok} {t_MOST_PATIENCE : Tok} {t_CLOSED_OR_BROKEN : Tok} {t_ALL_READ : Tok} {t_BROKEN : Tok} {t_OPEN : Tok} {t_WRITE : Tok} {t_CLOSE : Tok} {t_READ : Tok} {t_IN : Tok} {t_OUT : Tok} {t_TICK : Tok} {t_STATE : Tok} {t_MOST_READ : Tok} {t_LONGEST_SEGMENT : Tok} {t_LONGEST_TICK : Tok} {t_OUT_OF_RANGE : Tok}
    (a_End : PySem.W.nsIn K mainGlobals "End" = some (some (.ref C_End)))
    (a_is_right : PySem.W.nsIn K mainGlobals "is_right" = some (some (.ref f_is_right)))
    (l_is_right : K.lookup f_is_right = some ⟨oc_is_right, od_is_right, .func (PySem.W.fnOf "is_right" "is_right" (defArgs s_is_right) (defBody s_is_right) (defScope s_is_right) .none kV_is_right dc_is_right pm_is_right an_is_right cd_is_right ct_is_right), sl_is_right⟩)
    (c_is_right : PySem.W.codeIn K cd_is_right "is_right" = true)
    (k_is_right : PySem.W.keepIn K (.ref f_is_right) = true)
    (a_sum_is_right : PySem.W.nsIn K mainGlobals "sum_is_right" = some (some (.ref f_sum_is_right)))
    (l_sum_is_right : K.lookup f_sum_is_right = some ⟨oc_sum_is_right, od_sum_is_right, .func (PySem.W.fnOf "sum_is_right" "sum_is_right" (defArgs s_sum_is_right) (defBody s_sum_is_right) (defScope s_sum_is_right) .none kV_sum_is_right dc_sum_is_right pm_sum_is_right an_sum_is_right cd_sum_is_right ct_sum_is_right), sl_sum_is_right⟩)
    (c_sum_is_right : PySem.W.codeIn K cd_sum_is_right "sum_is_right" = true)
    (k_sum_is_right : PySem.W.keepIn K (.ref f_sum_is_right) = true)
    (a_number_at : PySem.W.nsIn K mainGlobals "number_at" = some (some (.ref f_number_at)))
    (l_number_at : K.lookup f_number_at = some ⟨oc_number_at, od_number_at, .func (PySem.W.fnOf "number_at" "number_at" (defArgs s_number_at) (defBody s_number_at) (defScope s_number_at) .none kV_number_at dc_number_at pm_number_at an_number_at cd_number_at ct_number_at), sl_number_at⟩)
    (c_number_at : PySem.W.codeIn K cd_number_at "number_at" = true)
    (k_number_at : PySem.W.keepIn K (.ref f_number_at) = true)
    (a_place_of : PySem.W.nsIn K mainGlobals "place_of" = some (some (.ref f_place_of)))
    (l_place_of : K.lookup f_place_of = some ⟨oc_place_of, od_place_of, .func (PySem.W.fnOf "place_of" "place_of" (defArgs s_place_of) (defBody s_place_of) (defScope s_place_of) .none kV_place_of dc_place_of pm_place_of an_place_of cd_place_of ct_place_of), sl_place_of⟩)
    (c_place_of : PySem.W.codeIn K cd_place_of "place_of" = true)
    (k_place_of : PySem.W.keepIn K (.ref f_place_of) = true)
    (a_wanted_place_of : PySem.W.nsIn K mainGlobals "wanted_place_of" = some (some (.ref f_wanted_place_of)))
    (l_wanted_place_of : K.lookup f_wanted_place_of = some ⟨oc_wanted_place_of, od_wanted_place_of, .func (PySem.W.fnOf "wanted_place_of" "wanted_place_of" (defArgs s_wanted_place_of) (defBody s_wanted_place_of) (defScope s_wanted_place_of) .none kV_wanted_place_of dc_wanted_place_of pm_wanted_place_of an_wanted_place_of cd_wanted_place_of ct_wanted_place_of), sl_wanted_place_of⟩)
    (c_wanted_place_of : PySem.W.codeIn K cd_wanted_place_of "wanted_place_of" = true)
    (k_wanted_place_of : PySem.W.keepIn K (.ref f_wanted_place_of) = true)
    (a_window_of : PySem.W.nsIn K mainGlobals "window_of" = some (some (.ref f_window_of)))
    (l_window_of : K.lookup f_window_of = some ⟨oc_window_of, od_window_of, .func (PySem.W.fnOf "window_of" "window_of" (defArgs s_window_of) (defBody s_window_of) (defScope s_window_of) .none kV_window_of dc_window_of pm_window_of an_window_of cd_window_of ct_window_of), sl_window_of⟩)
    (c_window_of : PySem.W.codeIn K cd_window_of "window_of" = true)
    (k_window_of : PySem.W.keepIn K (.ref f_window_of) = true)
    (a_has_flag : PySem.W.nsIn K mainGlobals "has_flag" = some (some (.ref f_has_flag)))
    (l_has_flag : K.lookup f_has_flag = some ⟨oc_has_flag, od_has_flag, .func (PySem.W.fnOf "has_flag" "has_flag" (defArgs s_has_flag) (defBody s_has_flag) (defScope s_has_flag) .none kV_has_flag dc_has_flag pm_has_flag an_has_flag cd_has_flag ct_has_flag), sl_has_flag⟩)
    (c_has_flag : PySem.W.codeIn K cd_has_flag "has_flag" = true)
    (k_has_flag : PySem.W.keepIn K (.ref f_has_flag) = true)
    (a_data_of : PySem.W.nsIn K mainGlobals "data_of" = some (some (.ref f_data_of)))
    (l_data_of : K.lookup f_data_of = some ⟨oc_data_of, od_data_of, .func (PySem.W.fnOf "data_of" "data_of" (defArgs s_data_of) (defBody s_data_of) (defScope s_data_of) .none kV_data_of dc_data_of pm_data_of an_data_of cd_data_of ct_data_of), sl_data_of⟩)
    (c_data_of : PySem.W.codeIn K cd_data_of "data_of" = true)
    (k_data_of : PySem.W.keepIn K (.ref f_data_of) = true)
    (a_segment_without_sum : PySem.W.nsIn K mainGlobals "segment_without_sum" = some (some (.ref f_segment_without_sum)))
    (l_segment_without_sum : K.lookup f_segment_without_sum = some ⟨oc_segment_without_sum, od_segment_without_sum, .func (PySem.W.fnOf "segment_without_sum" "segment_without_sum" (defArgs s_segment_without_sum) (defBody s_segment_without_sum) (defScope s_segment_without_sum) .none kV_segment_without_sum dc_segment_without_sum pm_segment_without_sum an_segment_without_sum cd_segment_without_sum ct_segment_without_sum), sl_segment_without_sum⟩)
    (c_segment_without_sum : PySem.W.codeIn K cd_segment_without_sum "segment_without_sum" = true)
    (k_segment_without_sum : PySem.W.keepIn K (.ref f_segment_without_sum) = true)
    (a_row_of : PySem.W.nsIn K mainGlobals "row_of" = some (some (.ref f_row_of)))
    (l_row_of : K.lookup f_row_of = some ⟨oc_row_of, od_row_of, .func (PySem.W.fnOf "row_of" "row_of" (defArgs s_row_of) (defBody s_row_of) (defScope s_row_of) .none kV_row_of dc_row_of pm_row_of an_row_of cd_row_of ct_row_of), sl_row_of⟩)
    (c_row_of : PySem.W.codeIn K cd_row_of "row_of" = true)
    (k_row_of : PySem.W.keepIn K (.ref f_row_of) = true)
    (a_nearest : PySem.W.nsIn K mainGlobals "nearest" = some (some (.ref f_nearest)))
    (l_nearest : K.lookup f_nearest = some ⟨oc_nearest, od_nearest, .func (PySem.W.fnOf "nearest" "nearest" (defArgs s_nearest) (defBody s_nearest) (defScope s_nearest) .none kV_nearest dc_nearest pm_nearest an_nearest cd_nearest ct_nearest), sl_nearest⟩)
    (c_nearest : PySem.W.codeIn K cd_nearest "nearest" = true)
    (k_nearest : PySem.W.keepIn K (.ref f_nearest) = true)
    (a_End_init : PySem.W.findIn K (.ref C_End) "__init__" = some (some (.ref f_End_init)))
    (i_End_init : PySem.W.isFn K (.ref f_End_init) = true)
    (l_End_init : K.lookup f_End_init = some ⟨oc_End_init, od_End_init, .func (PySem.W.fnOf "__init__" "End.__init__" (defArgs s_End_init) (defBody s_End_init) (defScope s_End_init) .none kV_End_init dc_End_init pm_End_init an_End_init cd_End_init ct_End_init), sl_End_init⟩)
    (c_End_init : PySem.W.codeIn K cd_End_init "End.__init__" = true)
    (k_End_init : PySem.W.keepIn K (.ref f_End_init) = true)
    (a_End_room : PySem.W.findIn K (.ref C_End) "room" = some (some (.ref f_End_room)))
    (i_End_room : PySem.W.isFn K (.ref f_End_room) = true)
    (l_End_room : K.lookup f_End_room = some ⟨oc_End_room, od_End_room, .func (PySem.W.fnOf "room" "End.room" (defArgs s_End_room) (defBody s_End_room) (defScope s_End_room) .none kV_End_room dc_End_room pm_End_room an_End_room cd_End_room ct_End_room), sl_End_room⟩)
    (c_End_room : PySem.W.codeIn K cd_End_room "End.room" = true)
    (k_End_room : PySem.W.keepIn K (.ref f_End_room) = true)
    (a_End_end_number : PySem.W.findIn K (.ref C_End) "end_number" = some (some (.ref f_End_end_number)))
    (i_End_end_number : PySem.W.isFn K (.ref f_End_end_number) = true)
    (l_End_end_number : K.lookup f_End_end_number = some ⟨oc_End_end_number, od_End_end_number, .func (PySem.W.fnOf "end_number" "End.end_number" (defArgs s_End_end_number) (defBody s_End_end_number) (defScope s_End_end_number) .none kV_End_end_number dc_End_end_number pm_End_end_number an_End_end_number cd_End_end_number ct_End_end_number), sl_End_end_number⟩)
    (c_End_end_number : PySem.W.codeIn K cd_End_end_number "End.end_number" = true)
    (k_End_end_number : PySem.W.keepIn K (.ref f_End_end_number) = true)
    (a_End_other_has_begun : PySem.W.findIn K (.ref C_End) "other_has_begun" = some (some (.ref f_End_other_has_begun)))
    (i_End_other_has_begun : PySem.W.isFn K (.ref f_End_other_has_begun) = true)
    (l_End_other_has_begun : K.lookup f_End_other_has_begun = some ⟨oc_End_other_has_begun, od_End_other_has_begun, .func (PySem.W.fnOf "other_has_begun" "End.other_has_begun" (defArgs s_End_other_has_begun) (defBody s_End_other_has_begun) (defScope s_End_other_has_begun) .none kV_End_other_has_begun dc_End_other_has_begun pm_End_other_has_begun an_End_other_has_begun cd_End_other_has_begun ct_End_other_has_begun), sl_End_other_has_begun⟩)
    (c_End_other_has_begun : PySem.W.codeIn K cd_End_other_has_begun "End.other_has_begun" = true)
    (k_End_other_has_begun : PySem.W.keepIn K (.ref f_End_other_has_begun) = true)
    (a_End_next_in_order : PySem.W.findIn K (.ref C_End) "next_in_order" = some (some (.ref f_End_next_in_order)))
    (i_End_next_in_order : PySem.W.isFn K (.ref f_End_next_in_order) = true)
    (l_End_next_in_order : K.lookup f_End_next_in_order = some ⟨oc_End_next_in_order, od_End_next_in_order, .func (PySem.W.fnOf "next_in_order" "End.next_in_order" (defArgs s_End_next_in_order) (defBody s_End_next_in_order) (defScope s_End_next_in_order) .none kV_End_next_in_order dc_End_next_in_order pm_End_next_in_order an_End_next_in_order cd_End_next_in_order ct_End_next_in_order), sl_End_next_in_order⟩)
    (c_End_next_in_order : PySem.W.codeIn K cd_End_next_in_order "End.next_in_order" = true)
    (k_End_next_in_order : PySem.W.keepIn K (.ref f_End_next_in_order) = true)
    (a_End_window : PySem.W.findIn K (.ref C_End) "window" = some (some (.ref f_End_window)))
    (i_End_window : PySem.W.isFn K (.ref f_End_window) = true)
    (l_End_window : K.lookup f_End_window = some ⟨oc_End_window, od_End_window, .func (PySem.W.fnOf "window" "End.window" (defArgs s_End_window) (defBody s_End_window) (defScope s_End_window) .none kV_End_window dc_End_window pm_End_window an_End_window cd_End_window ct_End_window), sl_End_window⟩)
    (c_End_window : PySem.W.codeIn K cd_End_window "End.window" = true)
    (k_End_window : PySem.W.keepIn K (.ref f_End_window) = true)
    (a_End_whole : PySem.W.findIn K (.ref C_End) "whole" = some (some (.ref f_End_whole)))
    (i_End_whole : PySem.W.isFn K (.ref f_End_whole) = true)
    (l_End_whole : K.lookup f_End_whole = some ⟨oc_End_whole, od_End_whole, .func (PySem.W.fnOf "whole" "End.whole" (defArgs s_End_whole) (defBody s_End_whole) (defScope s_End_whole) .none kV_End_whole dc_End_whole pm_End_whole an_End_whole cd_End_whole ct_End_whole), sl_End_whole⟩)
    (c_End_whole : PySem.W.codeIn K cd_End_whole "End.whole" = true)
    (k_End_whole : PySem.W.keepIn K (.ref f_End_whole) = true)
    (a_End_wanted : PySem.W.findIn K (.ref C_End) "wanted" = some (some (.ref f_End_wanted)))
    (i_End_wanted : PySem.W.isFn K (.ref f_End_wanted) = true)
    (l_End_wanted : K.lookup f_End_wanted = some ⟨oc_End_wanted, od_End_wanted, .func (PySem.W.fnOf "wanted" "End.wanted" (defArgs s_End_wanted) (defBody s_End_wanted) (defScope s_End_wanted) .none kV_End_wanted dc_End_wanted pm_End_wanted an_End_wanted cd_End_wanted ct_End_wanted), sl_End_wanted⟩)
    (c_End_wanted : PySem.W.codeIn K cd_End_wanted "End.wanted" = true)
    (k_End_wanted : PySem.W.keepIn K (.ref f_End_wanted) = true)
    (a_End_write : PySem.W.findIn K (.ref C_End) "write" = some (some (.ref f_End_write)))
    (i_End_write : PySem.W.isFn K (.ref f_End_write) = true)
    (l_End_write : K.lookup f_End_write = some ⟨oc_End_write, od_End_write, .func (PySem.W.fnOf "write" "End.write" (defArgs s_End_write) (defBody s_End_write) (defScope s_End_write) .none kV_End_write dc_End_write pm_End_write an_End_write cd_End_write ct_End_write), sl_End_write⟩)
    (c_End_write : PySem.W.codeIn K cd_End_write "End.write" = true)
    (k_End_write : PySem.W.keepIn K (.ref f_End_write) = true)
    (a_End_close : PySem.W.findIn K (.ref C_End) "close" = some (some (.ref f_End_close)))
    (i_End_close : PySem.W.isFn K (.ref f_End_close) = true)
    (l_End_close : K.lookup f_End_close = some ⟨oc_End_close, od_End_close, .func (PySem.W.fnOf "close" "End.close" (defArgs s_End_close) (defBody s_End_close) (defScope s_End_close) .none kV_End_close dc_End_close pm_End_close an_End_close cd_End_close ct_End_close), sl_End_close⟩)
    (c_End_close : PySem.W.codeIn K cd_End_close "End.close" = true)
    (k_End_close : PySem.W.keepIn K (.ref f_End_close) = true)
    (a_End_read : PySem.W.findIn K (.ref C_End) "read" = some (some (.ref f_End_read)))
    (i_End_read : PySem.W.isFn K (.ref f_End_read) = true)
    (l_End_read : K.lookup f_End_read = some ⟨oc_End_read, od_End_read, .func (PySem.W.fnOf "read" "End.read" (defArgs s_End_read) (defBody s_End_read) (defScope s_End_read) .none kV_End_read dc_End_read pm_End_read an_End_read cd_End_read ct_End_read), sl_End_read⟩)
    (c_End_read : PySem.W.codeIn K cd_End_read "End.read" = true)
    (k_End_read : PySem.W.keepIn K (.ref f_End_read) = true)
    (a_End_nothing_to_read : PySem.W.findIn K (.ref C_End) "nothing_to_read" = some (some (.ref f_End_nothing_to_read)))
    (i_End_nothing_to_read : PySem.W.isFn K (.ref f_End_nothing_to_read) = true)
    (l_End_nothing_to_read : K.lookup f_End_nothing_to_read = some ⟨oc_End_nothing_to_read, od_End_nothing_to_read, .func (PySem.W.fnOf "nothing_to_read" "End.nothing_to_read" (defArgs s_End_nothing_to_read) (defBody s_End_nothing_to_read) (defScope s_End_nothing_to_read) .none kV_End_nothing_to_read dc_End_nothing_to_read pm_End_nothing_to_read an_End_nothing_to_read cd_End_nothing_to_read ct_End_nothing_to_read), sl_End_nothing_to_read⟩)
    (c_End_nothing_to_read : PySem.W.codeIn K cd_End_nothing_to_read "End.nothing_to_read" = true)
    (k_End_nothing_to_read : PySem.W.keepIn K (.ref f_End_nothing_to_read) = true)
    (a_End_take_in : PySem.W.findIn K (.ref C_End) "take_in" = some (some (.ref f_End_take_in)))
    (i_End_take_in : PySem.W.isFn K (.ref f_End_take_in) = true)
    (l_End_take_in : K.lookup f_End_take_in = some ⟨oc_End_take_in, od_End_take_in, .func (PySem.W.fnOf "take_in" "End.take_in" (defArgs s_End_take_in) (defBody s_End_take_in) (defScope s_End_take_in) .none kV_End_take_in dc_End_take_in pm_End_take_in an_End_take_in cd_End_take_in ct_End_take_in), sl_End_take_in⟩)
    (c_End_take_in : PySem.W.codeIn K cd_End_take_in "End.take_in" = true)
    (k_End_take_in : PySem.W.keepIn K (.ref f_End_take_in) = true)
    (a_End_comes_too_early : PySem.W.findIn K (.ref C_End) "comes_too_early" = some (some (.ref f_End_comes_too_early)))
    (i_End_comes_too_early : PySem.W.isFn K (.ref f_End_comes_too_early) = true)
    (l_End_comes_too_early : K.lookup f_End_comes_too_early = some ⟨oc_End_comes_too_early, od_End_comes_too_early, .func (PySem.W.fnOf "comes_too_early" "End.comes_too_early" (defArgs s_End_comes_too_early) (defBody s_End_comes_too_early) (defScope s_End_comes_too_early) .none kV_End_comes_too_early dc_End_comes_too_early pm_End_comes_too_early an_End_comes_too_early cd_End_comes_too_early ct_End_comes_too_early), sl_End_comes_too_early⟩)
    (c_End_comes_too_early : PySem.W.codeIn K cd_End_comes_too_early "End.comes_too_early" = true)
    (k_End_comes_too_early : PySem.W.keepIn K (.ref f_End_comes_too_early) = true)
    (a_End_take_break : PySem.W.findIn K (.ref C_End) "take_break" = some (some (.ref f_End_take_break)))
    (i_End_take_break : PySem.W.isFn K (.ref f_End_take_break) = true)
    (l_End_take_break : K.lookup f_End_take_break = some ⟨oc_End_take_break, od_End_take_break, .func (PySem.W.fnOf "take_break" "End.take_break" (defArgs s_End_take_break) (defBody s_End_take_break) (defScope s_End_take_break) .none kV_End_take_break dc_End_take_break pm_End_take_break an_End_take_break cd_End_take_break ct_End_take_break), sl_End_take_break⟩)
    (c_End_take_break : PySem.W.codeIn K cd_End_take_break "End.take_break" = true)
    (k_End_take_break : PySem.W.keepIn K (.ref f_End_take_break) = true)
    (a_End_wanted_place : PySem.W.findIn K (.ref C_End) "wanted_place" = some (some (.ref f_End_wanted_place)))
    (i_End_wanted_place : PySem.W.isFn K (.ref f_End_wanted_place) = true)
    (l_End_wanted_place : K.lookup f_End_wanted_place = some ⟨oc_End_wanted_place, od_End_wanted_place, .func (PySem.W.fnOf "wanted_place" "End.wanted_place" (defArgs s_End_wanted_place) (defBody s_End_wanted_place) (defScope s_End_wanted_place) .none kV_End_wanted_place dc_End_wanted_place pm_End_wanted_place an_End_wanted_place cd_End_wanted_place ct_End_wanted_place), sl_End_wanted_place⟩)
    (c_End_wanted_place : PySem.W.codeIn K cd_End_wanted_place "End.wanted_place" = true)
    (k_End_wanted_place : PySem.W.keepIn K (.ref f_End_wanted_place) = true)
    (a_End_take_answer : PySem.W.findIn K (.ref C_End) "take_answer" = some (some (.ref f_End_take_answer)))
    (i_End_take_answer : PySem.W.isFn K (.ref f_End_take_answer) = true)
    (l_End_take_answer : K.lookup f_End_take_answer = some ⟨oc_End_take_answer, od_End_take_answer, .func (PySem.W.fnOf "take_answer" "End.take_answer" (defArgs s_End_take_answer) (defBody s_End_take_answer) (defScope s_End_take_answer) .none kV_End_take_answer dc_End_take_answer pm_End_take_answer an_End_take_answer cd_End_take_answer ct_End_take_answer), sl_End_take_answer⟩)
    (c_End_take_answer : PySem.W.codeIn K cd_End_take_answer "End.take_answer" = true)
    (k_End_take_answer : PySem.W.keepIn K (.ref f_End_take_answer) = true)
    (a_End_take_data : PySem.W.findIn K (.ref C_End) "take_data" = some (some (.ref f_End_take_data)))
    (i_End_take_data : PySem.W.isFn K (.ref f_End_take_data) = true)
    (l_End_take_data : K.lookup f_End_take_data = some ⟨oc_End_take_data, od_End_take_data, .func (PySem.W.fnOf "take_data" "End.take_data" (defArgs s_End_take_data) (defBody s_End_take_data) (defScope s_End_take_data) .none kV_End_take_data dc_End_take_data pm_End_take_data an_End_take_data cd_End_take_data ct_End_take_data), sl_End_take_data⟩)
    (c_End_take_data : PySem.W.codeIn K cd_End_take_data "End.take_data" = true)
    (k_End_take_data : PySem.W.keepIn K (.ref f_End_take_data) = true)
    (a_End_number_of_data : PySem.W.findIn K (.ref C_End) "number_of_data" = some (some (.ref f_End_number_of_data)))
    (i_End_number_of_data : PySem.W.isFn K (.ref f_End_number_of_data) = true)
    (l_End_number_of_data : K.lookup f_End_number_of_data = some ⟨oc_End_number_of_data, od_End_number_of_data, .func (PySem.W.fnOf "number_of_data" "End.number_of_data" (defArgs s_End_number_of_data) (defBody s_End_number_of_data) (defScope s_End_number_of_data) .none kV_End_number_of_data dc_End_number_of_data pm_End_number_of_data an_End_number_of_data cd_End_number_of_data ct_End_number_of_data), sl_End_number_of_data⟩)
    (c_End_number_of_data : PySem.W.codeIn K cd_End_number_of_data "End.number_of_data" = true)
    (k_End_number_of_data : PySem.W.keepIn K (.ref f_End_number_of_data) = true)
    (a_End_bring_in_order : PySem.W.findIn K (.ref C_End) "bring_in_order" = some (some (.ref f_End_bring_in_order)))
    (i_End_bring_in_order : PySem.W.isFn K (.ref f_End_bring_in_order) = true)
    (l_End_bring_in_order : K.lookup f_End_bring_in_order = some ⟨oc_End_bring_in_order, od_End_bring_in_order, .func (PySem.W.fnOf "bring_in_order" "End.bring_in_order" (defArgs s_End_bring_in_order) (defBody s_End_bring_in_order) (defScope s_End_bring_in_order) .none kV_End_bring_in_order dc_End_bring_in_order pm_End_bring_in_order an_End_bring_in_order cd_End_bring_in_order ct_End_bring_in_order), sl_End_bring_in_order⟩)
    (c_End_bring_in_order : PySem.W.codeIn K cd_End_bring_in_order "End.bring_in_order" = true)
    (k_End_bring_in_order : PySem.W.keepIn K (.ref f_End_bring_in_order) = true)
    (a_End_out : PySem.W.findIn K (.ref C_End) "out" = some (some (.ref f_End_out)))
    (i_End_out : PySem.W.isFn K (.ref f_End_out) = true)
    (l_End_out : K.lookup f_End_out = some ⟨oc_End_out, od_End_out, .func (PySem.W.fnOf "out" "End.out" (defArgs s_End_out) (defBody s_End_out) (defScope s_End_out) .none kV_End_out dc_End_out pm_End_out an_End_out cd_End_out ct_End_out), sl_End_out⟩)
    (c_End_out : PySem.W.codeIn K cd_End_out "End.out" = true)
    (k_End_out : PySem.W.keepIn K (.ref f_End_out) = true)
    (a_End_beginning_is_due : PySem.W.findIn K (.ref C_End) "beginning_is_due" = some (some (.ref f_End_beginning_is_due)))
    (i_End_beginning_is_due : PySem.W.isFn K (.ref f_End_beginning_is_due) = true)
    (l_End_beginning_is_due : K.lookup f_End_beginning_is_due = some ⟨oc_End_beginning_is_due, od_End_beginning_is_due, .func (PySem.W.fnOf "beginning_is_due" "End.beginning_is_due" (defArgs s_End_beginning_is_due) (defBody s_End_beginning_is_due) (defScope s_End_beginning_is_due) .none kV_End_beginning_is_due dc_End_beginning_is_due pm_End_beginning_is_due an_End_beginning_is_due cd_End_beginning_is_due ct_End_beginning_is_due), sl_End_beginning_is_due⟩)
    (c_End_beginning_is_due : PySem.W.codeIn K cd_End_beginning_is_due "End.beginning_is_due" = true)
    (k_End_beginning_is_due : PySem.W.keepIn K (.ref f_End_beginning_is_due) = true)
    (a_End_data_due : PySem.W.findIn K (.ref C_End) "data_due" = some (some (.ref f_End_data_due)))
    (i_End_data_due : PySem.W.isFn K (.ref f_End_data_due) = true)
    (l_End_data_due : K.lookup f_End_data_due = some ⟨oc_End_data_due, od_End_data_due, .func (PySem.W.fnOf "data_due" "End.data_due" (defArgs s_End_data_due) (defBody s_End_data_due) (defScope s_End_data_due) .none kV_End_data_due dc_End_data_due pm_End_data_due an_End_data_due cd_End_data_due ct_End_data_due), sl_End_data_due⟩)
    (c_End_data_due : PySem.W.codeIn K cd_End_data_due "End.data_due" = true)
    (k_End_data_due : PySem.W.keepIn K (.ref f_End_data_due) = true)
    (a_End_end_is_due : PySem.W.findIn K (.ref C_End) "end_is_due" = some (some (.ref f_End_end_is_due)))
    (i_End_end_is_due : PySem.W.isFn K (.ref f_End_end_is_due) = true)
    (l_End_end_is_due : K.lookup f_End_end_is_due = some ⟨oc_End_end_is_due, od_End_end_is_due, .func (PySem.W.fnOf "end_is_due" "End.end_is_due" (defArgs s_End_end_is_due) (defBody s_End_end_is_due) (defScope s_End_end_is_due) .none kV_End_end_is_due dc_End_end_is_due pm_End_end_is_due an_End_end_is_due cd_End_end_is_due ct_End_end_is_due), sl_End_end_is_due⟩)
    (c_End_end_is_due : PySem.W.codeIn K cd_End_end_is_due "End.end_is_due" = true)
    (k_End_end_is_due : PySem.W.keepIn K (.ref f_End_end_is_due) = true)
    (a_End_answer_is_due : PySem.W.findIn K (.ref C_End) "answer_is_due" = some (some (.ref f_End_answer_is_due)))
    (i_End_answer_is_due : PySem.W.isFn K (.ref f_End_answer_is_due) = true)
    (l_End_answer_is_due : K.lookup f_End_answer_is_due = some ⟨oc_End_answer_is_due, od_End_answer_is_due, .func (PySem.W.fnOf "answer_is_due" "End.answer_is_due" (defArgs s_End_answer_is_due) (defBody s_End_answer_is_due) (defScope s_End_answer_is_due) .none kV_End_answer_is_due dc_End_answer_is_due pm_End_answer_is_due an_End_answer_is_due cd_End_answer_is_due ct_End_answer_is_due), sl_End_answer_is_due⟩)
    (c_End_answer_is_due : PySem.W.codeIn K cd_End_answer_is_due "End.answer_is_due" = true)
    (k_End_answer_is_due : PySem.W.keepIn K (.ref f_End_answer_is_due) = true)
    (a_End_send : PySem.W.findIn K (.ref C_End) "send" = some (some (.ref f_End_send)))
    (i_End_send : PySem.W.isFn K (.ref f_End_send) = true)
    (l_End_send : K.lookup f_End_send = some ⟨oc_End_send, od_End_send, .func (PySem.W.fnOf "send" "End.send" (defArgs s_End_send) (defBody s_End_send) (defScope s_End_send) .none kV_End_send dc_End_send pm_End_send an_End_send cd_End_send ct_End_send), sl_End_send⟩)
    (c_End_send : PySem.W.codeIn K cd_End_send "End.send" = true)
    (k_End_send : PySem.W.keepIn K (.ref f_End_send) = true)
    (a_End_tick : PySem.W.findIn K (.ref C_End) "tick" = some (some (.ref f_End_tick)))
    (i_End_tick : PySem.W.isFn K (.ref f_End_tick) = true)
    (l_End_tick : K.lookup f_End_tick = some ⟨oc_End_tick, od_End_tick, .func (PySem.W.fnOf "tick" "End.tick" (defArgs s_End_tick) (defBody s_End_tick) (defScope s_End_tick) .none kV_End_tick dc_End_tick pm_End_tick an_End_tick cd_End_tick ct_End_tick), sl_End_tick⟩)
    (c_End_tick : PySem.W.codeIn K cd_End_tick "End.tick" = true)
    (k_End_tick : PySem.W.keepIn K (.ref f_End_tick) = true)
    (a_End_waits : PySem.W.findIn K (.ref C_End) "waits" = some (some (.ref f_End_waits)))
    (i_End_waits : PySem.W.isFn K (.ref f_End_waits) = true)
    (l_End_waits : K.lookup f_End_waits = some ⟨oc_End_waits, od_End_waits, .func (PySem.W.fnOf "waits" "End.waits" (defArgs s_End_waits) (defBody s_End_waits) (defScope s_End_waits) .none kV_End_waits dc_End_waits pm_End_waits an_End_waits cd_End_waits ct_End_waits), sl_End_waits⟩)
    (c_End_waits : PySem.W.codeIn K cd_End_waits "End.waits" = true)
    (k_End_waits : PySem.W.keepIn K (.ref f_End_waits) = true)
    (a_End_state : PySem.W.findIn K (.ref C_End) "state" = some (some (.ref f_End_state)))
    (i_End_state : PySem.W.isFn K (.ref f_End_state) = true)
    (l_End_state : K.lookup f_End_state = some ⟨oc_End_state, od_End_state, .func (PySem.W.fnOf "state" "End.state" (defArgs s_End_state) (defBody s_End_state) (defScope s_End_state) .none kV_End_state dc_End_state pm_End_state an_End_state cd_End_state ct_End_state), sl_End_state⟩)
    (c_End_state : PySem.W.codeIn K cd_End_state "End.state" = true)
    (k_End_state : PySem.W.keepIn K (.ref f_End_state) = true)
    (a_answers : PySem.W.nsIn K mainGlobals "answers" = some (some (.ref f_answers)))
    (l_answers : K.lookup f_answers = some ⟨oc_answers, od_answers, .func (PySem.W.fnOf "answers" "answers" (defArgs s_answers) (defBody s_answers) (defScope s_answers) .none kV_answers dc_answers pm_answers an_answers cd_answers ct_answers), sl_answers⟩)
    (c_answers : PySem.W.codeIn K cd_answers "answers" = true)
    (k_answers : PySem.W.keepIn K (.ref f_answers) = true)
    (a_split_calls : PySem.W.nsIn K mainGlobals "split_calls" = some (some (.ref f_split_calls)))
    (l_split_calls : K.lookup f_split_calls = some ⟨oc_split_calls, od_split_calls, .func (PySem.W.fnOf "split_calls" "split_calls" (defArgs s_split_calls) (defBody s_split_calls) (defScope s_split_calls) .none kV_split_calls dc_split_calls pm_split_calls an_split_calls cd_split_calls ct_split_calls), sl_split_calls⟩)
    (c_split_calls : PySem.W.codeIn K cd_split_calls "split_calls" = true)
    (k_split_calls : PySem.W.keepIn K (.ref f_split_calls) = true)
    (a_how_many_numbers : PySem.W.nsIn K mainGlobals "how_many_numbers" = some (some (.ref f_how_many_numbers)))
    (l_how_many_numbers : K.lookup f_how_many_numbers = some ⟨oc_how_many_numbers, od_how_many_numbers, .func (PySem.W.fnOf "how_many_numbers" "how_many_numbers" (defArgs s_how_many_numbers) (defBody s_how_many_numbers) (defScope s_how_many_numbers) .none kV_how_many_numbers dc_how_many_numbers pm_how_many_numbers an_how_many_numbers cd_how_many_numbers ct_how_many_numbers), sl_how_many_numbers⟩)
    (c_how_many_numbers : PySem.W.codeIn K cd_how_many_numbers "how_many_numbers" = true)
    (k_how_many_numbers : PySem.W.keepIn K (.ref f_how_many_numbers) = true)
    (a_in_range : PySem.W.nsIn K mainGlobals "in_range" = some (some (.ref f_in_range)))
    (l_in_range : K.lookup f_in_range = some ⟨oc_in_range, od_in_range, .func (PySem.W.fnOf "in_range" "in_range" (defArgs s_in_range) (defBody s_in_range) (defScope s_in_range) .none kV_in_range dc_in_range pm_in_range an_in_range cd_in_range ct_in_range), sl_in_range⟩)
    (c_in_range : PySem.W.codeIn K cd_in_range "in_range" = true)
    (k_in_range : PySem.W.keepIn K (.ref f_in_range) = true)
    (a_answer_call : PySem.W.nsIn K mainGlobals "answer_call" = some (some (.ref f_answer_call)))
    (l_answer_call : K.lookup f_answer_call = some ⟨oc_answer_call, od_answer_call, .func (PySem.W.fnOf "answer_call" "answer_call" (defArgs s_answer_call) (defBody s_answer_call) (defScope s_answer_call) .none kV_answer_call dc_answer_call pm_answer_call an_answer_call cd_answer_call ct_answer_call), sl_answer_call⟩)
    (c_answer_call : PySem.W.codeIn K cd_answer_call "answer_call" = true)
    (k_answer_call : PySem.W.keepIn K (.ref f_answer_call) = true)
    (pg_End : PySem.W.plainGet K C_End Str.empty = true)
    (hd_End : PySem.W.hasDictIn K C_End = true)
    (po_End : PySem.W.plainOver K C_End = true)
    (sa_End : PySem.W.findIn K (.ref C_End) "__setattr__" = some (some (.builtin "object.__setattr__")))
    (mk_End : PySem.W.makesIn K C_End = true)
    (kc_End : PySem.W.keepIn K (.ref C_End) = true)
    (n_End_first : PySem.W.findIn K (.ref C_End) "first" = some none)
    (n_End_calling : PySem.W.findIn K (.ref C_End) "calling" = some none)
    (n_End_written : PySem.W.findIn K (.ref C_End) "written" = some none)
    (n_End_closed : PySem.W.findIn K (.ref C_End) "closed" = some none)
    (n_End_acked : PySem.W.findIn K (.ref C_End) "acked" = some none)
    (n_End_next_number : PySem.W.findIn K (.ref C_End) "next_number" = some none)
    (n_End_sent : PySem.W.findIn K (.ref C_End) "sent" = some none)
    (n_End_theirs : PySem.W.findIn K (.ref C_End) "theirs" = some none)
    (n_End_their_first : PySem.W.findIn K (.ref C_End) "their_first" = some none)
    (n_End_came : PySem.W.findIn K (.ref C_End) "came" = some none)
    (n_End_unread : PySem.W.findIn K (.ref C_End) "unread" = some none)
    (n_End_ahead : PySem.W.findIn K (.ref C_End) "ahead" = some none)
    (n_End_their_end : PySem.W.findIn K (.ref C_End) "their_end" = some none)
    (n_End_owes : PySem.W.findIn K (.ref C_End) "owes" = some none)
    (n_End_waited : PySem.W.findIn K (.ref C_End) "waited" = some none)
    (n_End_patience : PySem.W.findIn K (.ref C_End) "patience" = some none)
    (n_End_probe : PySem.W.findIn K (.ref C_End) "probe" = some none)
    (n_End_broken : PySem.W.findIn K (.ref C_End) "broken" = some none)
    (z_enumerate : PySem.W.nsIn K mainGlobals "enumerate" = some none)
    (z_len : PySem.W.nsIn K mainGlobals "len" = some none)
    (z_list : PySem.W.nsIn K mainGlobals "list" = some none)
    (z_max : PySem.W.nsIn K mainGlobals "max" = some none)
    (z_min : PySem.W.nsIn K mainGlobals "min" = some none)
    (z_range : PySem.W.nsIn K mainGlobals "range" = some none)
    (z_reversed : PySem.W.nsIn K mainGlobals "reversed" = some none)
    (v_HEAD : PySem.W.nsIn K mainGlobals "HEAD" = some (some (.int 14 t_HEAD)))
    (v_WANTED_AT : PySem.W.nsIn K mainGlobals "WANTED_AT" = some (some (.int 4 t_WANTED_AT)))
    (v_FLAGS_AT : PySem.W.nsIn K mainGlobals "FLAGS_AT" = some (some (.int 8 t_FLAGS_AT)))
    (v_ZERO_AT : PySem.W.nsIn K mainGlobals "ZERO_AT" = some (some (.int 9 t_ZERO_AT)))
    (v_WINDOW_AT : PySem.W.nsIn K mainGlobals "WINDOW_AT" = some (some (.int 10 t_WINDOW_AT)))
    (v_BEGINS : PySem.W.nsIn K mainGlobals "BEGINS" = some (some (.int 1 t_BEGINS)))
    (v_ENDS : PySem.W.nsIn K mainGlobals "ENDS" = some (some (.int 2 t_ENDS)))
    (v_ANSWERS : PySem.W.nsIn K mainGlobals "ANSWERS" = some (some (.int 4 t_ANSWERS)))
    (v_BREAKS : PySem.W.nsIn K mainGlobals "BREAKS" = some (some (.int 8 t_BREAKS)))
    (v_ROUND : PySem.W.nsIn K mainGlobals "ROUND" = some (some (.int 4294967296 t_ROUND)))
    (v_HALF_ROUND : PySem.W.nsIn K mainGlobals "HALF_ROUND" = some (some (.int 2147483648 t_HALF_ROUND)))
    (v_WORD : PySem.W.nsIn K mainGlobals "WORD" = some (some (.int 65536 t_WORD)))
    (v_FULL_WORD : PySem.W.nsIn K mainGlobals "FULL_WORD" = some (some (.int 65535 t_FULL_WORD)))
    (v_SEND_ROOM : PySem.W.nsIn K mainGlobals "SEND_ROOM" = some (some (.int 16384 t_SEND_ROOM)))
    (v_FULL_WINDOW : PySem.W.nsIn K mainGlobals "FULL_WINDOW" = some (some (.int 8192 t_FULL_WINDOW)))
    (v_SMALL_WINDOW : PySem.W.nsIn K mainGlobals "SMALL_WINDOW" = some (some (.int 536 t_SMALL_WINDOW)))
    (v_MOST_DATA : PySem.W.nsIn K mainGlobals "MOST_DATA" = some (some (.int 536 t_MOST_DATA)))
    (v_FIRST_PATIENCE : PySem.W.nsIn K mainGlobals "FIRST_PATIENCE" = some (some (.int 1000 t_FIRST_PATIENCE)))
    (v_MOST_PATIENCE : PySem.W.nsIn K mainGlobals "MOST_PATIENCE" = some (some (.int 60000 t_MOST_PATIENCE)))
    (v_CLOSED_OR_BROKEN : PySem.W.nsIn K mainGlobals "CLOSED_OR_BROKEN" = some (some (.int (-1) t_CLOSED_OR_BROKEN)))
    (v_ALL_READ : PySem.W.nsIn K mainGlobals "ALL_READ" = some (some (.int (-1) t_ALL_READ)))
    (v_BROKEN : PySem.W.nsIn K mainGlobals "BROKEN" = some (some (.int (-3) t_BROKEN)))
    (v_OPEN : PySem.W.nsIn K mainGlobals "OPEN" = some (some (.int 1 t_OPEN)))
    (v_WRITE : PySem.W.nsIn K mainGlobals "WRITE" = some (some (.int 2 t_WRITE)))
    (v_CLOSE : PySem.W.nsIn K mainGlobals "CLOSE" = some (some (.int 3 t_CLOSE)))
    (v_READ : PySem.W.nsIn K mainGlobals "READ" = some (some (.int 4 t_READ)))
    (v_IN : PySem.W.nsIn K mainGlobals "IN" = some (some (.int 5 t_IN)))
    (v_OUT : PySem.W.nsIn K mainGlobals "OUT" = some (some (.int 6 t_OUT)))
    (v_TICK : PySem.W.nsIn K mainGlobals "TICK" = some (some (.int 7 t_TICK)))
    (v_STATE : PySem.W.nsIn K mainGlobals "STATE" = some (some (.int 8 t_STATE)))
    (v_MOST_READ : PySem.W.nsIn K mainGlobals "MOST_READ" = some (some (.int 1000000 t_MOST_READ)))
    (v_LONGEST_SEGMENT : PySem.W.nsIn K mainGlobals "LONGEST_SEGMENT" = some (some (.int 65535 t_LONGEST_SEGMENT)))
    (v_LONGEST_TICK : PySem.W.nsIn K mainGlobals "LONGEST_TICK" = some (some (.int 1000000 t_LONGEST_TICK)))
    (v_OUT_OF_RANGE : PySem.W.nsIn K mainGlobals "OUT_OF_RANGE" = some (some (.int (-2) t_OUT_OF_RANGE))) : ∃ a : Ad, Txt K mg a := by
  have F_is_right := fun_mk (st := s_is_right) l_is_right c_is_right k_is_right
  have b_is_right := F_is_right.binds (ps := ["segment"]) fun _ _ _ _ _ _ us hl => match us, hl with | [_], _ => rfl
  have F_sum_is_right := fun_mk (st := s_sum_is_right) l_sum_is_right c_sum_is_right k_sum_is_right
  have b_sum_is_right := F_sum_is_right.binds (ps := ["segment"]) fun _ _ _ _ _ _ us hl => match us, hl with | [_], _ => rfl
  have F_number_at := fun_mk (st := s_number_at) l_number_at c_number_at k_number_at
  have b_number_at := F_number_at.binds (ps := ["segment", "at", "length"]) fun _ _ _ _ _ _ us hl => match us, hl with | [_, _, _], _ => rfl
  have F_place_of := fun_mk (st := s_place_of) l_place_of c_place_of k_place_of
  have b_place_of := F_place_of.binds (ps := ["segment"]) fun _ _ _ _ _ _ us hl => match us, hl with | [_], _ => rfl
  have F_wanted_place_of := fun_mk (st := s_wanted_place_of) l_wanted_place_of c_wanted_place_of k_wanted_place_of
  have b_wanted_place_of := F_wanted_place_of.binds (ps := ["segment"]) fun _ _ _ _ _ _ us hl => match us, hl with | [_], _ => rfl
  have F_window_of := fun_mk (st := s_window_of) l_window_of c_window_of k_window_of
  have b_window_of := F_window_of.binds (ps := ["segment"]) fun _ _ _ _ _ _ us hl => match us, hl with | [_], _ => rfl
  have F_has_flag := fun_mk (st := s_has_flag) l_has_flag c_has_flag k_has_flag
  have b_has_flag := F_has_flag.binds (ps := ["segment", "flag"]) fun _ _ _ _ _ _ us hl => match us, hl with | [_, _], _ => rfl
  have F_data_of := fun_mk (st := s_data_of) l_data_of c_data_of k_data_of
  have b_data_of := F_data_of.binds (ps := ["segment"]) fun _ _ _ _ _ _ us hl => match us, hl with | [_], _ => rfl
  have F_segment_without_sum := fun_mk (st := s_segment_without_sum) l_segment_without_sum c_segment_without_sum k_segment_without_sum
  have b_segment_without_sum := F_segment_without_sum.binds (ps := ["place", "wanted_place", "flags", "window", "data"]) fun _ _ _ _ _ _ us hl => match us, hl with | [_, _, _, _, _], _ => rfl
  have F_row_of := fun_mk (st := s_row_of) l_row_of c_row_of k_row_of
  have b_row_of := F_row_of.binds (ps := ["number", "length"]) fun _ _ _ _ _ _ us hl => match us, hl with | [_, _], _ => rfl
  have F_nearest := fun_mk (st := s_nearest) l_nearest c_nearest k_nearest
  have b_nearest := F_nearest.binds (ps := ["number", "near"]) fun _ _ _ _ _ _ us hl => match us, hl with | [_, _], _ => rfl
  have F_End_init := fun_mk (st := s_End_init) l_End_init c_End_init k_End_init
  have b_End_init := F_End_init.binds (ps := ["self", "first", "calling"]) fun _ _ _ _ _ _ us hl => match us, hl with | [_, _, _], _ => rfl
  have F_End_room := fun_mk (st := s_End_room) l_End_room c_End_room k_End_room
  have b_End_room := F_End_room.binds (ps := ["self"]) fun _ _ _ _ _ _ us hl => match us, hl with | [_], _ => rfl
  have F_End_end_number := fun_mk (st := s_End_end_number) l_End_end_number c_End_end_number k_End_end_number
  have b_End_end_number := F_End_end_number.binds (ps := ["self"]) fun _ _ _ _ _ _ us hl => match us, hl with | [_], _ => rfl
  have F_End_other_has_begun := fun_mk (st := s_End_other_has_begun) l_End_other_has_begun c_End_other_has_begun k_End_other_has_begun
  have b_End_other_has_begun := F_End_other_has_begun.binds (ps := ["self"]) fun _ _ _ _ _ _ us hl => match us, hl with | [_], _ => rfl
  have F_End_next_in_order := fun_mk (st := s_End_next_in_order) l_End_next_in_order c_End_next_in_order k_End_next_in_order
  have b_End_next_in_order := F_End_next_in_order.binds (ps := ["self"]) fun _ _ _ _ _ _ us hl => match us, hl with | [_], _ => rfl
  have F_End_window := fun_mk (st := s_End_window) l_End_window c_End_window k_End_window
  have b_End_window := F_End_window.binds (ps := ["self"]) fun _ _ _ _ _ _ us hl => match us, hl with | [_], _ => rfl
  have F_End_whole := fun_mk (st := s_End_whole) l_End_whole c_End_whole k_End_whole
  have b_End_whole := F_End_whole.binds (ps := ["self"]) fun _ _ _ _ _ _ us hl => match us, hl with | [_], _ => rfl
  have F_End_wanted := fun_mk (st := s_End_wanted) l_End_wanted c_End_wanted k_End_wanted
  have b_End_wanted := F_End_wanted.binds (ps := ["self"]) fun _ _ _ _ _ _ us hl => match us, hl with | [_], _ => rfl
  have F_End_write := fun_mk (st := s_End_write) l_End_write c_End_write k_End_write
  have b_End_write := F_End_write.binds (ps := ["self", "row"]) fun _ _ _ _ _ _ us hl => match us, hl with | [_, _], _ => rfl
  have F_End_close := fun_mk (st := s_End_close) l_End_close c_End_close k_End_close
  have b_End_close := F_End_close.binds (ps := ["self"]) fun _ _ _ _ _ _ us hl => match us, hl with | [_], _ => rfl
  have F_End_read := fun_mk (st := s_End_read) l_End_read c_End_read k_End_read
  have b_End_read := F_End_read.binds (ps := ["self", "most"]) fun _ _ _ _ _ _ us hl => match us, hl with | [_, _], _ => rfl
  have F_End_nothing_to_read := fun_mk (st := s_End_nothing_to_read) l_End_nothing_to_read c_End_nothing_to_read k_End_nothing_to_read
  have b_End_nothing_to_read := F_End_nothing_to_read.binds (ps := ["self"]) fun _ _ _ _ _ _ us hl => match us, hl with | [_], _ => rfl
  have F_End_take_in := fun_mk (st := s_End_take_in) l_End_take_in c_End_take_in k_End_take_in
  have b_End_take_in := F_End_take_in.binds (ps := ["self", "segment"]) fun _ _ _ _ _ _ us hl => match us, hl with | [_, _], _ => rfl
  have F_End_comes_too_early := fun_mk (st := s_End_comes_too_early) l_End_comes_too_early c_End_comes_too_early k_End_comes_too_early
  have b_End_comes_too_early := F_End_comes_too_early.binds (ps := ["self", "segment"]) fun _ _ _ _ _ _ us hl => match us, hl with | [_, _], _ => rfl
  have F_End_take_break := fun_mk (st := s_End_take_break) l_End_take_break c_End_take_break k_End_take_break
  have b_End_take_break := F_End_take_break.binds (ps := ["self", "segment"]) fun _ _ _ _ _ _ us hl => match us, hl with | [_, _], _ => rfl
  have F_End_wanted_place := fun_mk (st := s_End_wanted_place) l_End_wanted_place c_End_wanted_place k_End_wanted_place
  have b_End_wanted_place := F_End_wanted_place.binds (ps := ["self"]) fun _ _ _ _ _ _ us hl => match us, hl with | [_], _ => rfl
  have F_End_take_answer := fun_mk (st := s_End_take_answer) l_End_take_answer c_End_take_answer k_End_take_answer
  have b_End_take_answer := F_End_take_answer.binds (ps := ["self", "segment"]) fun _ _ _ _ _ _ us hl => match us, hl with | [_, _], _ => rfl
  have F_End_take_data := fun_mk (st := s_End_take_data) l_End_take_data c_End_take_data k_End_take_data
  have b_End_take_data := F_End_take_data.binds (ps := ["self", "segment"]) fun _ _ _ _ _ _ us hl => match us, hl with | [_, _], _ => rfl
  have F_End_number_of_data := fun_mk (st := s_End_number_of_data) l_End_number_of_data c_End_number_of_data k_End_number_of_data
  have b_End_number_of_data := F_End_number_of_data.binds (ps := ["self", "segment"]) fun _ _ _ _ _ _ us hl => match us, hl with | [_, _], _ => rfl
  have F_End_bring_in_order := fun_mk (st := s_End_bring_in_order) l_End_bring_in_order c_End_bring_in_order k_End_bring_in_order
  have b_End_bring_in_order := F_End_bring_in_order.binds (ps := ["self"]) fun _ _ _ _ _ _ us hl => match us, hl with | [_], _ => rfl
  have F_End_out := fun_mk (st := s_End_out) l_End_out c_End_out k_End_out
  have b_End_out := F_End_out.binds (ps := ["self", "most"]) fun _ _ _ _ _ _ us hl => match us, hl with | [_, _], _ => rfl
  have F_End_beginning_is_due := fun_mk (st := s_End_beginning_is_due) l_End_beginning_is_due c_End_beginning_is_due k_End_beginning_is_due
  have b_End_beginning_is_due := F_End_beginning_is_due.binds (ps := ["self"]) fun _ _ _ _ _ _ us hl => match us, hl with | [_], _ => rfl
  have F_End_data_due := fun_mk (st := s_End_data_due) l_End_data_due c_End_data_due k_End_data_due
  have b_End_data_due := F_End_data_due.binds (ps := ["self", "most"]) fun _ _ _ _ _ _ us hl => match us, hl with | [_, _], _ => rfl
  have F_End_end_is_due := fun_mk (st := s_End_end_is_due) l_End_end_is_due c_End_end_is_due k_End_end_is_due
  have b_End_end_is_due := F_End_end_is_due.binds (ps := ["self", "bytes_before"]) fun _ _ _ _ _ _ us hl => match us, hl with | [_, _], _ => rfl
  have F_End_answer_is_due := fun_mk (st := s_End_answer_is_due) l_End_answer_is_due c_End_answer_is_due k_End_answer_is_due
  have b_End_answer_is_due := F_End_answer_is_due.binds (ps := ["self"]) fun _ _ _ _ _ _ us hl => match us, hl with | [_], _ => rfl
  have F_End_send := fun_mk (st := s_End_send) l_End_send c_End_send k_End_send
  have b_End_send := F_End_send.binds (ps := ["self", "mark", "data"]) fun _ _ _ _ _ _ us hl => match us, hl with | [_, _, _], _ => rfl
  have F_End_tick := fun_mk (st := s_End_tick) l_End_tick c_End_tick k_End_tick
  have b_End_tick := F_End_tick.binds (ps := ["self", "passed"]) fun _ _ _ _ _ _ us hl => match us, hl with | [_, _], _ => rfl
  have F_End_waits := fun_mk (st := s_End_waits) l_End_waits c_End_waits k_End_waits
  have b_End_waits := F_End_waits.binds (ps := ["self"]) fun _ _ _ _ _ _ us hl => match us, hl with | [_], _ => rfl
  have F_End_state := fun_mk (st := s_End_state) l_End_state c_End_state k_End_state
  have b_End_state := F_End_state.binds (ps := ["self"]) fun _ _ _ _ _ _ us hl => match us, hl with | [_], _ => rfl
  have F_answers := fun_mk (st := s_answers) l_answers c_answers k_answers
  have b_answers := F_answers.binds (ps := ["calls"]) fun _ _ _ _ _ _ us hl => match us, hl with | [_], _ => rfl
  have F_split_calls := fun_mk (st := s_split_calls) l_split_calls c_split_calls k_split_calls
  have b_split_calls := F_split_calls.binds (ps := ["calls"]) fun _ _ _ _ _ _ us hl => match us, hl with | [_], _ => rfl
  have F_how_many_numbers := fun_mk (st := s_how_many_numbers) l_how_many_numbers c_how_many_numbers k_how_many_numbers
  have b_how_many_numbers := F_how_many_numbers.binds (ps := ["kind"]) fun _ _ _ _ _ _ us hl => match us, hl with | [_], _ => rfl
  have F_in_range := fun_mk (st := s_in_range) l_in_range c_in_range k_in_range
  have b_in_range := F_in_range.binds (ps := ["kind", "handed"]) fun _ _ _ _ _ _ us hl => match us, hl with | [_, _], _ => rfl
  have F_answer_call := fun_mk (st := s_answer_call) l_answer_call c_answer_call k_answer_call
  have b_answer_call := F_answer_call.binds (ps := ["end", "kind", "handed"]) fun _ _ _ _ _ _ us hl => match us, hl with | [_, _, _], _ => rfl
  exact ⟨{ C_End := C_End, f_is_right := f_is_right, fd_is_right := PySem.W.fnOf "is_right" "is_right" (defArgs s_is_right) (defBody s_is_right) (defScope s_is_right) .none kV_is_right dc_is_right pm_is_right an_is_right cd_is_right ct_is_right, f_sum_is_right := f_sum_is_right, fd_sum_is_right := PySem.W.fnOf "sum_is_right" "sum_is_right" (defArgs s_sum_is_right) (defBody s_sum_is_right) (defScope s_sum_is_right) .none kV_sum_is_right dc_sum_is_right pm_sum_is_right an_sum_is_right cd_sum_is_right ct_sum_is_right, f_number_at := f_number_at, fd_number_at := PySem.W.fnOf "number_at" "number_at" (defArgs s_number_at) (defBody s_number_at) (defScope s_number_at) .none kV_number_at dc_number_at pm_number_at an_number_at cd_number_at ct_number_at, f_place_of := f_place_of, fd_place_of := PySem.W.fnOf "place_of" "place_of" (defArgs s_place_of) (defBody s_place_of) (defScope s_place_of) .none kV_place_of dc_place_of pm_place_of an_place_of cd_place_of ct_place_of, f_wanted_place_of := f_wanted_place_of, fd_wanted_place_of := PySem.W.fnOf "wanted_place_of" "wanted_place_of" (defArgs s_wanted_place_of) (defBody s_wanted_place_of) (defScope s_wanted_place_of) .none kV_wanted_place_of dc_wanted_place_of pm_wanted_place_of an_wanted_place_of cd_wanted_place_of ct_wanted_place_of, f_window_of := f_window_of, fd_window_of := PySem.W.fnOf "window_of" "window_of" (defArgs s_window_of) (defBody s_window_of) (defScope s_window_of) .none kV_window_of dc_window_of pm_window_of an_window_of cd_window_of ct_window_of, f_has_flag := f_has_flag, fd_has_flag := PySem.W.fnOf "has_flag" "has_flag" (defArgs s_has_flag) (defBody s_has_flag) (defScope s_has_flag) .none kV_has_flag dc_has_flag pm_has_flag an_has_flag cd_has_flag ct_has_flag, f_data_of := f_data_of, fd_data_of := PySem.W.fnOf "data_of" "data_of" (defArgs s_data_of) (defBody s_data_of) (defScope s_data_of) .none kV_data_of dc_data_of pm_data_of an_data_of cd_data_of ct_data_of, f_segment_without_sum := f_segment_without_sum, fd_segment_without_sum := PySem.W.fnOf "segment_without_sum" "segment_without_sum" (defArgs s_segment_without_sum) (defBody s_segment_without_sum) (defScope s_segment_without_sum) .none kV_segment_without_sum dc_segment_without_sum pm_segment_without_sum an_segment_without_sum cd_segment_without_sum ct_segment_without_sum, f_row_of := f_row_of, fd_row_of := PySem.W.fnOf "row_of" "row_of" (defArgs s_row_of) (defBody s_row_of) (defScope s_row_of) .none kV_row_of dc_row_of pm_row_of an_row_of cd_row_of ct_row_of, f_nearest := f_nearest, fd_nearest := PySem.W.fnOf "nearest" "nearest" (defArgs s_nearest) (defBody s_nearest) (defScope s_nearest) .none kV_nearest dc_nearest pm_nearest an_nearest cd_nearest ct_nearest, f_End_init := f_End_init, fd_End_init := PySem.W.fnOf "__init__" "End.__init__" (defArgs s_End_init) (defBody s_End_init) (defScope s_End_init) .none kV_End_init dc_End_init pm_End_init an_End_init cd_End_init ct_End_init, f_End_room := f_End_room, fd_End_room := PySem.W.fnOf "room" "End.room" (defArgs s_End_room) (defBody s_End_room) (defScope s_End_room) .none kV_End_room dc_End_room pm_End_room an_End_room cd_End_room ct_End_room, f_End_end_number := f_End_end_number, fd_End_end_number := PySem.W.fnOf "end_number" "End.end_number" (defArgs s_End_end_number) (defBody s_End_end_number) (defScope s_End_end_number) .none kV_End_end_number dc_End_end_number pm_End_end_number an_End_end_number cd_End_end_number ct_End_end_number, f_End_other_has_begun := f_End_other_has_begun, fd_End_other_has_begun := PySem.W.fnOf "other_has_begun" "End.other_has_begun" (defArgs s_End_other_has_begun) (defBody s_End_other_has_begun) (defScope s_End_other_has_begun) .none kV_End_other_has_begun dc_End_other_has_begun pm_End_other_has_begun an_End_other_has_begun cd_End_other_has_begun ct_End_other_has_begun, f_End_next_in_order := f_End_next_in_order, fd_End_next_in_order := PySem.W.fnOf "next_in_order" "End.next_in_order" (defArgs s_End_next_in_order) (defBody s_End_next_in_order) (defScope s_End_next_in_order) .none kV_End_next_in_order dc_End_next_in_order pm_End_next_in_order an_End_next_in_order cd_End_next_in_order ct_End_next_in_order, f_End_window := f_End_window, fd_End_window := PySem.W.fnOf "window" "End.window" (defArgs s_End_window) (defBody s_End_window) (defScope s_End_window) .none kV_End_window dc_End_window pm_End_window an_End_window cd_End_window ct_End_window, f_End_whole := f_End_whole, fd_End_whole := PySem.W.fnOf "whole" "End.whole" (defArgs s_End_whole) (defBody s_End_whole) (defScope s_End_whole) .none kV_End_whole dc_End_whole pm_End_whole an_End_whole cd_End_whole ct_End_whole, f_End_wanted := f_End_wanted, fd_End_wanted := PySem.W.fnOf "wanted" "End.wanted" (defArgs s_End_wanted) (defBody s_End_wanted) (defScope s_End_wanted) .none kV_End_wanted dc_End_wanted pm_End_wanted an_End_wanted cd_End_wanted ct_End_wanted, f_End_write := f_End_write, fd_End_write := PySem.W.fnOf "write" "End.write" (defArgs s_End_write) (defBody s_End_write) (defScope s_End_write) .none kV_End_write dc_End_write pm_End_write an_End_write cd_End_write ct_End_write, f_End_close := f_End_close, fd_End_close := PySem.W.fnOf "close" "End.close" (defArgs s_End_close) (defBody s_End_close) (defScope s_End_close) .none kV_End_close dc_End_close pm_End_close an_End_close cd_End_close ct_End_close, f_End_read := f_End_read, fd_End_read := PySem.W.fnOf "read" "End.read" (defArgs s_End_read) (defBody s_End_read) (defScope s_End_read) .none kV_End_read dc_End_read pm_End_read an_End_read cd_End_read ct_End_read, f_End_nothing_to_read := f_End_nothing_to_read, fd_End_nothing_to_read := PySem.W.fnOf "nothing_to_read" "End.nothing_to_read" (defArgs s_End_nothing_to_read) (defBody s_End_nothing_to_read) (defScope s_End_nothing_to_read) .none kV_End_nothing_to_read dc_End_nothing_to_read pm_End_nothing_to_read an_End_nothing_to_read cd_End_nothing_to_read ct_End_nothing_to_read, f_End_take_in := f_End_take_in, fd_End_take_in := PySem.W.fnOf "take_in" "End.take_in" (defArgs s_End_take_in) (defBody s_End_take_in) (defScope s_End_take_in) .none kV_End_take_in dc_End_take_in pm_End_take_in an_End_take_in cd_End_take_in ct_End_take_in, f_End_comes_too_early := f_End_comes_too_early, fd_End_comes_too_early := PySem.W.fnOf "comes_too_early" "End.comes_too_early" (defArgs s_End_comes_too_early) (defBody s_End_comes_too_early) (defScope s_End_comes_too_early) .none kV_End_comes_too_early dc_End_comes_too_early pm_End_comes_too_early an_End_comes_too_early cd_End_comes_too_early ct_End_comes_too_early, f_End_take_break := f_End_take_break, fd_End_take_break := PySem.W.fnOf "take_break" "End.take_break" (defArgs s_End_take_break) (defBody s_End_take_break) (defScope s_End_take_break) .none kV_End_take_break dc_End_take_break pm_End_take_break an_End_take_break cd_End_take_break ct_End_take_break, f_End_wanted_place := f_End_wanted_place, fd_End_wanted_place := PySem.W.fnOf "wanted_place" "End.wanted_place" (defArgs s_End_wanted_place) (defBody s_End_wanted_place) (defScope s_End_wanted_place) .none kV_End_wanted_place dc_End_wanted_place pm_End_wanted_place an_End_wanted_place cd_End_wanted_place ct_End_wanted_place, f_End_take_answer := f_End_take_answer, fd_End_take_answer := PySem.W.fnOf "take_answer" "End.take_answer" (defArgs s_End_take_answer) (defBody s_End_take_answer) (defScope s_End_take_answer) .none kV_End_take_answer dc_End_take_answer pm_End_take_answer an_End_take_answer cd_End_take_answer ct_End_take_answer, f_End_take_data := f_End_take_data, fd_End_take_data := PySem.W.fnOf "take_data" "End.take_data" (defArgs s_End_take_data) (defBody s_End_take_data) (defScope s_End_take_data) .none kV_End_take_data dc_End_take_data pm_End_take_data an_End_take_data cd_End_take_data ct_End_take_data, f_End_number_of_data := f_End_number_of_data, fd_End_number_of_data := PySem.W.fnOf "number_of_data" "End.number_of_data" (defArgs s_End_number_of_data) (defBody s_End_number_of_data) (defScope s_End_number_of_data) .none kV_End_number_of_data dc_End_number_of_data pm_End_number_of_data an_End_number_of_data cd_End_number_of_data ct_End_number_of_data, f_End_bring_in_order := f_End_bring_in_order, fd_End_bring_in_order := PySem.W.fnOf "bring_in_order" "End.bring_in_order" (defArgs s_End_bring_in_order) (defBody s_End_bring_in_order) (defScope s_End_bring_in_order) .none kV_End_bring_in_order dc_End_bring_in_order pm_End_bring_in_order an_End_bring_in_order cd_End_bring_in_order ct_End_bring_in_order, f_End_out := f_End_out, fd_End_out := PySem.W.fnOf "out" "End.out" (defArgs s_End_out) (defBody s_End_out) (defScope s_End_out) .none kV_End_out dc_End_out pm_End_out an_End_out cd_End_out ct_End_out, f_End_beginning_is_due := f_End_beginning_is_due, fd_End_beginning_is_due := PySem.W.fnOf "beginning_is_due" "End.beginning_is_due" (defArgs s_End_beginning_is_due) (defBody s_End_beginning_is_due) (defScope s_End_beginning_is_due) .none kV_End_beginning_is_due dc_End_beginning_is_due pm_End_beginning_is_due an_End_beginning_is_due cd_End_beginning_is_due ct_End_beginning_is_due, f_End_data_due := f_End_data_due, fd_End_data_due := PySem.W.fnOf "data_due" "End.data_due" (defArgs s_End_data_due) (defBody s_End_data_due) (defScope s_End_data_due) .none kV_End_data_due dc_End_data_due pm_End_data_due an_End_data_due cd_End_data_due ct_End_data_due, f_End_end_is_due := f_End_end_is_due, fd_End_end_is_due := PySem.W.fnOf "end_is_due" "End.end_is_due" (defArgs s_End_end_is_due) (defBody s_End_end_is_due) (defScope s_End_end_is_due) .none kV_End_end_is_due dc_End_end_is_due pm_End_end_is_due an_End_end_is_due cd_End_end_is_due ct_End_end_is_due, f_End_answer_is_due := f_End_answer_is_due, fd_End_answer_is_due := PySem.W.fnOf "answer_is_due" "End.answer_is_due" (defArgs s_End_answer_is_due) (defBody s_End_answer_is_due) (defScope s_End_answer_is_due) .none kV_End_answer_is_due dc_End_answer_is_due pm_End_answer_is_due an_End_answer_is_due cd_End_answer_is_due ct_End_answer_is_due, f_End_send := f_End_send, fd_End_send := PySem.W.fnOf "send" "End.send" (defArgs s_End_send) (defBody s_End_send) (defScope s_End_send) .none kV_End_send dc_End_send pm_End_send an_End_send cd_End_send ct_End_send, f_End_tick := f_End_tick, fd_End_tick := PySem.W.fnOf "tick" "End.tick" (defArgs s_End_tick) (defBody s_End_tick) (defScope s_End_tick) .none kV_End_tick dc_End_tick pm_End_tick an_End_tick cd_End_tick ct_End_tick, f_End_waits := f_End_waits, fd_End_waits := PySem.W.fnOf "waits" "End.waits" (defArgs s_End_waits) (defBody s_End_waits) (defScope s_End_waits) .none kV_End_waits dc_End_waits pm_End_waits an_End_waits cd_End_waits ct_End_waits, f_End_state := f_End_state, fd_End_state := PySem.W.fnOf "state" "End.state" (defArgs s_End_state) (defBody s_End_state) (defScope s_End_state) .none kV_End_state dc_End_state pm_End_state an_End_state cd_End_state ct_End_state, f_answers := f_answers, fd_answers := PySem.W.fnOf "answers" "answers" (defArgs s_answers) (defBody s_answers) (defScope s_answers) .none kV_answers dc_answers pm_answers an_answers cd_answers ct_answers, f_split_calls := f_split_calls, fd_split_calls := PySem.W.fnOf "split_calls" "split_calls" (defArgs s_split_calls) (defBody s_split_calls) (defScope s_split_calls) .none kV_split_calls dc_split_calls pm_split_calls an_split_calls cd_split_calls ct_split_calls, f_how_many_numbers := f_how_many_numbers, fd_how_many_numbers := PySem.W.fnOf "how_many_numbers" "how_many_numbers" (defArgs s_how_many_numbers) (defBody s_how_many_numbers) (defScope s_how_many_numbers) .none kV_how_many_numbers dc_how_many_numbers pm_how_many_numbers an_how_many_numbers cd_how_many_numbers ct_how_many_numbers, f_in_range := f_in_range, fd_in_range := PySem.W.fnOf "in_range" "in_range" (defArgs s_in_range) (defBody s_in_range) (defScope s_in_range) .none kV_in_range dc_in_range pm_in_range an_in_range cd_in_range ct_in_range, f_answer_call := f_answer_call, fd_answer_call := PySem.W.fnOf "answer_call" "answer_call" (defArgs s_answer_call) (defBody s_answer_call) (defScope s_answer_call) .none kV_answer_call dc_answer_call pm_answer_call an_answer_call cd_answer_call ct_answer_call, u_HEAD := .int 14 t_HEAD, u_WANTED_AT := .int 4 t_WANTED_AT, u_FLAGS_AT := .int 8 t_FLAGS_AT, u_ZERO_AT := .int 9 t_ZERO_AT, u_WINDOW_AT := .int 10 t_WINDOW_AT, u_BEGINS := .int 1 t_BEGINS, u_ENDS := .int 2 t_ENDS, u_ANSWERS := .int 4 t_ANSWERS, u_BREAKS := .int 8 t_BREAKS, u_ROUND := .int 4294967296 t_ROUND, u_HALF_ROUND := .int 2147483648 t_HALF_ROUND, u_WORD := .int 65536 t_WORD, u_FULL_WORD := .int 65535 t_FULL_WORD, u_SEND_ROOM := .int 16384 t_SEND_ROOM, u_FULL_WINDOW := .int 8192 t_FULL_WINDOW, u_SMALL_WINDOW := .int 536 t_SMALL_WINDOW, u_MOST_DATA := .int 536 t_MOST_DATA, u_FIRST_PATIENCE := .int 1000 t_FIRST_PATIENCE, u_MOST_PATIENCE := .int 60000 t_MOST_PATIENCE, u_CLOSED_OR_BROKEN := .int (-1) t_CLOSED_OR_BROKEN, u_ALL_READ := .int (-1) t_ALL_READ, u_BROKEN := .int (-3) t_BROKEN, u_OPEN := .int 1 t_OPEN, u_WRITE := .int 2 t_WRITE, u_CLOSE := .int 3 t_CLOSE, u_READ := .int 4 t_READ, u_IN := .int 5 t_IN, u_OUT := .int 6 t_OUT, u_TICK := .int 7 t_TICK, u_STATE := .int 8 t_STATE, u_MOST_READ := .int 1000000 t_MOST_READ, u_LONGEST_SEGMENT := .int 65535 t_LONGEST_SEGMENT, u_LONGEST_TICK := .int 1000000 t_LONGEST_TICK, u_OUT_OF_RANGE := .int (-2) t_OUT_OF_RANGE }, {
    cl_End := ⟨pg_End, hd_End, po_End, sa_End⟩,
    g_End := PySem.W.mg_of X G a_End,
    mk_End := ⟨mk_End, a_End_init, i_End_init, kc_End⟩,
    n_End_first := n_End_first,
    n_End_calling := n_End_calling,
    n_End_written := n_End_written,
    n_End_closed := n_End_closed,
    n_End_acked := n_End_acked,
    n_End_next_number := n_End_next_number,
    n_End_sent := n_End_sent,
    n_End_theirs := n_End_theirs,
    n_End_their_first := n_End_their_first,
    n_End_came := n_End_came,
    n_End_unread := n_End_unread,
    n_End_ahead := n_End_ahead,
    n_End_their_end := n_End_their_end,
    n_End_owes := n_End_owes,
    n_End_waited := n_End_waited,
    n_End_patience := n_End_patience,
    n_End_probe := n_End_probe,
    n_End_broken := n_End_broken,
    F_is_right := F_is_right,
    b_is_right := b_is_right,
    g_is_right := PySem.W.mg_of X G a_is_right,
    F_sum_is_right := F_sum_is_right,
    b_sum_is_right := b_sum_is_right,
    g_sum_is_right := PySem.W.mg_of X G a_sum_is_right,
    F_number_at := F_number_at,
    b_number_at := b_number_at,
    g_number_at := PySem.W.mg_of X G a_number_at,
    F_place_of := F_place_of,
    b_place_of := b_place_of,
    g_place_of := PySem.W.mg_of X G a_place_of,
    F_wanted_place_of := F_wanted_place_of,
    b_wanted_place_of := b_wanted_place_of,
    g_wanted_place_of := PySem.W.mg_of X G a_wanted_place_of,
    F_window_of := F_window_of,
    b_window_of := b_window_of,
    g_window_of := PySem.W.mg_of X G a_window_of,
    F_has_flag := F_has_flag,
    b_has_flag := b_has_flag,
    g_has_flag := PySem.W.mg_of X G a_has_flag,
    F_data_of := F_data_of,
    b_data_of := b_data_of,
    g_data_of := PySem.W.mg_of X G a_data_of,
    F_segment_without_sum := F_segment_without_sum,
    b_segment_without_sum := b_segment_without_sum,
    g_segment_without_sum := PySem.W.mg_of X G a_segment_without_sum,
    F_row_of := F_row_of,
    b_row_of := b_row_of,
    g_row_of := PySem.W.mg_of X G a_row_of,
    F_nearest := F_nearest,
    b_nearest := b_nearest,
    g_nearest := PySem.W.mg_of X G a_nearest,
    F_End_init := F_End_init,
    b_End_init := b_End_init,
    F_End_room := F_End_room,
    b_End_room := b_End_room,
    m_End_room := ⟨a_End_room, i_End_room, k_End_room⟩,
    F_End_end_number := F_End_end_number,
    b_End_end_number := b_End_end_number,
    m_End_end_number := ⟨a_End_end_number, i_End_end_number, k_End_end_number⟩,
    F_End_other_has_begun := F_End_other_has_begun,
    b_End_other_has_begun := b_End_other_has_begun,
    m_End_other_has_begun := ⟨a_End_other_has_begun, i_End_other_has_begun, k_End_other_has_begun⟩,
    F_End_next_in_order := F_End_next_in_order,
    b_End_next_in_order := b_End_next_in_order,
    m_End_next_in_order := ⟨a_End_next_in_order, i_End_next_in_order, k_End_next_in_order⟩,
    F_End_window := F_End_window,
    b_End_window := b_End_window,
    m_End_window := ⟨a_End_window, i_End_window, k_End_window⟩,
    F_End_whole := F_End_whole,
    b_End_whole := b_End_whole,
    m_End_whole := ⟨a_End_whole, i_End_whole, k_End_whole⟩,
    F_End_wanted := F_End_wanted,
    b_End_wanted := b_End_wanted,
    m_End_wanted := ⟨a_End_wanted, i_End_wanted, k_End_wanted⟩,
    F_End_write := F_End_write,
    b_End_write := b_End_write,
    m_End_write := ⟨a_End_write, i_End_write, k_End_write⟩,
    F_End_close := F_End_close,
    b_End_close := b_End_close,
    m_End_close := ⟨a_End_close, i_End_close, k_End_close⟩,
    F_End_read := F_End_read,
    b_End_read := b_End_read,
    m_End_read := ⟨a_End_read, i_End_read, k_End_read⟩,
    F_End_nothing_to_read := F_End_nothing_to_read,
    b_End_nothing_to_read := b_End_nothing_to_read,
    m_End_nothing_to_read := ⟨a_End_nothing_to_read, i_End_nothing_to_read, k_End_nothing_to_read⟩,
    F_End_take_in := F_End_take_in,
    b_End_take_in := b_End_take_in,
    m_End_take_in := ⟨a_End_take_in, i_End_take_in, k_End_take_in⟩,
    F_End_comes_too_early := F_End_comes_too_early,
    b_End_comes_too_early := b_End_comes_too_early,
    m_End_comes_too_early := ⟨a_End_comes_too_early, i_End_comes_too_early, k_End_comes_too_early⟩,
    F_End_take_break := F_End_take_break,
    b_End_take_break := b_End_take_break,
    m_End_take_break := ⟨a_End_take_break, i_End_take_break, k_End_take_break⟩,
    F_End_wanted_place := F_End_wanted_place,
    b_End_wanted_place := b_End_wanted_place,
    m_End_wanted_place := ⟨a_End_wanted_place, i_End_wanted_place, k_End_wanted_place⟩,
    F_End_take_answer := F_End_take_answer,
    b_End_take_answer := b_End_take_answer,
    m_End_take_answer := ⟨a_End_take_answer, i_End_take_answer, k_End_take_answer⟩,
    F_End_take_data := F_End_take_data,
    b_End_take_data := b_End_take_data,
    m_End_take_data := ⟨a_End_take_data, i_End_take_data, k_End_take_data⟩,
    F_End_number_of_data := F_End_number_of_data,
    b_End_number_of_data := b_End_number_of_data,
    m_End_number_of_data := ⟨a_End_number_of_data, i_End_number_of_data, k_End_number_of_data⟩,
    F_End_bring_in_order := F_End_bring_in_order,
    b_End_bring_in_order := b_End_bring_in_order,
    m_End_bring_in_order := ⟨a_End_bring_in_order, i_End_bring_in_order, k_End_bring_in_order⟩,
    F_End_out := F_End_out,
    b_End_out := b_End_out,
    m_End_out := ⟨a_End_out, i_End_out, k_End_out⟩,
    F_End_beginning_is_due := F_End_beginning_is_due,
    b_End_beginning_is_due := b_End_beginning_is_due,
    m_End_beginning_is_due := ⟨a_End_beginning_is_due, i_End_beginning_is_due, k_End_beginning_is_due⟩,
    F_End_data_due := F_End_data_due,
    b_End_data_due := b_End_data_due,
    m_End_data_due := ⟨a_End_data_due, i_End_data_due, k_End_data_due⟩,
    F_End_end_is_due := F_End_end_is_due,
    b_End_end_is_due := b_End_end_is_due,
    m_End_end_is_due := ⟨a_End_end_is_due, i_End_end_is_due, k_End_end_is_due⟩,
    F_End_answer_is_due := F_End_answer_is_due,
    b_End_answer_is_due := b_End_answer_is_due,
    m_End_answer_is_due := ⟨a_End_answer_is_due, i_End_answer_is_due, k_End_answer_is_due⟩,
    F_End_send := F_End_send,
    b_End_send := b_End_send,
    m_End_send := ⟨a_End_send, i_End_send, k_End_send⟩,
    F_End_tick := F_End_tick,
    b_End_tick := b_End_tick,
    m_End_tick := ⟨a_End_tick, i_End_tick, k_End_tick⟩,
    F_End_waits := F_End_waits,
    b_End_waits := b_End_waits,
    m_End_waits := ⟨a_End_waits, i_End_waits, k_End_waits⟩,
    F_End_state := F_End_state,
    b_End_state := b_End_state,
    m_End_state := ⟨a_End_state, i_End_state, k_End_state⟩,
    F_answers := F_answers,
    b_answers := b_answers,
    g_answers := PySem.W.mg_of X G a_answers,
    F_split_calls := F_split_calls,
    b_split_calls := b_split_calls,
    g_split_calls := PySem.W.mg_of X G a_split_calls,
    F_how_many_numbers := F_how_many_numbers,
    b_how_many_numbers := b_how_many_numbers,
    g_how_many_numbers := PySem.W.mg_of X G a_how_many_numbers,
    F_in_range := F_in_range,
    b_in_range := b_in_range,
    g_in_range := PySem.W.mg_of X G a_in_range,
    F_answer_call := F_answer_call,
    b_answer_call := b_answer_call,
    g_answer_call := PySem.W.mg_of X G a_answer_call,
    z_enumerate := PySem.W.mg_none_of X G z_enumerate,
    z_len := PySem.W.mg_none_of X G z_len,
    z_list := PySem.W.mg_none_of X G z_list,
    z_max := PySem.W.mg_none_of X G z_max,
    z_min := PySem.W.mg_none_of X G z_min,
    z_range := PySem.W.mg_none_of X G z_range,
    z_reversed := PySem.W.mg_none_of X G z_reversed,
    entry := fun s v => .of_eq rfl,
    c_HEAD := ⟨PySem.W.mg_of X G v_HEAD, ⟨_, rfl⟩⟩,
    c_WANTED_AT := ⟨PySem.W.mg_of X G v_WANTED_AT, ⟨_, rfl⟩⟩,
    c_FLAGS_AT := ⟨PySem.W.mg_of X G v_FLAGS_AT, ⟨_, rfl⟩⟩,
    c_ZERO_AT := ⟨PySem.W.mg_of X G v_ZERO_AT, ⟨_, rfl⟩⟩,
    c_WINDOW_AT := ⟨PySem.W.mg_of X G v_WINDOW_AT, ⟨_, rfl⟩⟩,
    c_BEGINS := ⟨PySem.W.mg_of X G v_BEGINS, ⟨_, rfl⟩⟩,
    c_ENDS := ⟨PySem.W.mg_of X G v_ENDS, ⟨_, rfl⟩⟩,
    c_ANSWERS := ⟨PySem.W.mg_of X G v_ANSWERS, ⟨_, rfl⟩⟩,
    c_BREAKS := ⟨PySem.W.mg_of X G v_BREAKS, ⟨_, rfl⟩⟩,
    c_ROUND := ⟨PySem.W.mg_of X G v_ROUND, ⟨_, rfl⟩⟩,
    c_HALF_ROUND := ⟨PySem.W.mg_of X G v_HALF_ROUND, ⟨_, rfl⟩⟩,
    c_WORD := ⟨PySem.W.mg_of X G v_WORD, ⟨_, rfl⟩⟩,
    c_FULL_WORD := ⟨PySem.W.mg_of X G v_FULL_WORD, ⟨_, rfl⟩⟩,
    c_SEND_ROOM := ⟨PySem.W.mg_of X G v_SEND_ROOM, ⟨_, rfl⟩⟩,
    c_FULL_WINDOW := ⟨PySem.W.mg_of X G v_FULL_WINDOW, ⟨_, rfl⟩⟩,
    c_SMALL_WINDOW := ⟨PySem.W.mg_of X G v_SMALL_WINDOW, ⟨_, rfl⟩⟩,
    c_MOST_DATA := ⟨PySem.W.mg_of X G v_MOST_DATA, ⟨_, rfl⟩⟩,
    c_FIRST_PATIENCE := ⟨PySem.W.mg_of X G v_FIRST_PATIENCE, ⟨_, rfl⟩⟩,
    c_MOST_PATIENCE := ⟨PySem.W.mg_of X G v_MOST_PATIENCE, ⟨_, rfl⟩⟩,
    c_CLOSED_OR_BROKEN := ⟨PySem.W.mg_of X G v_CLOSED_OR_BROKEN, ⟨_, rfl⟩⟩,
    c_ALL_READ := ⟨PySem.W.mg_of X G v_ALL_READ, ⟨_, rfl⟩⟩,
    c_BROKEN := ⟨PySem.W.mg_of X G v_BROKEN, ⟨_, rfl⟩⟩,
    c_OPEN := ⟨PySem.W.mg_of X G v_OPEN, ⟨_, rfl⟩⟩,
    c_WRITE := ⟨PySem.W.mg_of X G v_WRITE, ⟨_, rfl⟩⟩,
    c_CLOSE := ⟨PySem.W.mg_of X G v_CLOSE, ⟨_, rfl⟩⟩,
    c_READ := ⟨PySem.W.mg_of X G v_READ, ⟨_, rfl⟩⟩,
    c_IN := ⟨PySem.W.mg_of X G v_IN, ⟨_, rfl⟩⟩,
    c_OUT := ⟨PySem.W.mg_of X G v_OUT, ⟨_, rfl⟩⟩,
    c_TICK := ⟨PySem.W.mg_of X G v_TICK, ⟨_, rfl⟩⟩,
    c_STATE := ⟨PySem.W.mg_of X G v_STATE, ⟨_, rfl⟩⟩,
    c_MOST_READ := ⟨PySem.W.mg_of X G v_MOST_READ, ⟨_, rfl⟩⟩,
    c_LONGEST_SEGMENT := ⟨PySem.W.mg_of X G v_LONGEST_SEGMENT, ⟨_, rfl⟩⟩,
    c_LONGEST_TICK := ⟨PySem.W.mg_of X G v_LONGEST_TICK, ⟨_, rfl⟩⟩,
    c_OUT_OF_RANGE := ⟨PySem.W.mg_of X G v_OUT_OF_RANGE, ⟨_, rfl⟩⟩ }⟩
end Pr
namespace Pr
open PySem L2
def optV : Option Int → V
  | none => .non
  | some i => .int i
def dkv (l : List (Int × Int)) : List (Key × V) := l.map fun x => (Sum.inl x.1, V.int x.2)
structure EA where
  dx : Addr
  l_written : Addr
  l_unread : Addr
  l_ahead : Addr
def ef (a : EA) (e : Py) : List (Str × V) := [("first", .int e.first), ("calling", .bl e.calling), ("written", .ref a.l_written), ("closed", .bl e.closed), ("acked", .int e.acked), ("next_number", .int e.next_number), ("sent", .int e.sent), ("theirs", .int e.theirs), ("their_first", optV e.their_first), ("came", .int e.came), ("unread", .ref a.l_unread), ("ahead", .ref a.l_ahead), ("their_end", optV e.their_end), ("owes", .bl e.owes), ("waited", .int e.waited), ("patience", .int e.patience), ("probe", .bl e.probe), ("broken", .bl e.broken)]
theorem ef_first (a : EA) (e : Py) : (ef a e).lookup ("first" : Str) = some (.int e.first) := by kernel_rfl
theorem ef_calling (a : EA) (e : Py) : (ef a e).lookup ("calling" : Str) = some (.bl e.calling) := by kernel_rfl
theorem ef_written (a : EA) (e : Py) : (ef a e).lookup ("written" : Str) = some (.ref a.l_written) := by kernel_rfl
theorem ef_closed (a : EA) (e : Py) : (ef a e).lookup ("closed" : Str) = some (.bl e.closed) := by kernel_rfl
theorem ef_acked (a : EA) (e : Py) : (ef a e).lookup ("acked" : Str) = some (.int e.acked) := by kernel_rfl
theorem ef_next_number (a : EA) (e : Py) : (ef a e).lookup ("next_number" : Str) = some (.int e.next_number) := by kernel_rfl
theorem ef_sent (a : EA) (e : Py) : (ef a e).lookup ("sent" : Str) = some (.int e.sent) := by kernel_rfl
theorem ef_theirs (a : EA) (e : Py) : (ef a e).lookup ("theirs" : Str) = some (.int e.theirs) := by kernel_rfl
theorem ef_their_first (a : EA) (e : Py) : (ef a e).lookup ("their_first" : Str) = some (optV e.their_first) := by kernel_rfl
theorem ef_came (a : EA) (e : Py) : (ef a e).lookup ("came" : Str) = some (.int e.came) := by kernel_rfl
theorem ef_unread (a : EA) (e : Py) : (ef a e).lookup ("unread" : Str) = some (.ref a.l_unread) := by kernel_rfl
theorem ef_ahead (a : EA) (e : Py) : (ef a e).lookup ("ahead" : Str) = some (.ref a.l_ahead) := by kernel_rfl
theorem ef_their_end (a : EA) (e : Py) : (ef a e).lookup ("their_end" : Str) = some (optV e.their_end) := by kernel_rfl
theorem ef_owes (a : EA) (e : Py) : (ef a e).lookup ("owes" : Str) = some (.bl e.owes) := by kernel_rfl
theorem ef_waited (a : EA) (e : Py) : (ef a e).lookup ("waited" : Str) = some (.int e.waited) := by kernel_rfl
theorem ef_patience (a : EA) (e : Py) : (ef a e).lookup ("patience" : Str) = some (.int e.patience) := by kernel_rfl
theorem ef_probe (a : EA) (e : Py) : (ef a e).lookup ("probe" : Str) = some (.bl e.probe) := by kernel_rfl
theorem ef_broken (a : EA) (e : Py) : (ef a e).lookup ("broken" : Str) = some (.bl e.broken) := by kernel_rfl
theorem ef_no_room (a : EA) (e : Py) : (ef a e).lookup ("room" : Str) = none := by kernel_rfl
theorem ef_no_end_number (a : EA) (e : Py) : (ef a e).lookup ("end_number" : Str) = none := by kernel_rfl
theorem ef_no_other_has_begun (a : EA) (e : Py) : (ef a e).lookup ("other_has_begun" : Str) = none := by kernel_rfl
theorem ef_no_next_in_order (a : EA) (e : Py) : (ef a e).lookup ("next_in_order" : Str) = none := by kernel_rfl
theorem ef_no_window (a : EA) (e : Py) : (ef a e).lookup ("window" : Str) = none := by kernel_rfl
theorem ef_no_whole (a : EA) (e : Py) : (ef a e).lookup ("whole" : Str) = none := by kernel_rfl
theorem ef_no_wanted (a : EA) (e : Py) : (ef a e).lookup ("wanted" : Str) = none := by kernel_rfl
theorem ef_no_write (a : EA) (e : Py) : (ef a e).lookup ("write" : Str) = none := by kernel_rfl
theorem ef_no_close (a : EA) (e : Py) : (ef a e).lookup ("close" : Str) = none := by kernel_rfl
theorem ef_no_read (a : EA) (e : Py) : (ef a e).lookup ("read" : Str) = none := by kernel_rfl
theorem ef_no_nothing_to_read (a : EA) (e : Py) : (ef a e).lookup ("nothing_to_read" : Str) = none := by kernel_rfl
theorem ef_no_take_in (a : EA) (e : Py) : (ef a e).lookup ("take_in" : Str) = none := by kernel_rfl
theorem ef_no_comes_too_early (a : EA) (e : Py) : (ef a e).lookup ("comes_too_early" : Str) = none := by kernel_rfl
theorem ef_no_take_break (a : EA) (e : Py) : (ef a e).lookup ("take_break" : Str) = none := by kernel_rfl
theorem ef_no_wanted_place (a : EA) (e : Py) : (ef a e).lookup ("wanted_place" : Str) = none := by kernel_rfl
theorem ef_no_take_answer (a : EA) (e : Py) : (ef a e).lookup ("take_answer" : Str) = none := by kernel_rfl
theorem ef_no_take_data (a : EA) (e : Py) : (ef a e).lookup ("take_data" : Str) = none := by kernel_rfl
theorem ef_no_number_of_data (a : EA) (e : Py) : (ef a e).lookup ("number_of_data" : Str) = none := by kernel_rfl
theorem ef_no_bring_in_order (a : EA) (e : Py) : (ef a e).lookup ("bring_in_order" : Str) = none := by kernel_rfl
theorem ef_no_out (a : EA) (e : Py) : (ef a e).lookup ("out" : Str) = none := by kernel_rfl
theorem ef_no_beginning_is_due (a : EA) (e : Py) : (ef a e).lookup ("beginning_is_due" : Str) = none := by kernel_rfl
theorem ef_no_data_due (a : EA) (e : Py) : (ef a e).lookup ("data_due" : Str) = none := by kernel_rfl
theorem ef_no_end_is_due (a : EA) (e : Py) : (ef a e).lookup ("end_is_due" : Str) = none := by kernel_rfl
theorem ef_no_answer_is_due (a : EA) (e : Py) : (ef a e).lookup ("answer_is_due" : Str) = none := by kernel_rfl
theorem ef_no_send (a : EA) (e : Py) : (ef a e).lookup ("send" : Str) = none := by kernel_rfl
theorem ef_no_tick (a : EA) (e : Py) : (ef a e).lookup ("tick" : Str) = none := by kernel_rfl
theorem ef_no_waits (a : EA) (e : Py) : (ef a e).lookup ("waits" : Str) = none := by kernel_rfl
theorem ef_no_state (a : EA) (e : Py) : (ef a e).lookup ("state" : Str) = none := by kernel_rfl
theorem ef_put_closed (a : EA) (e : Py) (x : Bool) : putF "closed" (.bl x) (ef a e) = ef a { e with closed := x } := by kernel_rfl
theorem ef_put_acked (a : EA) (e : Py) (x : Int) : putF "acked" (.int x) (ef a e) = ef a { e with acked := x } := by kernel_rfl
theorem ef_put_next_number (a : EA) (e : Py) (x : Int) : putF "next_number" (.int x) (ef a e) = ef a { e with next_number := x } := by kernel_rfl
theorem ef_put_sent (a : EA) (e : Py) (x : Int) : putF "sent" (.int x) (ef a e) = ef a { e with sent := x } := by kernel_rfl
theorem ef_put_theirs (a : EA) (e : Py) (x : Int) : putF "theirs" (.int x) (ef a e) = ef a { e with theirs := x } := by kernel_rfl
theorem ef_put_their_first (a : EA) (e : Py) (x : Option Int) : putF "their_first" (optV x) (ef a e) = ef a { e with their_first := x } := by kernel_rfl
theorem ef_put_came (a : EA) (e : Py) (x : Int) : putF "came" (.int x) (ef a e) = ef a { e with came := x } := by kernel_rfl
theorem ef_put_unread (a : EA) (e : Py) (x : Addr) : putF "unread" (.ref x) (ef a e) = ef { a with l_unread := x } e := by kernel_rfl
theorem ef_put_their_end (a : EA) (e : Py) (x : Option Int) : putF "their_end" (optV x) (ef a e) = ef a { e with their_end := x } := by kernel_rfl
theorem ef_put_owes (a : EA) (e : Py) (x : Bool) : putF "owes" (.bl x) (ef a e) = ef a { e with owes := x } := by kernel_rfl
theorem ef_put_waited (a : EA) (e : Py) (x : Int) : putF "waited" (.int x) (ef a e) = ef a { e with waited := x } := by kernel_rfl
theorem ef_put_patience (a : EA) (e : Py) (x : Int) : putF "patience" (.int x) (ef a e) = ef a { e with patience := x } := by kernel_rfl
theorem ef_put_probe (a : EA) (e : Py) (x : Bool) : putF "probe" (.bl x) (ef a e) = ef a { e with probe := x } := by kernel_rfl
theorem ef_put_broken (a : EA) (e : Py) (x : Bool) : putF "broken" (.bl x) (ef a e) = ef a { e with broken := x } := by kernel_rfl
structure EndAt (C : Addr) (H : Hp) (p : Addr) (a : EA) (e : Py) : Prop where
  ob : H p = some (.ins C a.dx (ef a e))
  h_written : H a.l_written = some (.lst (e.written.map V.int))
  h_unread : H a.l_unread = some (.lst (e.unread.map V.int))
  h_ahead : H a.l_ahead = some (.dK (dkv e.ahead))
  ne_written_unread : a.l_written ≠ a.l_unread
/-- the addresses that it stands on -/
def EndAt.foot (p : Addr) (a : EA) (b : Addr) : Prop := b = p ∨ b = a.l_written ∨ b = a.l_unread ∨ b = a.l_ahead
theorem EndAt.keep {C p : Addr} {H : Hp} {a : EA} {e : Py} {H' : Hp} (h : EndAt C H p a e) (k : ∀ b o, H b = some o → EndAt.foot p a b → H' b = some o) : EndAt C H' p a e :=
  ⟨k _ _ h.ob (Or.inl rfl), k _ _ h.h_written (Or.inr <| Or.inl rfl), k _ _ h.h_unread (Or.inr <| Or.inr <| Or.inl rfl), k _ _ h.h_ahead (Or.inr <| Or.inr <| Or.inr <| rfl), h.ne_written_unread⟩
theorem EndAt.new {C p : Addr} {H : Hp} {a : EA} {e : Py} {l : Addr} {o : HO} (h : EndAt C H p a e) (hl : H l = none) : EndAt C (upd H l o) p a e := h.keep fun b o' hb _ => by rw [upd_ne (ne_of_none hb hl)]; exact hb
theorem EndAt.fld {C p : Addr} {H : Hp} {a : EA} {e : Py} {e' : Py} {fs : List (Str × V)} (h : EndAt C H p a e) (hf : fs = ef a e') (q_written : e'.written = e.written) (q_unread : e'.unread = e.unread) (q_ahead : e'.ahead = e.ahead) : EndAt C (upd H p (.ins C a.dx fs)) p a e' := by
  subst hf
  exact ⟨upd_same, (by rw [upd_ne (ne_of h.h_written h.ob (by intro z; cases z)), q_written]; exact h.h_written), (by rw [upd_ne (ne_of h.h_unread h.ob (by intro z; cases z)), q_unread]; exact h.h_unread), (by rw [upd_ne (ne_of h.h_ahead h.ob (by intro z; cases z)), q_ahead]; exact h.h_ahead), h.ne_written_unread⟩
theorem EndAt.put_closed {C p : Addr} {H : Hp} {a : EA} {e : Py} (x : Bool) (h : EndAt C H p a e) : EndAt C (upd H p (.ins C a.dx (putF "closed" (.bl x) (ef a e)))) p a { e with closed := x } := h.fld (ef_put_closed a e x) rfl rfl rfl
theorem EndAt.put_acked {C p : Addr} {H : Hp} {a : EA} {e : Py} (x : Int) (h : EndAt C H p a e) : EndAt C (upd H p (.ins C a.dx (putF "acked" (.int x) (ef a e)))) p a { e with acked := x } := h.fld (ef_put_acked a e x) rfl rfl rfl
theorem EndAt.put_next_number {C p : Addr} {H : Hp} {a : EA} {e : Py} (x : Int) (h : EndAt C H p a e) : EndAt C (upd H p (.ins C a.dx (putF "next_number" (.int x) (ef a e)))) p a { e with next_number := x } := h.fld (ef_put_next_number a e x) rfl rfl rfl
theorem EndAt.put_sent {C p : Addr} {H : Hp} {a : EA} {e : Py} (x : Int) (h : EndAt C H p a e) : EndAt C (upd H p (.ins C a.dx (putF "sent" (.int x) (ef a e)))) p a { e with sent := x } := h.fld (ef_put_sent a e x) rfl rfl rfl
theorem EndAt.put_theirs {C p : Addr} {H : Hp} {a : EA} {e : Py} (x : Int) (h : EndAt C H p a e) : EndAt C (upd H p (.ins C a.dx (putF "theirs" (.int x) (ef a e)))) p a { e with theirs := x } := h.fld (ef_put_theirs a e x) rfl rfl rfl
theorem EndAt.put_their_first {C p : Addr} {H : Hp} {a : EA} {e : Py} (x : Option Int) (h : EndAt C H p a e) : EndAt C (upd H p (.ins C a.dx (putF "their_first" (optV x) (ef a e)))) p a { e with their_first := x } := h.fld (ef_put_their_first a e x) rfl rfl rfl
theorem EndAt.put_came {C p : Addr} {H : Hp} {a : EA} {e : Py} (x : Int) (h : EndAt C H p a e) : EndAt C (upd H p (.ins C a.dx (putF "came" (.int x) (ef a e)))) p a { e with came := x } := h.fld (ef_put_came a e x) rfl rfl rfl
theorem EndAt.put_their_end {C p : Addr} {H : Hp} {a : EA} {e : Py} (x : Option Int) (h : EndAt C H p a e) : EndAt C (upd H p (.ins C a.dx (putF "their_end" (optV x) (ef a e)))) p a { e with their_end := x } := h.fld (ef_put_their_end a e x) rfl rfl rfl
theorem EndAt.put_owes {C p : Addr} {H : Hp} {a : EA} {e : Py} (x : Bool) (h : EndAt C H p a e) : EndAt C (upd H p (.ins C a.dx (putF "owes" (.bl x) (ef a e)))) p a { e with owes := x } := h.fld (ef_put_owes a e x) rfl rfl rfl
theorem EndAt.put_waited {C p : Addr} {H : Hp} {a : EA} {e : Py} (x : Int) (h : EndAt C H p a e) : EndAt C (upd H p (.ins C a.dx (putF "waited" (.int x) (ef a e)))) p a { e with waited := x } := h.fld (ef_put_waited a e x) rfl rfl rfl
theorem EndAt.put_patience {C p : Addr} {H : Hp} {a : EA} {e : Py} (x : Int) (h : EndAt C H p a e) : EndAt C (upd H p (.ins C a.dx (putF "patience" (.int x) (ef a e)))) p a { e with patience := x } := h.fld (ef_put_patience a e x) rfl rfl rfl
theorem EndAt.put_probe {C p : Addr} {H : Hp} {a : EA} {e : Py} (x : Bool) (h : EndAt C H p a e) : EndAt C (upd H p (.ins C a.dx (putF "probe" (.bl x) (ef a e)))) p a { e with probe := x } := h.fld (ef_put_probe a e x) rfl rfl rfl
theorem EndAt.put_broken {C p : Addr} {H : Hp} {a : EA} {e : Py} (x : Bool) (h : EndAt C H p a e) : EndAt C (upd H p (.ins C a.dx (putF "broken" (.bl x) (ef a e)))) p a { e with broken := x } := h.fld (ef_put_broken a e x) rfl rfl rfl
theorem EndAt.set_written {C p : Addr} {H : Hp} {a : EA} {e : Py} (x : List Int) (h : EndAt C H p a e) : EndAt C (upd H a.l_written (.lst (x.map V.int))) p a { e with written := x } :=
  ⟨(by rw [upd_ne (ne_of h.ob h.h_written (by intro z; cases z))]; exact h.ob), upd_same, (by rw [upd_ne h.ne_written_unread.symm]; exact h.h_unread), (by rw [upd_ne (ne_of h.h_ahead h.h_written (by intro z; cases z))]; exact h.h_ahead), h.ne_written_unread⟩
theorem EndAt.set_unread {C p : Addr} {H : Hp} {a : EA} {e : Py} (x : List Int) (h : EndAt C H p a e) : EndAt C (upd H a.l_unread (.lst (x.map V.int))) p a { e with unread := x } :=
  ⟨(by rw [upd_ne (ne_of h.ob h.h_unread (by intro z; cases z))]; exact h.ob), (by rw [upd_ne h.ne_written_unread]; exact h.h_written), upd_same, (by rw [upd_ne (ne_of h.h_ahead h.h_unread (by intro z; cases z))]; exact h.h_ahead), h.ne_written_unread⟩
theorem EndAt.ref_unread {C p : Addr} {H : Hp} {a : EA} {e : Py} {fs : List (Str × V)} {l : Addr} (x : List Int) (h : EndAt C H p a e) (hf : fs = ef { a with l_unread := l } e) (hl : H l = some (.lst (x.map V.int))) (n_written : a.l_written ≠ l) : EndAt C (upd H p (.ins C a.dx fs)) p { a with l_unread := l } { e with unread := x } := by
  subst hf
  exact ⟨upd_same, (by rw [upd_ne (ne_of h.h_written h.ob (by intro z; cases z))]; exact h.h_written), (by rw [upd_ne (ne_of hl h.ob (by intro z; cases z))]; exact hl), (by rw [upd_ne (ne_of h.h_ahead h.ob (by intro z; cases z))]; exact h.h_ahead), n_written⟩
theorem EndAt.set_ahead {C p : Addr} {H : Hp} {a : EA} {e : Py} (x : List (Int × Int)) (h : EndAt C H p a e) : EndAt C (upd H a.l_ahead (.dK (dkv x))) p a { e with ahead := x } :=
  ⟨(by rw [upd_ne (ne_of h.ob h.h_ahead (by intro z; cases z))]; exact h.ob), (by rw [upd_ne (ne_of h.h_written h.h_ahead (by intro z; cases z))]; exact h.h_written), (by rw [upd_ne (ne_of h.h_unread h.h_ahead (by intro z; cases z))]; exact h.h_unread), upd_same, h.ne_written_unread⟩
/-! ### what a method leaves -/
/-- all that it does not stand on as it was; it stands on nothing that was another's -/
structure Fr (H H' : Hp) (p : Addr) (a a' : EA) : Prop where
  keep : ∀ b o, H b = some o → ¬ EndAt.foot p a b → H' b = some o
  foot : ∀ b, EndAt.foot p a' b → EndAt.foot p a b ∨ H b = none
  live : ∀ b, H' b = none → H b = none
theorem upd_none {H : Hp} {l b : Addr} {o : HO} (h : upd H l o b = none) : H b = none := by
  by_cases q : b = l
  · subst q
    rw [upd_same] at h
    cases h
  · rw [upd_ne q] at h
    exact h
theorem Fr.refl (H : Hp) (p : Addr) (a : EA) : Fr H H p a a := ⟨fun _ _ h _ => h, fun _ h => .inl h, fun _ h => h⟩
theorem Fr.new {H H' : Hp} {p l : Addr} {a a' : EA} {o : HO} (f : Fr H H' p a a') (hl : H' l = none) : Fr H (upd H' l o) p a a' :=
  ⟨fun b o' hb hn => by have h := f.keep b o' hb hn; rw [upd_ne (ne_of_none h hl)]; exact h, f.foot, fun b h => f.live b (upd_none h)⟩
theorem Fr.same {H H' H2 : Hp} {p : Addr} {a a' : EA} (f : Fr H H' p a a') (s : Same H' H2) : Fr H H2 p a a' := ⟨fun b o hb hn => s _ _ (f.keep b o hb hn), f.foot, fun b h => f.live b (s.free h)⟩
theorem Fr.of_same {H H2 : Hp} {p : Addr} {a : EA} (s : Same H H2) : Fr H H2 p a a := (Fr.refl H p a).same s
theorem Fr.trans {H H' H2 : Hp} {p : Addr} {a a' a2 : EA} (f : Fr H H' p a a') (g : Fr H' H2 p a' a2) : Fr H H2 p a a2 :=
  ⟨fun b o hb hn => g.keep b o (f.keep b o hb hn) fun z => (f.foot b z).elim hn (fun q => by rw [q] at hb; cases hb), fun b hb => (g.foot b hb).elim (f.foot b) fun q => .inr (f.live b q), fun b h => f.live b (g.live b h)⟩
/-- a store at an address that it stands on; it may stand on new ones then -/
theorem Fr.step {H H' : Hp} {p l : Addr} {a a' a2 : EA} {o : HO} (f : Fr H H' p a a') (hl : EndAt.foot p a' l) (hf : ∀ b, EndAt.foot p a2 b → EndAt.foot p a' b ∨ H b = none) : Fr H (L2.upd H' l o) p a a2 :=
  ⟨fun b o' hb hn => by
    have h := f.keep b o' hb hn
    have hb' : b ≠ l := by
      intro q
      subst q
      rcases f.foot b hl with z | z
      · exact hn z
      · rw [hb] at z; cases z
    rw [upd_ne hb']; exact h, fun b hb => (hf b hb).elim (f.foot b) .inr, fun b h => f.live b (upd_none h)⟩
theorem Fr.upd {H H' : Hp} {p l : Addr} {a a' : EA} {o : HO} (f : Fr H H' p a a') (hl : EndAt.foot p a' l) : Fr H (L2.upd H' l o) p a a' := f.step hl fun _ h => .inl h
theorem EndAt.same {C p : Addr} {H H' : Hp} {a : EA} {e : Py} (h : EndAt C H p a e) (s : Same H H') : EndAt C H' p a e := h.keep fun b o hb _ => s b o hb
theorem _root_.L2.Same.new {H H' : Hp} {l : Addr} {o : HO} (s : Same H H') (hl : H' l = none) : Same H (upd H' l o) := fun b u hb => by have h := s b u hb; rw [upd_ne (ne_of_none h hl)]; exact h
/-! ### slices -/
theorem cut_to (xs : List V) (x : Int) (h : 0 ≤ x) : cutV xs none (some x) = xs.take x.toNat := by
  obtain ⟨n, rfl⟩ : ∃ n : Nat, x = n := ⟨x.toNat, by omega⟩
  unfold cutV
  rw [HT.sIx_nat, HT.sIx_none]
  simp
theorem cut_from (xs : List V) (x : Int) (h : 0 ≤ x) : cutV xs (some x) none = xs.drop x.toNat := by
  obtain ⟨n, rfl⟩ : ∃ n : Nat, x = n := ⟨x.toNat, by omega⟩
  unfold cutV
  rw [HT.sIx_nat, HT.sIx_none]
  by_cases q : n ≤ xs.length
  · rw [Nat.min_eq_left q, List.take_of_length_le (by rw [List.length_drop]; omega)]
    simp
  · rw [Nat.min_eq_right (by omega), List.drop_eq_nil_of_le (Nat.le_refl _), List.drop_eq_nil_of_le (by simp; omega)]
    simp
theorem cut_at (xs : List V) (x y : Int) (k n : Nat) (hx : x = (k : Int)) (hy : y = ((k + n : Nat) : Int)) : cutV xs (some x) (some y) = (xs.drop k).take n := by
  subst hx hy
  unfold cutV
  rw [HT.sIx_nat, HT.sIx_nat]
  by_cases q : k ≤ xs.length
  · rw [Nat.min_eq_left q, List.take_eq_take_iff, List.length_drop]
    omega
  · rw [List.drop_eq_nil_of_le (as := xs) (i := min k xs.length) (by omega), List.drop_eq_nil_of_le (as := xs) (i := k) (by omega)]
    simp
theorem optV_eq (o : Option Int) (i : Int) : decide (optV o = V.int i) = decide (o = some i) := by
  cases o with
  | none => simp [optV]
  | some j => simp [optV]
theorem optV_scal (o : Option Int) (i : Int) : scal (optV o) (V.int i) = true := by cases o <;> rfl
theorem optV_non (o : Option Int) : decide (optV o = V.non) = o.isNone := by
  cases o with
  | none => simp [optV]
  | some j => simp [optV]
theorem max_if (x y : Int) : (if y > x then y else x) = max x y := by omega
theorem min_if (x y : Int) : (if y < x then y else x) = min x y := by omega
theorem int_eq (x y : Int) : decide (V.int x = V.int y) = decide (x = y) := by simp
end Pr
namespace Pr
open PySem L2
open Ty (Byt)
section
variable {P : Program} {w : World} {K : PySem.W.Frag} {mg : Str → Option Value} {base : Heap} {ad : Ad}
/-! ### the sum -/
theorem sumI_snoc : ∀ (l : List Int) (k : Nat) (x : Int), sumI k (l ++ [x]) = sumI k l + (if (k + l.length) % 2 = 0 then x * 256 else x)
  | [], k, x => by simp [sumI]
  | y :: l, k, x => by
    have ih := sumI_snoc l (k + 1) x
    show (if k % 2 = 0 then y * 256 else y) + sumI (k + 1) (l ++ [x]) = ((if k % 2 = 0 then y * 256 else y) + sumI (k + 1) l) + _
    rw [ih, List.length_cons, show k + 1 + l.length = k + (l.length + 1) by omega]
    omega
theorem sumI_pos : ∀ (l : List Int) (k : Nat), Byt l → 0 ≤ sumI k l
  | [], _, _ => Int.le_refl _
  | y :: l, k, h => by
    have ih := sumI_pos l (k + 1) fun x hx => h x (List.Mem.tail _ hx)
    have := h y (List.Mem.head _)
    show 0 ≤ (if k % 2 = 0 then y * 256 else y) + sumI (k + 1) l
    split <;> omega
/-- looks at a list; the heap may have grown -/
def sp_seg (pre : List Int → Prop) (f : List Int → V) : Sp := fun vs H Q _ => ∃ (r : Addr) (xs : List Int), vs = [.ref r] ∧ H r = some (.lst (xs.map V.int)) ∧ pre xs ∧ ∀ H' : Hp, Same H H' → Q (f xs) H'
theorem sp_seg_len {pre : List Int → Prop} {f : List Int → V} (vs : List V) (H : Hp) (Q : VK) (E : XK) (h : sp_seg pre f vs H Q E) : vs.length = 1 := by
  obtain ⟨r, xs, rfl, _⟩ := h
  rfl
theorem ok_sum_is_right (T : Txt K mg ad) : FnOk P w K mg base CX0 1 ad.f_sum_is_right ad.fd_sum_is_right ["segment"] (sp_seg Byt fun xs => .bl (sumOk xs)) := by
  refine T.F_sum_is_right.ok sc_sum_is_right sp_seg_len (fun cdv A outer s H vs Q E hr h => ?_)
  obtain ⟨r, xs, rfl, hx, hb, k⟩ := h
  refine ⟨_, (pss_cons (ps_set (i := 1) sc_sum_is_right.nd rfl (Or.inl rfl) pe_int)
      (pss_cons (ps_for PassesOwn.never rfl (pi_enum rfl T.z_enumerate (pa_cons (pv 0) pa_nil)) (pg_tup rfl (pgs_cons (pg_name (i := 2) sc_sum_is_right.nd rfl (Or.inl rfl)) (pgs_cons (pg_name (i := 3) sc_sum_is_right.nd rfl (Or.inl rfl)) pgs_nil)))
      (pss_one (ps_aug (i := 1) sc_sum_is_right.nd rfl (Or.inl rfl) (pe_cut (pe_ifExp (pt_cmpR op_eq (pe_op op_mod (pv 2) pe_int) pe_int (nomark _)) (pe_op op_mul (pv 3) pe_int) (pv 3))) ip_add)))
      (pss_cons (ps_while PassesOwn.never (pt_cut (pt_cmpR op_gt (pv 1) (pe_glob (by rfl) T.c_FULL_WORD.1 T.c_FULL_WORD.2) (nomark _)))
      (pss_one (ps_set (i := 1) sc_sum_is_right.nd rfl (Or.inl rfl) (pe_op op_add (pe_op op_fdiv (pv 1) (pe_glob (by rfl) T.c_WORD.1 T.c_WORD.2)) (pe_op op_mod (pv 1) (pe_glob (by rfl) T.c_WORD.1 T.c_WORD.2))))))
      (pss_one (ps_ret (pe_cmpR op_eq (pv 1) (pe_glob (by rfl) T.c_FULL_WORD.1 T.c_FULL_WORD.2) (nomark _))))))), ?_⟩
  refine ⟨_, rfl, r, _, rfl, SqL.of hx, for_enum (K := K) (a := r) (xs := xs.map V.int) (fun i σ H2 => ∃ (v2 v3 : Option V), σ = [some (.ref r), some (.int (sumI 0 (xs.take i))), v2, v3] ∧ Same H H2)
    ⟨none, none, rfl, .refl _⟩ (fun i σ H2 _ ⟨_, _, _, sm⟩ => SqL.of (sm _ _ hx)) ?_ ?_⟩
  · rintro i y t σ H2 hi ⟨v2, v3, rfl, sm⟩ ht
    obtain ⟨x, hxi, rfl⟩ : ∃ x, xs[i]? = some x ∧ y = .int x := by
      rw [List.getElem?_map] at hi
      cases q : xs[i]? with
      | none => rw [q] at hi; cases hi
      | some x => rw [q] at hi; exact ⟨x, rfl, (Option.some.inj hi).symm⟩
    have hil := (List.getElem?_eq_some_iff.mp hxi).1
    have hxb := hb x (List.mem_of_getElem? hxi)
    refine ⟨t, _, rfl, SqT.of upd_same, rfl, _, _, rfl, _, _, rfl, rfl, ?_⟩
    refine ⟨_, rfl, tCutE_of (.int (if i % 2 = 0 then x * 256 else x)) ⟨_, rfl, _, _, rfl, rfl, (by show (0 : Int) < _; decide), rfl, _, rfl, ?_⟩ ⟨_, _, rfl, rfl, ?_⟩⟩
    · by_cases q : i % 2 = 0
      · rw [int_eq, decide_eq_true (by omega), if_pos q]
        exact iteT ⟨_, rfl, _, _, rfl, rfl, .inr ⟨by decide, by decide⟩, rfl, rfl⟩
      · rw [int_eq, decide_eq_false (by omega), if_neg q]
        exact iteF ⟨_, rfl, rfl, rfl⟩
    · refine ⟨some (.int (i : Int)), some (.int x), ?_, sm.new ht⟩
      rw [List.take_add_one, hxi, show (some x).toList = [x] from rfl, sumI_snoc, List.length_take, Nat.min_eq_left (by omega), Nat.zero_add]
      rfl
  · rintro σ H2 ⟨v2, v3, rfl, sm⟩
    rw [List.length_map, List.take_length]
    have hS := sumI_pos xs 0 hb
    refine while_cut (fun σ H3 => H3 = H2 ∧ ∃ t : Int, σ = [some (.ref r), some (.int t), v2, v3] ∧ 0 ≤ t ∧ t % 65535 = sumI 0 xs % 65535 ∧ (0 < t ↔ 0 < sumI 0 xs)) (fun σ _ => match σ with
      | [_, some (.int t), _, _] => t.toNat
      | _ => 0) ⟨rfl, _, rfl, hS, rfl, Iff.rfl⟩ ?_
    rintro σ H3 ⟨rfl, t, rfl, h0, h1, h2⟩
    refine tCutT_of (decide (65535 < t)) ⟨_, rfl, _, _, rfl, rfl, _, rfl, rfl, rfl⟩ ?_
    by_cases q : 65535 < t
    · rw [decide_eq_true q]
      refine iteT ⟨_, rfl, _, _, rfl, rfl, ⟨by decide, by decide⟩, _, rfl, _, _, rfl, rfl, (by show (0 : Int) < _; decide), _, _, rfl, rfl, ?_⟩
      refine ⟨⟨rfl, _, rfl, ?_, ?_, ?_⟩, ?_⟩
      · omega
      · omega
      · omega
      · show (t / 65536 + t % 65536).toNat < t.toNat
        omega
    · rw [decide_eq_false q]
      refine iteF ⟨_, rfl, rfl, ?_⟩
      have e : decide (V.int t = V.int 65535) = sumOk xs := by
        unfold sumOk
        rw [int_eq, decide_eq_decide]
        omega
      rw [e]
      exact k _ sm
/-! ### numbers, flags, data -/
def sp_num : Sp := fun vs H Q _ => ∃ (r : Addr) (xs : List Int) (a n : Nat), vs = [.ref r, .int a, .int n] ∧ H r = some (.lst (xs.map V.int)) ∧ ∀ H' : Hp, Same H H' → Q (.int (numAt xs a n)) H'
theorem numOf_snoc (l : List Int) (x : Int) : numOf (l ++ [x]) = numOf l * 256 + x := by
  unfold numOf
  rw [List.foldl_append]
  rfl
theorem ok_number_at (T : Txt K mg ad) : FnOk P w K mg base CX0 1 ad.f_number_at ad.fd_number_at ["segment", "at", "length"] sp_num := by
  refine T.F_number_at.ok sc_number_at (fun vs H Q E h => ?_) (fun cdv A outer s H vs Q E hr h => ?_)
  · obtain ⟨r, xs, a, n, rfl, _⟩ := h
    rfl
  obtain ⟨r, xs, a, n, rfl, hx, k⟩ := h
  refine ⟨_, (pss_cons (ps_set (i := 3) sc_number_at.nd rfl (Or.inl rfl) pe_int)
      (pss_cons (ps_for PassesOwn.never rfl (pi_list (pe_slice sl_list (pv 0) (po_some (pv 1)) (po_some (pe_op op_add (pv 1) (pv 2))))) (pg_name (i := 4) sc_number_at.nd rfl (Or.inl rfl))
      (pss_one (ps_set (i := 3) sc_number_at.nd rfl (Or.inl rfl) (pe_op op_add (pe_op op_mul (pv 3) pe_int) (pv 4)))))
      (pss_one (ps_ret (pv 3))))), ?_⟩
  refine ⟨_, rfl, _, rfl, _, rfl, _, rfl, _, rfl, _, _, rfl, rfl, _, rfl, r, _, rfl, SqL.of hx, fun t ht => ?_⟩
  rw [cut_at _ _ _ a n rfl (by omega), ← List.map_drop, ← List.map_take]
  generalize hys : (xs.drop a).take n = ys
  have s1 : Same H (upd H t (.lst (ys.map V.int))) := (Same.refl H).new ht
  refine ⟨t, rfl, ⟨_, SqL.of upd_same⟩, for_list (K := K) (a := t) (xs := ys.map V.int) (fun i σ H2 => ∃ v4 : Option V, σ = [some (.ref r), some (.int a), some (.int n), some (.int (numOf (ys.take i))), v4] ∧ H2 = upd H t (.lst (ys.map V.int)))
    ⟨none, rfl, rfl⟩ (fun i σ H2 _ ⟨_, _, e⟩ => by rw [e]; exact SqL.of upd_same) ?_ ?_⟩
  · rintro i y σ H2 hi ⟨v4, rfl, rfl⟩
    obtain ⟨x, hxi, rfl⟩ : ∃ x, ys[i]? = some x ∧ y = .int x := by
      rw [List.getElem?_map] at hi
      cases q : ys[i]? with
      | none => rw [q] at hi; cases hi
      | some x => rw [q] at hi; exact ⟨x, rfl, (Option.some.inj hi).symm⟩
    refine ⟨_, rfl, _, _, rfl, rfl, .inr ⟨by decide, by decide⟩, _, rfl, _, _, rfl, rfl, some (.int x), ?_, rfl⟩
    rw [List.take_add_one, hxi, show (some x).toList = [x] from rfl, numOf_snoc]
    rfl
  · rintro σ H2 ⟨v4, rfl, rfl⟩
    rw [List.length_map, List.take_length]
    refine ⟨_, rfl, ?_⟩
    have := k _ s1
    unfold numAt at this
    rw [hys] at this
    exact this
theorem ok_place_of (T : Txt K mg ad) : FnOk P w K mg base CX0 2 ad.f_place_of ad.fd_place_of ["segment"] (sp_seg (fun _ => True) fun xs => .int (numAt xs 0 4)) := by
  have G_number_at : FnOk P w K mg base CX0 _ ad.f_number_at ad.fd_number_at ["segment", "at", "length"] _ := ok_number_at T
  refine T.F_place_of.ok sc_place_of sp_seg_len (fun cdv A outer s H vs Q E hr h => ?_)
  obtain ⟨r, xs, rfl, hx, _, k⟩ := h
  refine ⟨_, (pss_one (ps_ret (pe_call G_number_at (hr.mono (by decide)) (by rfl) T.g_number_at T.F_number_at.kp T.b_number_at .nil pass0 (pa_cons (pv 0) (pa_cons pe_int (pa_cons pe_int pa_nil)))))), ?_⟩
  exact ⟨_, rfl, r, xs, 0, 4, rfl, hx, k⟩
theorem ok_wanted_place_of (T : Txt K mg ad) : FnOk P w K mg base CX0 2 ad.f_wanted_place_of ad.fd_wanted_place_of ["segment"] (sp_seg (fun _ => True) fun xs => .int (numAt xs 4 4)) := by
  have G_number_at : FnOk P w K mg base CX0 _ ad.f_number_at ad.fd_number_at ["segment", "at", "length"] _ := ok_number_at T
  refine T.F_wanted_place_of.ok sc_wanted_place_of sp_seg_len (fun cdv A outer s H vs Q E hr h => ?_)
  obtain ⟨r, xs, rfl, hx, _, k⟩ := h
  refine ⟨_, (pss_one (ps_ret (pe_call G_number_at (hr.mono (by decide)) (by rfl) T.g_number_at T.F_number_at.kp T.b_number_at .nil pass0 (pa_cons (pv 0) (pa_cons (pe_glob (by rfl) T.c_WANTED_AT.1 T.c_WANTED_AT.2) (pa_cons pe_int pa_nil)))))), ?_⟩
  exact ⟨_, rfl, r, xs, 4, 4, rfl, hx, k⟩
theorem ok_window_of (T : Txt K mg ad) : FnOk P w K mg base CX0 2 ad.f_window_of ad.fd_window_of ["segment"] (sp_seg (fun _ => True) fun xs => .int (numAt xs 10 2)) := by
  have G_number_at : FnOk P w K mg base CX0 _ ad.f_number_at ad.fd_number_at ["segment", "at", "length"] _ := ok_number_at T
  refine T.F_window_of.ok sc_window_of sp_seg_len (fun cdv A outer s H vs Q E hr h => ?_)
  obtain ⟨r, xs, rfl, hx, _, k⟩ := h
  refine ⟨_, (pss_one (ps_ret (pe_call G_number_at (hr.mono (by decide)) (by rfl) T.g_number_at T.F_number_at.kp T.b_number_at .nil pass0 (pa_cons (pv 0) (pa_cons (pe_glob (by rfl) T.c_WINDOW_AT.1 T.c_WINDOW_AT.2) (pa_cons pe_int pa_nil)))))), ?_⟩
  exact ⟨_, rfl, r, xs, 10, 2, rfl, hx, k⟩
theorem at_getD {xs : List Int} {j : Nat} (h : j < xs.length) : atI (xs.map V.int) (j : Int) = some (.int (xs.getD j 0)) := by
  refine atI_nat ?_
  rw [List.getElem?_map, List.getElem?_eq_getElem h, List.getD_eq_getElem?_getD, List.getElem?_eq_getElem h]
  rfl
theorem and_bit (n j : Nat) : n &&& 2 ^ j = 0 ↔ n.testBit j = false := by
  constructor
  · intro h
    have := congrArg (fun m => m.testBit j) h
    simpa [Nat.testBit_and, Nat.testBit_two_pow_self] using this
  · intro h
    refine Nat.eq_of_testBit_eq fun k => ?_
    rw [Nat.testBit_and, Nat.testBit_two_pow, Nat.zero_testBit]
    by_cases q : j = k
    · rw [← q, h]
      rfl
    · simp [q]
theorem flag_and {x : Int} (h : 0 ≤ x) (j : Nat) : (!decide (V.int (Builtin.bitAnd x ((2 ^ j : Nat) : Int)) = V.int 0)) = x.toNat.testBit j := by
  rw [int_eq, PyProof.Rows.bitAnd_pp h (Int.natCast_nonneg _), Int.toNat_natCast]
  have hb := and_bit x.toNat j
  cases q : x.toNat.testBit j with
  | true =>
    rw [decide_eq_false (fun z => by
      have := hb.mp (by omega)
      rw [q] at this
      cases this)]
    rfl
  | false =>
    rw [hb.mpr q]
    rfl
def sp_flag : Sp := fun vs H Q _ => ∃ (r : Addr) (xs : List Int) (j : Nat), vs = [.ref r, .int ((2 ^ j : Nat) : Int)] ∧ H r = some (.lst (xs.map V.int)) ∧ Byt xs ∧ 14 ≤ xs.length ∧ Q (.bl (flag xs j)) H
theorem ok_has_flag (T : Txt K mg ad) : FnOk P w K mg base CX0 1 ad.f_has_flag ad.fd_has_flag ["segment", "flag"] sp_flag := by
  refine T.F_has_flag.ok sc_has_flag (fun vs H Q E h => ?_) (fun cdv A outer s H vs Q E hr h => ?_)
  · obtain ⟨r, xs, j, rfl, _⟩ := h
    rfl
  obtain ⟨r, xs, j, rfl, hx, hb, hl, k⟩ := h
  refine ⟨_, (pss_one (ps_ret (pe_cmpR op_ne (pe_op op_and (pe_ix ix_list (pv 0) (pe_glob (by rfl) T.c_FLAGS_AT.1 T.c_FLAGS_AT.2) (fun _ _ => rfl)) (pv 1)) pe_int (nomark _)))), ?_⟩
  have hx0 : 0 ≤ xs.getD 8 0 := by
    have h8 : 8 < xs.length := by omega
    rw [List.getD_eq_getElem?_getD, List.getElem?_eq_getElem h8]
    exact (hb _ (List.getElem_mem h8)).1
  refine ⟨_, rfl, r, _, _, _, rfl, rfl, SqL.of hx, at_getD (j := 8) (by omega), _, rfl, _, _, rfl, rfl, rfl, ?_⟩
  rw [flag_and hx0]
  exact k
def sp_data : Sp := fun vs H Q _ => ∃ (r : Addr) (xs : List Int), vs = [.ref r] ∧ H r = some (.lst (xs.map V.int)) ∧ ∀ (l : Addr) (H' : Hp), H l = none → H' l = some (.lst ((xs.drop 14).map V.int)) → Same H H' → Q (.ref l) H'
theorem ok_data_of (T : Txt K mg ad) : FnOk P w K mg base CX0 1 ad.f_data_of ad.fd_data_of ["segment"] sp_data := by
  refine T.F_data_of.ok sc_data_of (fun vs H Q E h => ?_) (fun cdv A outer s H vs Q E hr h => ?_)
  · obtain ⟨r, xs, rfl, _⟩ := h
    rfl
  obtain ⟨r, xs, rfl, hx, k⟩ := h
  refine ⟨_, (pss_one (ps_ret (pe_slice sl_list (pv 0) (po_some (pe_glob (by rfl) T.c_HEAD.1 T.c_HEAD.2)) po_none))), ?_⟩
  refine ⟨_, rfl, _, rfl, r, _, rfl, SqL.of hx, fun t ht => ?_⟩
  refine k t _ ht ?_ ((Same.refl H).new ht)
  rw [upd_same, cut_from _ _ (by decide), ← List.map_drop]
  rfl
theorem ok_is_right (T : Txt K mg ad) : FnOk P w K mg base CX0 2 ad.f_is_right ad.fd_is_right ["segment"] (sp_seg Byt fun xs => .bl (isRight xs)) := by
  have G_sum_is_right : FnOk P w K mg base CX0 _ ad.f_sum_is_right ad.fd_sum_is_right ["segment"] _ := ok_sum_is_right T
  refine T.F_is_right.ok sc_is_right sp_seg_len (fun cdv A outer s H vs Q E hr h => ?_)
  obtain ⟨r, xs, rfl, hx, hb, k⟩ := h
  refine ⟨_, (pss_one (ps_ret (pe_cut (pe_and (pe_cmpR op_ge (pe_callB call_len_seq (by rfl) T.z_len PySem.boot_len (pa_cons (pv 0) pa_nil)) (pe_glob (by rfl) T.c_HEAD.1 T.c_HEAD.2) (nomark _)) (pe_and (pe_cmpR op_eq (pe_ix ix_list (pv 0) (pe_glob (by rfl) T.c_ZERO_AT.1 T.c_ZERO_AT.2) (fun _ _ => rfl)) pe_int (nomark _)) (pe_one (pe_call G_sum_is_right (hr.mono (by decide)) (by rfl) T.g_sum_is_right T.F_sum_is_right.kp T.b_sum_is_right .nil pass0 (pa_cons (pv 0) pa_nil)))))))), ?_⟩
  refine ⟨fun v H' => v = .bl (isRight xs) ∧ Same H H', ⟨_, rfl, r, _, rfl, .inl (SqL.of hx), _, _, rfl, rfl, _, rfl, ?_⟩, fun v H' ⟨e, sm⟩ => by rw [e]; exact k _ sm⟩
  unfold isRight
  rw [List.length_map]
  by_cases q : 14 ≤ xs.length
  · rw [decide_eq_true (p := (14 : Int) ≤ (xs.length : Int)) (by omega), decide_eq_true q]
    refine iteT ⟨_, rfl, r, _, _, _, rfl, rfl, SqL.of hx, at_getD (j := 9) (by omega), rfl, _, rfl, ?_⟩
    rw [int_eq]
    by_cases q2 : xs.getD 9 0 = 0
    · rw [decide_eq_true q2]
      exact iteT ⟨_, rfl, r, xs, rfl, hx, hb, fun H' sm => ⟨rfl, sm⟩⟩
    · rw [decide_eq_false q2]
      exact iteF ⟨rfl, .refl _⟩
  · rw [decide_eq_false (p := (14 : Int) ≤ (xs.length : Int)) (by omega), decide_eq_false q]
    exact iteF ⟨rfl, .refl _⟩
/-! ### rows -/
def sp_row : Sp := fun vs H Q _ => ∃ (z : Int) (n : Nat), vs = [.int z, .int n] ∧ n ≤ 100 ∧ ∀ (l : Addr) (H' : Hp), H l = none → H' l = some (.lst ((rowOf z n).map V.int)) → Same H H' → Q (.ref l) H'
theorem ok_row_of (T : Txt K mg ad) : FnOk P w K mg base CX0 1 ad.f_row_of ad.fd_row_of ["number", "length"] sp_row := by
  refine T.F_row_of.ok sc_row_of (fun vs H Q E h => ?_) (fun cdv A outer s H vs Q E hr h => ?_)
  · obtain ⟨z, n, rfl, _⟩ := h
    rfl
  obtain ⟨z, n, rfl, hn, k⟩ := h
  refine ⟨_, (pss_cons (ps_set (i := 2) sc_row_of.nd rfl (Or.inl rfl) (pe_lst pa_nil))
      (pss_cons (ps_for PassesOwn.never rfl (pi_range1 rfl T.z_range (pa_cons (pv 1) pa_nil)) (pg_name (i := 3) sc_row_of.nd rfl (Or.inl rfl))
      (pss_cons (ps_expr (pe_bm PySem.F.plainAttrs_list PySem.F.slot_list_append PySem.F.type_list_append mt_append (pv 2) (pa_cons (pe_op op_mod (pv 0) pe_int) pa_nil)))
      (pss_one (ps_set (i := 0) sc_row_of.nd rfl (Or.inl rfl) (pe_op op_fdiv (pv 0) pe_int)))))
      (pss_one (ps_ret (pe_listrev rfl (by rfl) T.z_list (by rfl) T.z_reversed (pa_cons (pv 2) pa_nil)))))), ?_⟩
  refine ⟨(by decide), fun t ht => ?_⟩
  refine ⟨_, rfl, n, rfl, (by omega), (by omega), for_range (lo := 0) (n := n) (fun i σ H2 => ∃ (zi : Int) (done : List Int) (v3 : Option V), σ = [some (.int zi), some (.int n), some (.ref t), v3] ∧ done.length = i ∧ digits z n = done ++ digits zi (n - i) ∧
    H2 t = some (.lst (done.map V.int)) ∧ Same H H2) ⟨z, [], none, rfl, rfl, rfl, upd_same, (Same.refl H).new ht⟩ ?_ ?_⟩
  · rintro i σ H2 hi ⟨zi, done, v3, rfl, hd, he, h2, sm⟩
    refine ⟨_, rfl, .inl ⟨rfl, _, SqL.of h2⟩, _, rfl, _, _, rfl, rfl, (by show (0 : Int) < _; decide), t, _, _, rfl, rfl, h2, ?_, ?_⟩
    · rw [List.length_map]
      exact Nat.lt_of_lt_of_le (show done.length < 200 by omega) (by decide)
    refine ⟨_, rfl, _, _, rfl, rfl, ⟨by decide, by decide⟩, ?_⟩
    refine ⟨zi / 256, done ++ [zi % 256], _, rfl, by simp [hd], ?_, ?_, ?_⟩
    · rw [he, List.append_assoc, show n - i = (n - (i + 1)) + 1 by omega]
      rfl
    · rw [upd_same]
      simp
    · intro b o hb
      rw [upd_ne (ne_of_none hb ht)]
      exact sm b o hb
  · rintro σ H2 ⟨zi, done, v3, rfl, hd, he, h2, sm⟩
    rw [Nat.sub_self] at he
    have he' : digits z n = done := by rw [he]; exact List.append_nil _
    refine ⟨_, rfl, t, _, rfl, SqL.of h2, fun l hl => ?_⟩
    refine k l _ (sm.free hl) ?_ (sm.new hl)
    rw [upd_same, ← List.map_reverse]
    unfold rowOf
    rw [he']
theorem rowOf_len : ∀ (z : Int) (n : Nat), (rowOf z n).length = n := by
  intro z n
  unfold rowOf
  rw [List.length_reverse]
  induction n generalizing z with
  | zero => rfl
  | succ n ih =>
    show (digits (z / 256) n).length + 1 = n + 1
    rw [ih]
def sp_sws : Sp := fun vs H Q _ => ∃ (p wp f wi : Int) (r : Addr) (d : List Int), vs = [.int p, .int wp, .int f, .int wi, .ref r] ∧ H r = some (.lst (d.map V.int)) ∧ d.length ≤ 100000 ∧
  ∀ (l : Addr) (H' : Hp), H l = none → H' l = some (.lst ((rowOf p 4 ++ rowOf wp 4 ++ [f, 0] ++ rowOf wi 2 ++ [0, 0] ++ d).map V.int)) → Same H H' → Q (.ref l) H'
theorem ok_segment_without_sum (T : Txt K mg ad) : FnOk P w K mg base CX0 2 ad.f_segment_without_sum ad.fd_segment_without_sum ["place", "wanted_place", "flags", "window", "data"] sp_sws := by
  have G_row_of : FnOk P w K mg base CX0 _ ad.f_row_of ad.fd_row_of ["number", "length"] _ := ok_row_of T
  refine T.F_segment_without_sum.ok sc_segment_without_sum (fun vs H Q E h => ?_) (fun cdv A outer s H vs Q E hr h => ?_)
  · obtain ⟨p, wp, f, wi, r, d, rfl, _⟩ := h
    rfl
  obtain ⟨p, wp, f, wi, r, d, rfl, hx, hd, k⟩ := h
  refine ⟨_, (pss_one (ps_ret (pe_op op_cat (pe_op op_cat (pe_op op_cat (pe_op op_cat (pe_op op_cat (pe_call G_row_of (hr.mono (by decide)) (by rfl) T.g_row_of T.F_row_of.kp T.b_row_of .nil pass0 (pa_cons (pv 0) (pa_cons pe_int pa_nil))) (pe_call G_row_of (hr.mono (by decide)) (by rfl) T.g_row_of T.F_row_of.kp T.b_row_of .nil pass0 (pa_cons (pv 1) (pa_cons pe_int pa_nil)))) (pe_lst (pa_cons (pv 2) (pa_cons pe_int pa_nil)))) (pe_call G_row_of (hr.mono (by decide)) (by rfl) T.g_row_of T.F_row_of.kp T.b_row_of .nil pass0 (pa_cons (pv 3) (pa_cons pe_int pa_nil)))) (pe_lst (pa_cons pe_int (pa_cons pe_int pa_nil)))) (pv 4)))), ?_⟩
  have big : ∀ n : Nat, n ≤ 200000 → n ≤ sizeLine := fun n h => Nat.le_trans h (by decide)
  refine ⟨_, rfl, p, 4, rfl, (by decide), fun l1 H1 n1 h1 s1 => ?_⟩
  refine ⟨_, rfl, wp, 4, rfl, (by decide), fun l2 H2 n2 h2 s2 => ?_⟩
  refine ⟨l1, l2, _, _, rfl, rfl, s2 _ _ h1, h2, big _ (by simp [rowOf_len]), fun l3 n3 => ?_⟩
  have s3 := (s1.trans s2).new (o := .lst ((rowOf p 4).map V.int ++ (rowOf wp 4).map V.int)) n3
  refine ⟨_, rfl, (show 2 ≤ sizeLine by decide), fun l4 n4 => ?_⟩
  have s4 := s3.new (o := .lst [.int f, .int 0]) n4
  refine ⟨l3, l4, _, _, rfl, rfl, (by rw [upd_ne (ne_of_none upd_same n4), upd_same]), upd_same, big _ (by simp [rowOf_len]), fun l5 n5 => ?_⟩
  have s5 := s4.new (o := .lst ((rowOf p 4).map V.int ++ (rowOf wp 4).map V.int ++ [.int f, .int 0])) n5
  refine ⟨_, rfl, wi, 2, rfl, (by decide), fun l6 H6 n6 h6 s6 => ?_⟩
  refine ⟨l5, l6, _, _, rfl, rfl, s6 _ _ upd_same, h6, big _ (by simp [rowOf_len]), fun l7 n7 => ?_⟩
  have s7 := (s5.trans s6).new (o := .lst ((rowOf p 4).map V.int ++ (rowOf wp 4).map V.int ++ [.int f, .int 0] ++ (rowOf wi 2).map V.int)) n7
  refine ⟨(show 2 ≤ sizeLine by decide), fun l8 n8 => ?_⟩
  have s8 := s7.new (o := .lst [.int 0, .int 0]) n8
  refine ⟨l7, l8, _, _, rfl, rfl, (by rw [upd_ne (ne_of_none upd_same n8), upd_same]), upd_same, big _ (by simp [rowOf_len]), fun l9 n9 => ?_⟩
  have s9 := s8.new (o := .lst ((rowOf p 4).map V.int ++ (rowOf wp 4).map V.int ++ [.int f, .int 0] ++ (rowOf wi 2).map V.int ++ [.int 0, .int 0])) n9
  refine ⟨_, rfl, l9, r, _, _, rfl, rfl, upd_same, s9 _ _ hx, big _ (by simp [rowOf_len]; omega), fun l n => ?_⟩
  refine k l _ (s9.free n) ?_ (s9.new n)
  rw [upd_same]
  simp
def sp_near : Sp := fun vs H Q _ => ∃ x y : Int, vs = [.int x, .int y] ∧ Q (.int (nearI x y)) H
theorem ok_nearest (T : Txt K mg ad) : FnOk P w K mg base CX0 1 ad.f_nearest ad.fd_nearest ["number", "near"] sp_near := by
  refine T.F_nearest.ok sc_nearest (fun vs H Q E h => ?_) (fun cdv A outer s H vs Q E hr h => ?_)
  · obtain ⟨x, y, rfl, _⟩ := h
    rfl
  obtain ⟨x, y, rfl, k⟩ := h
  refine ⟨_, (pss_cons (ps_set (i := 2) sc_nearest.nd rfl (Or.inl rfl) (pe_op op_mod (pe_op op_sub (pv 0) (pv 1)) (pe_glob (by rfl) T.c_ROUND.1 T.c_ROUND.2)))
      (pss_cons (ps_if (pt_cmpR op_ge (pv 2) (pe_glob (by rfl) T.c_HALF_ROUND.1 T.c_HALF_ROUND.2) (nomark _))
      (pss_one (ps_ret (pe_op op_sub (pe_op op_add (pv 1) (pv 2)) (pe_glob (by rfl) T.c_ROUND.1 T.c_ROUND.2))))
      pss_nil)
      (pss_one (ps_ret (pe_op op_add (pv 1) (pv 2)))))), ?_⟩
  refine ⟨_, rfl, _, rfl, _, _, rfl, rfl, _, _, rfl, rfl, (by show (0 : Int) < _; decide), _, rfl, _, _, rfl, rfl, _, rfl, ?_⟩
  unfold nearI at k
  by_cases q : (2147483648 : Int) ≤ (x - y) % 4294967296
  · rw [if_pos q] at k
    rw [decide_eq_true q]
    exact iteT ⟨_, rfl, _, rfl, _, _, rfl, rfl, _, _, rfl, rfl, k⟩
  · rw [if_neg q] at k
    rw [decide_eq_false q]
    exact iteF ⟨_, rfl, _, rfl, _, _, rfl, rfl, k⟩
end
end Pr
namespace Pr
open PySem L2
open Ty (Byt)
section
variable {P : Program} {w : World} {K : PySem.W.Frag} {mg : Str → Option Value} {base : Heap} {ad : Ad}
/-! ### methods that only look -/
def sp_look (C : Addr) (f : Py → V) : Sp := fun vs H Q _ => ∃ (p : Addr) (a : EA) (e : Py), vs = [.ref p] ∧ EndAt C H p a e ∧ Q (f e) H
theorem sp_look_len {C : Addr} {f : Py → V} (vs : List V) (H : Hp) (Q : VK) (E : XK) (h : sp_look C f vs H Q E) : vs.length = 1 := by
  obtain ⟨p, a, e, rfl, _⟩ := h
  rfl
theorem ok_End_end_number (T : Txt K mg ad) : FnOk P w K mg base CX0 1 ad.f_End_end_number ad.fd_End_end_number ["self"] (sp_look ad.C_End fun e => .int e.endn) := by
  refine T.F_End_end_number.ok sc_End_end_number sp_look_len (fun cdv A outer s H vs Q E hr h => ?_)
  obtain ⟨p, a, e, rfl, h, k⟩ := h
  refine ⟨_, (pss_one (ps_ret (pe_op op_add (pe_callB call_len_seq (by rfl) T.z_len PySem.boot_len (pa_cons (pe_fld (pv 0) rfl) pa_nil)) pe_int))), ?_⟩
  refine ⟨_, rfl, _, _, _, _, _, rfl, h.ob, T.cl_End, T.n_End_written, ef_written _ _, _, _, rfl, .inl (SqL.of h.h_written), _, _, rfl, rfl, ?_⟩
  rw [List.length_map]
  exact k
theorem ok_End_other_has_begun (T : Txt K mg ad) : FnOk P w K mg base CX0 1 ad.f_End_other_has_begun ad.fd_End_other_has_begun ["self"] (sp_look ad.C_End fun e => .bl e.begun) := by
  refine T.F_End_other_has_begun.ok sc_End_other_has_begun sp_look_len (fun cdv A outer s H vs Q E hr h => ?_)
  obtain ⟨p, a, e, rfl, h, k⟩ := h
  refine ⟨_, (pss_one (ps_ret (pe_cmpR op_notN (pe_fld (pv 0) rfl) pe_non (nomark _)))), ?_⟩
  refine ⟨_, rfl, _, _, _, _, _, rfl, h.ob, T.cl_End, T.n_End_their_first, ef_their_first _ _, rfl, ?_⟩
  rw [optV_non]
  have : (!e.their_first.isNone) = e.begun := by
    unfold Py.begun
    cases e.their_first <;> rfl
  rw [this]
  exact k
theorem ok_End_next_in_order (T : Txt K mg ad) : FnOk P w K mg base CX0 1 ad.f_End_next_in_order ad.fd_End_next_in_order ["self"] (sp_look ad.C_End fun e => .int e.nio) := by
  refine T.F_End_next_in_order.ok sc_End_next_in_order sp_look_len (fun cdv A outer s H vs Q E hr h => ?_)
  obtain ⟨p, a, e, rfl, h, k⟩ := h
  refine ⟨_, (pss_one (ps_ret (pe_op op_add (pe_fld (pv 0) rfl) pe_int))), ?_⟩
  exact ⟨_, rfl, _, _, _, _, _, rfl, h.ob, T.cl_End, T.n_End_came, ef_came _ _, _, _, rfl, rfl, k⟩
theorem ok_End_window (T : Txt K mg ad) : FnOk P w K mg base CX0 1 ad.f_End_window ad.fd_End_window ["self"] (sp_look ad.C_End fun e => .int e.window) := by
  refine T.F_End_window.ok sc_End_window sp_look_len (fun cdv A outer s H vs Q E hr h => ?_)
  obtain ⟨p, a, e, rfl, h, k⟩ := h
  refine ⟨_, (pss_one (ps_ret (pe_op op_sub (pe_glob (by rfl) T.c_FULL_WINDOW.1 T.c_FULL_WINDOW.2) (pe_callB call_len_seq (by rfl) T.z_len PySem.boot_len (pa_cons (pe_fld (pv 0) rfl) pa_nil))))), ?_⟩
  refine ⟨_, rfl, _, _, _, _, _, rfl, h.ob, T.cl_End, T.n_End_unread, ef_unread _ _, _, _, rfl, .inl (SqL.of h.h_unread), _, _, rfl, rfl, ?_⟩
  rw [List.length_map]
  exact k
theorem ok_End_whole (T : Txt K mg ad) : FnOk P w K mg base CX0 2 ad.f_End_whole ad.fd_End_whole ["self"] (sp_look ad.C_End fun e => .bl e.whole) := by
  have G_End_next_in_order : FnOk P w K mg base CX0 _ ad.f_End_next_in_order ad.fd_End_next_in_order ["self"] _ := ok_End_next_in_order T
  refine T.F_End_whole.ok sc_End_whole sp_look_len (fun cdv A outer s H vs Q E hr h => ?_)
  obtain ⟨p, a, e, rfl, h, k⟩ := h
  refine ⟨_, (pss_one (ps_ret (pe_cmpR op_eq (pe_fld (pv 0) rfl) (pe_meth0 (pv 0) T.cl_End T.m_End_next_in_order G_End_next_in_order (hr.mono (by decide)) T.b_End_next_in_order .nil pass0) (nomark _)))), ?_⟩
  refine ⟨_, rfl, _, _, _, _, _, rfl, h.ob, T.cl_End, T.n_End_their_end, ef_their_end _ _, _, rfl, _, _, _, rfl, h.ob, ef_no_next_in_order _ _, _, _, _, rfl, h, optV_scal _ _, ?_⟩
  rw [optV_eq]
  exact k
theorem ok_End_wanted (T : Txt K mg ad) : FnOk P w K mg base CX0 3 ad.f_End_wanted ad.fd_End_wanted ["self"] (sp_look ad.C_End fun e => .int e.wanted) := by
  have G_End_next_in_order : FnOk P w K mg base CX0 _ ad.f_End_next_in_order ad.fd_End_next_in_order ["self"] _ := ok_End_next_in_order T
  have G_End_whole : FnOk P w K mg base CX0 _ ad.f_End_whole ad.fd_End_whole ["self"] _ := ok_End_whole T
  refine T.F_End_wanted.ok sc_End_wanted sp_look_len (fun cdv A outer s H vs Q E hr h => ?_)
  obtain ⟨p, a, e, rfl, h, k⟩ := h
  refine ⟨_, (pss_one (ps_ret (pe_op op_add (pe_meth0 (pv 0) T.cl_End T.m_End_next_in_order G_End_next_in_order (hr.mono (by decide)) T.b_End_next_in_order .nil pass0) (pe_cut (pe_ifExp (pt_val (pe_meth0 (pv 0) T.cl_End T.m_End_whole G_End_whole (hr.mono (by decide)) T.b_End_whole .nil pass0)) pe_int pe_int))))), ?_⟩
  refine ⟨_, rfl, _, _, _, rfl, h.ob, ef_no_next_in_order _ _, _, _, _, rfl, h, tCutE_of (.int (if e.whole = true then 1 else 0)) ⟨_, rfl, _, _, _, rfl, h.ob, ef_no_whole _ _, _, _, _, rfl, h, _, rfl, ?_⟩ ⟨_, _, rfl, rfl, k⟩⟩
  cases e.whole with
  | true => exact iteT ⟨rfl, rfl⟩
  | false => exact iteF ⟨rfl, rfl⟩
theorem ok_End_room (T : Txt K mg ad) : FnOk P w K mg base CX0 1 ad.f_End_room ad.fd_End_room ["self"] (sp_look ad.C_End fun e => .int e.room) := by
  refine T.F_End_room.ok sc_End_room sp_look_len (fun cdv A outer s H vs Q E hr h => ?_)
  obtain ⟨p, a, e, rfl, h, k⟩ := h
  refine ⟨_, (pss_cons (ps_set (i := 1) sc_End_room.nd rfl (Or.inl rfl) (pe_callB (call_min2 rfl) (by rfl) T.z_min (by first | rfl | decide +kernel) (pa_cons (pe_callB (call_max2 rfl) (by rfl) T.z_max (by first | rfl | decide +kernel) (pa_cons (pe_op op_sub (pe_fld (pv 0) rfl) pe_int) (pa_cons pe_int pa_nil))) (pa_cons (pe_callB call_len_seq (by rfl) T.z_len PySem.boot_len (pa_cons (pe_fld (pv 0) rfl) pa_nil)) pa_nil))))
      (pss_one (ps_ret (pe_op op_sub (pe_glob (by rfl) T.c_SEND_ROOM.1 T.c_SEND_ROOM.2) (pe_op op_sub (pe_callB call_len_seq (by rfl) T.z_len PySem.boot_len (pa_cons (pe_fld (pv 0) rfl) pa_nil)) (pv 1)))))), ?_⟩
  refine ⟨_, rfl, _, _, _, _, _, rfl, h.ob, T.cl_End, T.n_End_acked, ef_acked _ _, _, _, rfl, rfl, _, _, rfl, _, rfl, _, _, _, _, _, rfl, h.ob, T.cl_End, T.n_End_written, ef_written _ _, _, _, rfl, .inl (SqL.of h.h_written), _, _, rfl, ?_⟩
  refine ⟨_, rfl, _, _, _, _, _, rfl, h.ob, T.cl_End, T.n_End_written, ef_written _ _, _, _, rfl, .inl (SqL.of h.h_written), _, rfl, _, _, rfl, rfl, _, _, rfl, rfl, ?_⟩
  rw [max_if, min_if, List.length_map]
  exact k
theorem ok_End_nothing_to_read (T : Txt K mg ad) : FnOk P w K mg base CX0 3 ad.f_End_nothing_to_read ad.fd_End_nothing_to_read ["self"] (sp_look ad.C_End fun e => .int e.nothing) := by
  have G_End_whole : FnOk P w K mg base CX0 _ ad.f_End_whole ad.fd_End_whole ["self"] _ := ok_End_whole T
  refine T.F_End_nothing_to_read.ok sc_End_nothing_to_read sp_look_len (fun cdv A outer s H vs Q E hr h => ?_)
  obtain ⟨p, a, e, rfl, h, k⟩ := h
  refine ⟨_, (pss_cons (ps_if (pt_val (pe_meth0 (pv 0) T.cl_End T.m_End_whole G_End_whole (hr.mono (by decide)) T.b_End_whole .nil pass0))
      (pss_one (ps_ret (pe_glob (by rfl) T.c_ALL_READ.1 T.c_ALL_READ.2)))
      pss_nil)
      (pss_cons (ps_if (pt_val (pe_fld (pv 0) rfl))
      (pss_one (ps_ret (pe_glob (by rfl) T.c_BROKEN.1 T.c_BROKEN.2)))
      pss_nil)
      (pss_one (ps_ret pe_int)))), ?_⟩
  refine ⟨_, rfl, _, _, _, rfl, h.ob, ef_no_whole _ _, _, _, _, rfl, h, _, rfl, ?_⟩
  simp only [Py.nothing] at k
  cases q : e.whole with
  | true =>
    rw [q] at k
    exact iteT k
  | false =>
    rw [q] at k
    refine iteF ⟨_, rfl, _, _, _, _, _, rfl, h.ob, T.cl_End, T.n_End_broken, ef_broken _ _, _, rfl, ?_⟩
    cases q2 : e.broken with
    | true =>
      rw [q2] at k
      exact iteT k
    | false =>
      rw [q2] at k
      exact iteF k
/-- the same, once the other's beginning has come -/
def sp_lookB (C : Addr) (f : Py → V) : Sp := fun vs H Q _ => ∃ (p : Addr) (a : EA) (e : Py), vs = [.ref p] ∧ EndAt C H p a e ∧ e.begun = true ∧ Q (f e) H
theorem begun_is {e : Py} (h : e.begun = true) : e.their_first = some (e.their_first.getD 0) := by
  unfold Py.begun at h
  cases q : e.their_first with
  | none => rw [q] at h; cases h
  | some x => rfl
theorem ok_End_wanted_place (T : Txt K mg ad) : FnOk P w K mg base CX0 4 ad.f_End_wanted_place ad.fd_End_wanted_place ["self"] (sp_lookB ad.C_End fun e => .int e.wplace) := by
  have G_End_wanted : FnOk P w K mg base CX0 _ ad.f_End_wanted ad.fd_End_wanted ["self"] _ := ok_End_wanted T
  refine T.F_End_wanted_place.ok sc_End_wanted_place (fun vs H Q E h => ?_) (fun cdv A outer s H vs Q E hr h => ?_)
  · obtain ⟨p, a, e, rfl, _⟩ := h
    rfl
  obtain ⟨p, a, e, rfl, h, hb, k⟩ := h
  refine ⟨_, (pss_one (ps_ret (pe_op op_mod (pe_op op_add (pe_fld (pv 0) rfl) (pe_meth0 (pv 0) T.cl_End T.m_End_wanted G_End_wanted (hr.mono (by decide)) T.b_End_wanted .nil pass0)) (pe_glob (by rfl) T.c_ROUND.1 T.c_ROUND.2)))), ?_⟩
  exact ⟨_, rfl, _, _, _, _, _, rfl, h.ob, T.cl_End, T.n_End_their_first, ef_their_first _ _, _, rfl, _, _, _, rfl, h.ob, ef_no_wanted _ _, _, _, _, rfl, h, _, _, (by rw [begun_is hb]; rfl), rfl, _, _, rfl, rfl, (by show (0 : Int) < _; decide), k⟩
theorem ok_End_beginning_is_due (T : Txt K mg ad) : FnOk P w K mg base CX0 2 ad.f_End_beginning_is_due ad.fd_End_beginning_is_due ["self"] (sp_look ad.C_End fun e => .bl e.begDue) := by
  have G_End_other_has_begun : FnOk P w K mg base CX0 _ ad.f_End_other_has_begun ad.fd_End_other_has_begun ["self"] _ := ok_End_other_has_begun T
  refine T.F_End_beginning_is_due.ok sc_End_beginning_is_due sp_look_len (fun cdv A outer s H vs Q E hr h => ?_)
  obtain ⟨p, a, e, rfl, h, k⟩ := h
  refine ⟨_, (pss_one (ps_ret (pe_cut (pe_and (pe_cmpR op_eq (pe_fld (pv 0) rfl) pe_int (nomark _)) (pe_one (pe_cut (pe_or (pe_fld (pv 0) rfl) (pe_one (pe_meth0 (pv 0) T.cl_End T.m_End_other_has_begun G_End_other_has_begun (hr.mono (by decide)) T.b_End_other_has_begun .nil pass0))))))))), ?_⟩
  refine tCutE_of (.bl e.begDue) ⟨_, rfl, _, _, _, _, _, rfl, h.ob, T.cl_End, T.n_End_next_number, ef_next_number _ _, rfl, _, rfl, ?_⟩ k
  unfold Py.begDue
  rw [int_eq]
  cases decide (e.next_number = 0) with
  | false => exact iteF ⟨rfl, rfl⟩
  | true =>
    refine iteT (tCutE_of (.bl (e.calling || e.begun)) ⟨_, rfl, _, _, _, _, _, rfl, h.ob, T.cl_End, T.n_End_calling, ef_calling _ _, _, rfl, ?_⟩ ⟨rfl, rfl⟩)
    cases e.calling with
    | true => exact iteT ⟨rfl, rfl⟩
    | false => exact iteF ⟨_, rfl, _, _, _, rfl, h.ob, ef_no_other_has_begun _ _, _, _, _, rfl, h, rfl, rfl⟩
theorem ok_End_answer_is_due (T : Txt K mg ad) : FnOk P w K mg base CX0 2 ad.f_End_answer_is_due ad.fd_End_answer_is_due ["self"] (sp_look ad.C_End fun e => .bl e.ansDue) := by
  have G_End_other_has_begun : FnOk P w K mg base CX0 _ ad.f_End_other_has_begun ad.fd_End_other_has_begun ["self"] _ := ok_End_other_has_begun T
  refine T.F_End_answer_is_due.ok sc_End_answer_is_due sp_look_len (fun cdv A outer s H vs Q E hr h => ?_)
  obtain ⟨p, a, e, rfl, h, k⟩ := h
  refine ⟨_, (pss_one (ps_ret (pe_cut (pe_and (pe_fld (pv 0) rfl) (pe_one (pe_meth0 (pv 0) T.cl_End T.m_End_other_has_begun G_End_other_has_begun (hr.mono (by decide)) T.b_End_other_has_begun .nil pass0)))))), ?_⟩
  refine tCutE_of (.bl e.ansDue) ⟨_, rfl, _, _, _, _, _, rfl, h.ob, T.cl_End, T.n_End_owes, ef_owes _ _, _, rfl, ?_⟩ k
  unfold Py.ansDue
  cases e.owes with
  | true => exact iteT ⟨_, rfl, _, _, _, rfl, h.ob, ef_no_other_has_begun _ _, _, _, _, rfl, h, rfl, rfl⟩
  | false => exact iteF ⟨rfl, rfl⟩
theorem ok_End_waits (T : Txt K mg ad) : FnOk P w K mg base CX0 2 ad.f_End_waits ad.fd_End_waits ["self"] (sp_look ad.C_End fun e => .bl e.waits) := by
  have G_End_end_number : FnOk P w K mg base CX0 _ ad.f_End_end_number ad.fd_End_end_number ["self"] _ := ok_End_end_number T
  refine T.F_End_waits.ok sc_End_waits sp_look_len (fun cdv A outer s H vs Q E hr h => ?_)
  obtain ⟨p, a, e, rfl, h, k⟩ := h
  refine ⟨_, (pss_cons (ps_set (i := 1) sc_End_waits.nd rfl (Or.inl rfl) (pe_cut (pe_and (pe_cmpR op_eq (pe_fld (pv 0) rfl) pe_int (nomark _)) (pe_and (pe_cmpR op_gt (pe_fld (pv 0) rfl) pe_int (nomark _)) (pe_one (pe_cmpR op_lt (pe_fld (pv 0) rfl) (pe_meth0 (pv 0) T.cl_End T.m_End_end_number G_End_end_number (hr.mono (by decide)) T.b_End_end_number .nil pass0) (nomark _)))))))
      (pss_one (ps_ret (pe_cut (pe_or (pe_cmpR op_lt (pe_fld (pv 0) rfl) (pe_fld (pv 0) rfl) (nomark _)) (pe_one (pv 1))))))), ?_⟩
  refine tCutE_of (.bl (decide (e.theirs = 0) && (decide (0 < e.acked) && decide (e.sent < e.endn)))) ⟨_, rfl, _, _, _, _, _, rfl, h.ob, T.cl_End, T.n_End_theirs, ef_theirs _ _, rfl, _, rfl, ?_⟩ ?_
  · rw [int_eq]
    cases decide (e.theirs = 0) with
    | false => exact iteF ⟨rfl, rfl⟩
    | true =>
      refine iteT ⟨_, rfl, _, _, _, _, _, rfl, h.ob, T.cl_End, T.n_End_acked, ef_acked _ _, _, _, rfl, rfl, _, rfl, ?_⟩
      cases decide (0 < e.acked) with
      | false => exact iteF ⟨rfl, rfl⟩
      | true => exact iteT ⟨_, rfl, _, _, _, _, _, rfl, h.ob, T.cl_End, T.n_End_sent, ef_sent _ _, _, rfl, _, _, _, rfl, h.ob, ef_no_end_number _ _, _, _, _, rfl, h, _, _, rfl, rfl, rfl, rfl⟩
  · refine tCutE_of (.bl e.waits) ⟨_, rfl, _, _, _, _, _, rfl, h.ob, T.cl_End, T.n_End_acked, ef_acked _ _, _, rfl, _, _, _, _, _, rfl, h.ob, T.cl_End, T.n_End_sent, ef_sent _ _, _, _, rfl, rfl, _, rfl, ?_⟩ k
    unfold Py.waits
    cases decide (e.acked < e.sent) with
    | true => exact iteT ⟨rfl, rfl⟩
    | false => exact iteF ⟨_, rfl, rfl, rfl⟩
def sp_endDue (C : Addr) : Sp := fun vs H Q _ => ∃ (p : Addr) (a : EA) (e : Py) (n : Int), vs = [.ref p, .int n] ∧ EndAt C H p a e ∧ Q (.bl (e.endDue n)) H
theorem ok_End_end_is_due (T : Txt K mg ad) : FnOk P w K mg base CX0 2 ad.f_End_end_is_due ad.fd_End_end_is_due ["self", "bytes_before"] (sp_endDue ad.C_End) := by
  have G_End_end_number : FnOk P w K mg base CX0 _ ad.f_End_end_number ad.fd_End_end_number ["self"] _ := ok_End_end_number T
  refine T.F_End_end_is_due.ok sc_End_end_is_due (fun vs H Q E h => ?_) (fun cdv A outer s H vs Q E hr h => ?_)
  · obtain ⟨p, a, e, n, rfl, _⟩ := h
    rfl
  obtain ⟨p, a, e, n, rfl, h, k⟩ := h
  refine ⟨_, (pss_one (ps_ret (pe_cut (pe_and (pe_cmpR op_gt (pe_fld (pv 0) rfl) pe_int (nomark _)) (pe_and (pe_fld (pv 0) rfl) (pe_one (pe_cmpR op_eq (pe_op op_add (pe_fld (pv 0) rfl) (pv 1)) (pe_meth0 (pv 0) T.cl_End T.m_End_end_number G_End_end_number (hr.mono (by decide)) T.b_End_end_number .nil pass0) (nomark _)))))))), ?_⟩
  refine tCutE_of (.bl (e.endDue n)) ⟨_, rfl, _, _, _, _, _, rfl, h.ob, T.cl_End, T.n_End_acked, ef_acked _ _, _, _, rfl, rfl, _, rfl, ?_⟩ k
  unfold Py.endDue
  cases decide (0 < e.acked) with
  | false => exact iteF ⟨rfl, rfl⟩
  | true =>
    refine iteT ⟨_, rfl, _, _, _, _, _, rfl, h.ob, T.cl_End, T.n_End_closed, ef_closed _ _, _, rfl, ?_⟩
    cases e.closed with
    | false => exact iteF ⟨rfl, rfl⟩
    | true =>
      refine iteT ⟨_, rfl, _, _, _, _, _, rfl, h.ob, T.cl_End, T.n_End_next_number, ef_next_number _ _, _, rfl, _, _, rfl, rfl, _, rfl, _, _, _, rfl, h.ob, ef_no_end_number _ _, _, _, _, rfl, h, rfl, ?_⟩
      rw [int_eq]
      exact ⟨rfl, rfl⟩
def sp_due (C : Addr) : Sp := fun vs H Q _ => ∃ (p : Addr) (a : EA) (e : Py) (m : Int), vs = [.ref p, .int m] ∧ EndAt C H p a e ∧ 0 ≤ m ∧ (e.acked ≠ 0 → 1 ≤ e.next_number) ∧
  ∀ (l : Addr) (H' : Hp), H l = none → H' l = some (.lst ((e.due m).map V.int)) → Same H H' → Q (.ref l) H'
theorem ok_End_data_due (T : Txt K mg ad) : FnOk P w K mg base CX0 1 ad.f_End_data_due ad.fd_End_data_due ["self", "most"] (sp_due ad.C_End) := by
  refine T.F_End_data_due.ok sc_End_data_due (fun vs H Q E h => ?_) (fun cdv A outer s H vs Q E hr h => ?_)
  · obtain ⟨p, a, e, m, rfl, _⟩ := h
    rfl
  obtain ⟨p, a, e, m, rfl, h, hm, hn, k⟩ := h
  refine ⟨_, (pss_cons (ps_if (pt_cmpR op_eq (pe_fld (pv 0) rfl) pe_int (nomark _))
      (pss_one (ps_ret (pe_lst pa_nil)))
      pss_nil)
      (pss_cons (ps_set (i := 2) sc_End_data_due.nd rfl (Or.inl rfl) (pe_op op_add (pe_fld (pv 0) rfl) (pe_fld (pv 0) rfl)))
      (pss_cons (ps_cut (ps_if (pt_cut (pw_and (pt_cmpR op_eq (pe_fld (pv 0) rfl) pe_int (nomark _)) (pw_and1 (pt_val (pe_fld (pv 0) rfl)))).pt)
      (pss_one (ps_aug (i := 2) sc_End_data_due.nd rfl (Or.inl rfl) pe_int ip_add))
      pss_nil))
      (pss_cons (ps_set (i := 3) sc_End_data_due.nd rfl (Or.inl rfl) (pe_callB (call_max2 rfl) (by rfl) T.z_max (by first | rfl | decide +kernel) (pa_cons (pe_op op_sub (pv 2) (pe_fld (pv 0) rfl)) (pa_cons pe_int pa_nil))))
      (pss_cons (ps_set (i := 4) sc_End_data_due.nd rfl (Or.inl rfl) (pe_op op_sub (pe_fld (pv 0) rfl) pe_int))
      (pss_one (ps_ret (pe_slice sl_list (pe_fld (pv 0) rfl) (po_some (pv 4)) (po_some (pe_op op_add (pv 4) (pe_callB (call_min3 rfl) (by rfl) T.z_min (by first | rfl | decide +kernel) (pa_cons (pe_glob (by rfl) T.c_MOST_DATA.1 T.c_MOST_DATA.2) (pa_cons (pv 1) (pa_cons (pv 3) pa_nil)))))))))))))), ?_⟩
  refine ⟨_, rfl, _, _, _, _, _, rfl, h.ob, T.cl_End, T.n_End_acked, ef_acked _ _, rfl, _, rfl, ?_⟩
  rw [int_eq]
  unfold Py.due at k
  by_cases q : e.acked = 0
  · rw [if_pos q] at k
    rw [decide_eq_true q]
    exact iteT ⟨(by decide), fun l hl => k l _ hl upd_same ((Same.refl H).new hl)⟩
  · rw [if_neg q] at k
    rw [decide_eq_false q]
    have hn1 := hn q
    refine iteF ⟨_, rfl, _, _, _, _, _, rfl, h.ob, T.cl_End, T.n_End_acked, ef_acked _ _, _, rfl, _, _, _, _, _, rfl, h.ob, T.cl_End, T.n_End_theirs, ef_theirs _ _, _, _, rfl, rfl, ?_⟩
    refine ⟨fun σ' H' => H' = H ∧ σ' = [some (.ref p), some (.int m), some (.int (e.acked + e.theirs + (if e.theirs = 0 ∧ e.probe = true then 1 else 0))), none, none], ?_, ?_⟩
    · refine tCutT_of (decide (e.theirs = 0) && e.probe) ⟨_, rfl, _, _, _, _, _, rfl, h.ob, T.cl_End, T.n_End_theirs, ef_theirs _ _, rfl, _, rfl, ?_⟩ ?_
      · rw [int_eq]
        cases decide (e.theirs = 0) with
        | false => exact iteF ⟨rfl, rfl⟩
        | true => exact iteT ⟨_, rfl, _, _, _, _, _, rfl, h.ob, T.cl_End, T.n_End_probe, ef_probe _ _, _, rfl, rfl, rfl⟩
      · by_cases q2 : e.theirs = 0 ∧ e.probe = true
        · rw [if_pos q2, q2.2, decide_eq_true q2.1]
          exact iteT ⟨_, rfl, _, _, rfl, rfl, rfl, rfl⟩
        · rw [if_neg q2, show (decide (e.theirs = 0) && e.probe) = false by
            cases z : e.probe with
            | false => simp
            | true => simpa [z] using q2]
          refine iteF ⟨rfl, ?_⟩
          rw [Int.add_zero]
          rfl
    · rintro σ' H' ⟨rfl, rfl⟩
      refine ⟨_, rfl, _, rfl, _, _, _, _, _, rfl, h.ob, T.cl_End, T.n_End_next_number, ef_next_number _ _, _, _, rfl, rfl, _, _, rfl, ?_⟩
      rw [max_if]
      refine ⟨_, rfl, _, _, _, _, _, rfl, h.ob, T.cl_End, T.n_End_next_number, ef_next_number _ _, _, _, rfl, rfl, ?_⟩
      generalize hu : (if e.theirs = 0 ∧ e.probe = true then (1 : Int) else 0) = u at k ⊢
      refine ⟨_, rfl, _, _, _, _, _, rfl, h.ob, T.cl_End, T.n_End_written, ef_written _ _, _, rfl, _, rfl, _, rfl, _, rfl, _, rfl, _, _, _, rfl, _, _, rfl, rfl, _, rfl, a.l_written, _, rfl, SqL.of h.h_written, fun l hl => ?_⟩
      refine k l _ hl ?_ ((Same.refl _).new hl)
      rw [upd_same, cut_at _ _ _ (e.next_number - 1).toNat (min (min 536 m) (max (e.acked + e.theirs + u - e.next_number) 0)).toNat (by omega) (by omega), ← List.map_drop, ← List.map_take]
end
end Pr
namespace Pr
open PySem L2
open Ty (Byt)
section
variable {P : Program} {w : World} {K : PySem.W.Frag} {mg : Str → Option Value} {base : Heap} {ad : Ad}
/-! ### methods that change the end, and answer a new list -/
def sp_do (C : Addr) (f : Py → Py × List Int) : Sp := fun vs H Q _ => ∃ (p : Addr) (a : EA) (e : Py), vs = [.ref p] ∧ EndAt C H p a e ∧
  ∀ (l : Addr) (a' : EA) (H' : Hp), EndAt C H' p a' (f e).1 → H l = none → H' l = some (.lst ((f e).2.map V.int)) → Fr H H' p a a' → Q (.ref l) H'
theorem ok_End_close (T : Txt K mg ad) : FnOk P w K mg base CX0 1 ad.f_End_close ad.fd_End_close ["self"] (sp_do ad.C_End Py.close) := by
  refine T.F_End_close.ok sc_End_close (fun vs H Q E h => ?_) (fun cdv A outer s H vs Q E hr h => ?_)
  · obtain ⟨p, a, e, rfl, _⟩ := h
    rfl
  · obtain ⟨p, a, e, rfl, h, k⟩ := h
    refine ⟨_, (pss_cons (ps_if (pt_cut (pw_or (pt_val (pe_fld (pv 0) rfl)) (pw_or1 (pt_val (pe_fld (pv 0) rfl)))).pt)
      (pss_one (ps_ret (pe_lst (pa_cons (pe_glob (by rfl) T.c_CLOSED_OR_BROKEN.1 T.c_CLOSED_OR_BROKEN.2) pa_nil))))
      pss_nil)
      (pss_cons (ps_fld (pv 0) pe_bl rfl)
      (pss_one (ps_ret (pe_lst (pa_cons pe_int pa_nil)))))), ?_⟩
    refine tCutT_of (e.closed || e.broken) ⟨_, rfl, p, _, _, _, _, rfl, h.ob, T.cl_End, T.n_End_closed, ef_closed _ _, _, rfl, ?_⟩ ?_
    · cases q : e.closed with
      | true => exact iteT ⟨rfl, rfl⟩
      | false => exact iteF ⟨_, rfl, p, _, _, _, _, rfl, h.ob, T.cl_End, T.n_End_broken, ef_broken _ _, _, rfl, rfl, rfl⟩
    · unfold Py.close at k
      cases q : (e.closed || e.broken) with
      | true =>
        rw [q] at k
        exact iteT ⟨(by decide), fun l hl => k l a _ (h.new hl) hl upd_same ((Fr.refl _ _ _).new hl)⟩
      | false =>
        rw [q] at k
        refine iteF ⟨_, rfl, p, _, _, _, rfl, h.ob, T.cl_End, T.n_End_closed, (show 18 < 1000 by decide), (by decide), fun l hl => ?_⟩
        have h2 := h.put_closed true
        have hf : Fr H (L2.upd H p (.ins ad.C_End a.dx (putF "closed" (.bl true) (ef a e)))) p a a := (Fr.refl _ _ _).upd (.inl rfl)
        have hl0 : H l = none := by
          rw [upd_ne (ne_of_none h2.ob hl).symm] at hl
          exact hl
        exact k l a _ (h2.new hl) hl0 upd_same (hf.new hl)
def sp_do1 (C : Addr) (pre : Py → List Int → Prop) (f : Py → List Int → Py × List Int) : Sp := fun vs H Q _ => ∃ (p r : Addr) (a : EA) (e : Py) (xs : List Int), vs = [.ref p, .ref r] ∧ EndAt C H p a e ∧ H r = some (.lst (xs.map V.int)) ∧ pre e xs ∧
  ∀ (l : Addr) (a' : EA) (H' : Hp), EndAt C H' p a' (f e xs).1 → H l = none → H' l = some (.lst ((f e xs).2.map V.int)) → Fr H H' p a a' → Q (.ref l) H'
theorem ok_End_write (T : Txt K mg ad) : FnOk P w K mg base CX0 2 ad.f_End_write ad.fd_End_write ["self", "row"] (sp_do1 ad.C_End (fun e xs => 0 ≤ e.room ∧ e.written.length + xs.length ≤ 1000000) Py.write) := by
  have G_End_room : FnOk P w K mg base CX0 _ ad.f_End_room ad.fd_End_room ["self"] _ := ok_End_room T
  refine T.F_End_write.ok sc_End_write (fun vs H Q E h => ?_) (fun cdv A outer s H vs Q E hr h => ?_)
  · obtain ⟨p, r, a, e, xs, rfl, _⟩ := h
    rfl
  · obtain ⟨p, r, a, e, xs, rfl, h, hx, ⟨hp, hz⟩, k⟩ := h
    refine ⟨_, (pss_cons (ps_if (pt_cut (pw_or (pt_val (pe_fld (pv 0) rfl)) (pw_or1 (pt_val (pe_fld (pv 0) rfl)))).pt)
      (pss_one (ps_ret (pe_lst (pa_cons (pe_glob (by rfl) T.c_CLOSED_OR_BROKEN.1 T.c_CLOSED_OR_BROKEN.2) pa_nil))))
      pss_nil)
      (pss_cons (ps_set (i := 2) sc_End_write.nd rfl (Or.inl rfl) (pe_slice sl_list (pv 1) po_none (po_some (pe_meth0 (pv 0) T.cl_End T.m_End_room G_End_room (hr.mono (by decide)) T.b_End_room .nil pass0))))
      (pss_cons (ps_expr (pe_bm PySem.F.plainAttrs_list PySem.F.slot_list_extend PySem.F.type_list_extend mt_extend (pe_fld (pv 0) rfl) (pa_cons (pv 2) pa_nil)))
      (pss_one (ps_ret (pe_lst (pa_cons (pe_callB call_len_seq (by rfl) T.z_len PySem.boot_len (pa_cons (pv 2) pa_nil)) pa_nil))))))), ?_⟩
    refine tCutT_of (e.closed || e.broken) ⟨_, rfl, p, _, _, _, _, rfl, h.ob, T.cl_End, T.n_End_closed, ef_closed _ _, _, rfl, ?_⟩ ?_
    · cases q : e.closed with
      | true => exact iteT ⟨rfl, rfl⟩
      | false => exact iteF ⟨_, rfl, p, _, _, _, _, rfl, h.ob, T.cl_End, T.n_End_broken, ef_broken _ _, _, rfl, rfl, rfl⟩
    · unfold Py.write at k
      cases q : (e.closed || e.broken) with
      | true =>
        rw [q] at k
        exact iteT ⟨(by decide), fun l hl => k l a _ (h.new hl) hl upd_same ((Fr.refl _ _ _).new hl)⟩
      | false =>
        rw [q] at k
        refine iteF ⟨_, rfl, _, rfl, p, _, _, rfl, h.ob, ef_no_room _ _, p, a, e, rfl, h, _, rfl, r, _, rfl, SqL.of hx, fun t ht => ?_⟩
        rw [cut_to _ _ hp, ← List.map_take]
        -- self.written.extend(taken)
        have h1 := h.new (o := .lst ((xs.take e.room.toNat).map V.int)) ht
        refine ⟨_, rfl, p, _, _, _, _, rfl, h1.ob, T.cl_End, T.n_End_written, ef_written _ _, .inl ⟨rfl, _, SqL.of h1.h_written⟩, _, rfl, a.l_written, t, _, _, rfl, rfl, h1.h_written, upd_same, ?_, ?_⟩
        · rw [List.length_map, List.length_map, List.length_take]
          exact Nat.le_trans (show _ ≤ 1000000 by omega) (by decide)
        rw [← List.map_append]
        have h2 := h1.set_written (e.written ++ xs.take e.room.toNat)
        have nt : t ≠ a.l_written := (ne_of_none h.h_written ht).symm
        have f2 := ((Fr.refl H p a).new (o := .lst ((xs.take e.room.toNat).map V.int)) ht).upd (o := .lst ((e.written ++ xs.take e.room.toNat).map V.int)) (.inr (.inl rfl))
        refine ⟨_, rfl, t, _, rfl, .inl (SqL.of (by rw [upd_ne nt, upd_same])), (show 1 ≤ sizeLine by decide), fun l hl => ?_⟩
        have hl0 := f2.live l hl
        refine k l a _ (h2.new hl) hl0 ?_ (f2.new hl)
        rw [upd_same]
        simp
def sp_doI (C : Addr) (pre : Py → Int → Prop) (f : Py → Int → Py × List Int) : Sp := fun vs H Q _ => ∃ (p : Addr) (a : EA) (e : Py) (n : Int), vs = [.ref p, .int n] ∧ EndAt C H p a e ∧ pre e n ∧
  ∀ (l : Addr) (a' : EA) (H' : Hp), EndAt C H' p a' (f e n).1 → H l = none → H' l = some (.lst ((f e n).2.map V.int)) → Fr H H' p a a' → Q (.ref l) H'
theorem ok_End_read (T : Txt K mg ad) : FnOk P w K mg base CX0 4 ad.f_End_read ad.fd_End_read ["self", "most"] (sp_doI ad.C_End (fun e n => 0 ≤ n ∧ e.unread.length ≤ 1000000) Py.read) := by
  have G_End_nothing_to_read : FnOk P w K mg base CX0 _ ad.f_End_nothing_to_read ad.fd_End_nothing_to_read ["self"] _ := ok_End_nothing_to_read T
  have G_End_window : FnOk P w K mg base CX0 _ ad.f_End_window ad.fd_End_window ["self"] _ := ok_End_window T
  refine T.F_End_read.ok sc_End_read (fun vs H Q E h => ?_) (fun cdv A outer s H vs Q E hr h => ?_)
  · obtain ⟨p, a, e, n, rfl, _⟩ := h
    rfl
  · obtain ⟨p, a, e, n, rfl, h, ⟨hn, hz⟩, k⟩ := h
    refine ⟨_, (pss_cons (ps_if (pt_cmpR op_eq (pe_callB call_len_seq (by rfl) T.z_len PySem.boot_len (pa_cons (pe_fld (pv 0) rfl) pa_nil)) pe_int (nomark _))
      (pss_one (ps_ret (pe_lst (pa_cons (pe_meth0 (pv 0) T.cl_End T.m_End_nothing_to_read G_End_nothing_to_read (hr.mono (by decide)) T.b_End_nothing_to_read .nil pass0) pa_nil))))
      pss_nil)
      (pss_cons (ps_set (i := 2) sc_End_read.nd rfl (Or.inl rfl) (pe_cmpR op_lt (pe_meth0 (pv 0) T.cl_End T.m_End_window G_End_window (hr.mono (by decide)) T.b_End_window .nil pass0) (pe_glob (by rfl) T.c_SMALL_WINDOW.1 T.c_SMALL_WINDOW.2) (nomark _)))
      (pss_cons (ps_set (i := 3) sc_End_read.nd rfl (Or.inl rfl) (pe_slice sl_list (pe_fld (pv 0) rfl) po_none (po_some (pv 1))))
      (pss_cons (ps_fld (pv 0) (pe_slice sl_list (pe_fld (pv 0) rfl) (po_some (pv 1)) po_none) rfl)
      (pss_cons (ps_cut (ps_if (pt_cut (pw_and (pt_val (pv 2)) (pw_and1 (pt_cmpR op_ge (pe_meth0 (pv 0) T.cl_End T.m_End_window G_End_window (hr.mono (by decide)) T.b_End_window .nil pass0) (pe_glob (by rfl) T.c_SMALL_WINDOW.1 T.c_SMALL_WINDOW.2) (nomark _)))).pt)
      (pss_one (ps_fld (pv 0) pe_bl rfl))
      pss_nil))
      (pss_one (ps_ret (pe_op op_cat (pe_lst (pa_cons (pe_callB call_len_seq (by rfl) T.z_len PySem.boot_len (pa_cons (pv 3) pa_nil)) pa_nil)) (pv 3))))))))), ?_⟩
    refine ⟨_, rfl, p, _, _, _, _, rfl, h.ob, T.cl_End, T.n_End_unread, ef_unread _ _, _, _, rfl, .inl (SqL.of h.h_unread), rfl, _, rfl, ?_⟩
    unfold Py.read at k
    by_cases q : e.unread = []
    · rw [if_pos q] at k
      rw [decide_eq_true (by rw [q]; rfl)]
      exact iteT ⟨_, rfl, p, _, _, rfl, h.ob, ef_no_nothing_to_read _ _, p, a, e, rfl, h, (show 1 ≤ sizeLine by decide), fun l hl => k l a _ (h.new hl) hl upd_same ((Fr.refl _ _ _).new hl)⟩
    · rw [if_neg q] at k
      rw [decide_eq_false (by intro z; apply q; have := V.int.inj z; rw [List.length_map] at this; exact List.length_eq_zero_iff.mp (by omega))]
      -- was_small, taken
      refine iteF ⟨_, rfl, p, _, _, rfl, h.ob, ef_no_window _ _, p, a, e, rfl, h, _, _, rfl, rfl, ?_⟩
      refine ⟨_, rfl, p, _, _, _, _, rfl, h.ob, T.cl_End, T.n_End_unread, ef_unread _ _, _, rfl, n, rfl, a.l_unread, _, rfl, SqL.of h.h_unread, fun t ht => ?_⟩
      rw [cut_to _ _ hn, ← List.map_take]
      have h1 := h.new (o := .lst ((e.unread.take n.toNat).map V.int)) ht
      have f1 := (Fr.refl H p a).new (o := .lst ((e.unread.take n.toNat).map V.int)) ht
      refine ⟨_, rfl, p, _, _, _, _, rfl, h1.ob, T.cl_End, T.n_End_unread, ef_unread _ _, _, rfl, n, rfl, a.l_unread, _, rfl, SqL.of h1.h_unread, fun u hu => ?_⟩
      rw [cut_from _ _ hn, ← List.map_drop]
      have h2 := h1.new (o := .lst ((e.unread.drop n.toNat).map V.int)) hu
      have f2 := f1.new (o := .lst ((e.unread.drop n.toNat).map V.int)) hu
      refine ⟨_, rfl, p, _, _, _, rfl, h2.ob, T.cl_End, T.n_End_unread, (show 18 < 1000 by decide), ?_⟩
      have h3 := h2.ref_unread (e.unread.drop n.toNat) (ef_put_unread a e u) upd_same (ne_of_none h1.h_written hu)
      have hu0 : H u = none := by
        have nut : u ≠ t := (ne_of_none upd_same hu).symm
        rw [upd_ne nut] at hu
        exact hu
      have f3 : Fr H (L2.upd (L2.upd (L2.upd H t (.lst ((e.unread.take n.toNat).map V.int))) u (.lst ((e.unread.drop n.toNat).map V.int))) p (.ins ad.C_End a.dx (putF "unread" (.ref u) (ef a e)))) p a { a with l_unread := u } :=
        f2.step (.inl rfl) fun b hb => by
          rcases hb with rfl | rfl | rfl | rfl
          · exact .inl (.inl rfl)
          · exact .inl (.inr (.inl rfl))
          · exact .inr hu0
          · exact .inl (.inr (.inr (.inr rfl)))
      have ht3 : ∀ o, L2.upd (L2.upd (L2.upd H t (.lst ((e.unread.take n.toNat).map V.int))) u (.lst ((e.unread.drop n.toNat).map V.int))) p o t = some (.lst ((e.unread.take n.toNat).map V.int)) := fun o => by
        rw [upd_ne (ne_of_none h.ob ht).symm, upd_ne (ne_of_none upd_same hu), upd_same]
      have ntp : t ≠ p := (ne_of_none h.ob ht).symm
      simp only at k
      -- owes
      refine ⟨fun σ' H' => σ' = [some (.ref p), some (.int n), some (.bl (decide (e.window < 536))), some (.ref t)] ∧ EndAt ad.C_End H' p { a with l_unread := u }
        (if e.window < 536 ∧ 536 ≤ { e with unread := e.unread.drop n.toNat : Py }.window then { e with unread := e.unread.drop n.toNat, owes := true } else { e with unread := e.unread.drop n.toNat }) ∧
        Fr H H' p a { a with l_unread := u } ∧ H' t = some (.lst ((e.unread.take n.toNat).map V.int)), ?_, ?_⟩
      · refine tCutT_of (decide (e.window < 536) && decide (536 ≤ { e with unread := e.unread.drop n.toNat : Py }.window)) ⟨_, rfl, _, rfl, ?_⟩ ?_
        · cases q1 : decide (e.window < 536) with
          | true => exact iteT ⟨_, rfl, p, _, _, rfl, h3.ob, ef_no_window _ _, p, _, _, rfl, h3, _, _, rfl, rfl, _, rfl, rfl, rfl⟩
          | false => exact iteF ⟨rfl, rfl⟩
        · by_cases q1 : e.window < 536 ∧ 536 ≤ { e with unread := e.unread.drop n.toNat : Py }.window
          · rw [show (decide (e.window < 536) && decide (536 ≤ { e with unread := e.unread.drop n.toNat : Py }.window)) = true by rw [decide_eq_true q1.1, decide_eq_true q1.2]; rfl, if_pos q1]
            refine iteT ⟨_, rfl, p, _, _, _, rfl, h3.ob, T.cl_End, T.n_End_owes, (show 18 < 1000 by decide), ?_⟩
            exact ⟨rfl, h3.put_owes true, f3.upd (.inl rfl), by rw [upd_ne ntp]; exact ht3 _⟩
          · have q2 : (decide (e.window < 536) && decide (536 ≤ { e with unread := e.unread.drop n.toNat : Py }.window)) = false := by
              rw [← Bool.decide_and, decide_eq_false q1]
            rw [q2, if_neg q1]
            exact iteF ⟨rfl, h3, f3, ht3 _⟩
      · rintro σ' H4 ⟨rfl, h4, f4, ht4⟩
        -- [len(taken)] + taken
        refine ⟨_, rfl, t, _, rfl, .inl (SqL.of ht4), (show 1 ≤ sizeLine by decide), fun l1 hl1 => ⟨_, rfl, l1, t, _, _, rfl, rfl, upd_same, (by rw [upd_ne (ne_of_none ht4 hl1)]; exact ht4), ?_, fun l hl => ?_⟩⟩
        · rw [List.length_map, List.length_take]
          exact Nat.le_trans (show _ ≤ 1000001 by simp; omega) (by decide)
        have h5 := h4.new (o := .lst [.int (((e.unread.take n.toNat).map V.int).length : Int)]) hl1
        have f5 := f4.new (o := .lst [.int (((e.unread.take n.toNat).map V.int).length : Int)]) hl1
        refine k l { a with l_unread := u } _ (h5.new hl) ?_ ?_ (f5.new hl)
        · exact f5.live l hl
        · rw [upd_same]
          simp
end
end Pr
namespace Pr
open PySem L2
open Ty (Byt)
section
variable {P : Program} {w : World} {K : PySem.W.Frag} {mg : Str → Option Value} {base : Heap} {ad : Ad}
/-! ### looks with a segment -/
/-- a segment as it must be for its flags to be read -/
def SegOk (xs : List Int) : Prop := Byt xs ∧ 14 ≤ xs.length
def sp_look1 (C : Addr) (pre : Py → List Int → Prop) (f : Py → List Int → V) : Sp := fun vs H Q _ => ∃ (p r : Addr) (a : EA) (e : Py) (xs : List Int), vs = [.ref p, .ref r] ∧ EndAt C H p a e ∧ H r = some (.lst (xs.map V.int)) ∧ pre e xs ∧
  ∀ H' : Hp, Same H H' → Q (f e xs) H'
theorem sp_look1_len {C : Addr} {pre : Py → List Int → Prop} {f : Py → List Int → V} (vs : List V) (H : Hp) (Q : VK) (E : XK) (h : sp_look1 C pre f vs H Q E) : vs.length = 2 := by
  obtain ⟨p, r, a, e, xs, rfl, _⟩ := h
  rfl
theorem ok_End_comes_too_early (T : Txt K mg ad) : FnOk P w K mg base CX0 3 ad.f_End_comes_too_early ad.fd_End_comes_too_early ["self", "segment"] (sp_look1 ad.C_End (fun _ xs => SegOk xs) fun e xs => .bl (e.early xs)) := by
  have G_End_other_has_begun : FnOk P w K mg base CX0 _ ad.f_End_other_has_begun ad.fd_End_other_has_begun ["self"] _ := ok_End_other_has_begun T
  have G_has_flag : FnOk P w K mg base CX0 _ ad.f_has_flag ad.fd_has_flag ["segment", "flag"] _ := ok_has_flag T
  have G_wanted_place_of : FnOk P w K mg base CX0 _ ad.f_wanted_place_of ad.fd_wanted_place_of ["segment"] _ := ok_wanted_place_of T
  refine T.F_End_comes_too_early.ok sc_End_comes_too_early sp_look1_len (fun cdv A outer s H vs Q E hr h => ?_)
  obtain ⟨p, r, a, e, xs, rfl, h, hx, hs, k⟩ := h
  refine ⟨_, (pss_cons (ps_if (pt_cut (pw_or (pt_val (pe_meth0 (pv 0) T.cl_End T.m_End_other_has_begun G_End_other_has_begun (hr.mono (by decide)) T.b_End_other_has_begun .nil pass0)) (pw_or1 (pt_val (pe_call G_has_flag (hr.mono (by decide)) (by rfl) T.g_has_flag T.F_has_flag.kp T.b_has_flag .nil pass0 (pa_cons (pv 1) (pa_cons (pe_glob (by rfl) T.c_BEGINS.1 T.c_BEGINS.2) pa_nil)))))).pt)
      (pss_one (ps_ret pe_bl))
      pss_nil)
      (pss_cons (ps_set (i := 2) sc_End_comes_too_early.nd rfl (Or.inl rfl) (pe_cmpR op_eq (pe_call G_wanted_place_of (hr.mono (by decide)) (by rfl) T.g_wanted_place_of T.F_wanted_place_of.kp T.b_wanted_place_of .nil pass0 (pa_cons (pv 1) pa_nil)) (pe_op op_mod (pe_op op_add (pe_fld (pv 0) rfl) pe_int) (pe_glob (by rfl) T.c_ROUND.1 T.c_ROUND.2)) (nomark _)))
      (pss_cons (ps_set (i := 3) sc_End_comes_too_early.nd rfl (Or.inl rfl) (pe_cut (pe_and (pe_call G_has_flag (hr.mono (by decide)) (by rfl) T.g_has_flag T.F_has_flag.kp T.b_has_flag .nil pass0 (pa_cons (pv 1) (pa_cons (pe_glob (by rfl) T.c_BREAKS.1 T.c_BREAKS.2) pa_nil))) (pe_and (pe_call G_has_flag (hr.mono (by decide)) (by rfl) T.g_has_flag T.F_has_flag.kp T.b_has_flag .nil pass0 (pa_cons (pv 1) (pa_cons (pe_glob (by rfl) T.c_ANSWERS.1 T.c_ANSWERS.2) pa_nil))) (pe_one (pv 2))))))
      (pss_one (ps_ret (pe_cut (pe_or (pe_not (pv 3)) (pe_one (pe_cmpR op_eq (pe_fld (pv 0) rfl) pe_int (nomark _)))))))))), ?_⟩
  dsimp only [Py.early] at k
  refine tCutT_of (e.begun || flag xs 0) ⟨_, rfl, _, _, _, rfl, h.ob, ef_no_other_has_begun _ _, _, _, _, rfl, h, _, rfl, ?_⟩ ?_
  · cases e.begun with
    | true => exact iteT ⟨rfl, rfl⟩
    | false => exact iteF ⟨_, rfl, r, xs, 0, rfl, hx, hs.1, hs.2, _, rfl, rfl, rfl⟩
  cases q : (e.begun || flag xs 0) with
  | true =>
    rw [q] at k
    exact iteT (k H (.refl H))
  | false =>
    rw [q] at k
    refine iteF ⟨_, rfl, r, xs, rfl, hx, trivial, fun H1 s1 => ?_⟩
    have h1 := h.same s1
    have hx1 := s1 _ _ hx
    refine ⟨_, rfl, _, _, _, _, _, rfl, h1.ob, T.cl_End, T.n_End_first, ef_first _ _, _, _, rfl, rfl, _, _, rfl, rfl, (by show (0 : Int) < _; decide), rfl, ?_⟩
    rw [int_eq]
    refine tCutE_of (.bl (flag xs 3 && (flag xs 2 && decide (numAt xs 4 4 = (e.first + 1) % 4294967296)))) ⟨_, rfl, r, xs, 3, rfl, hx1, hs.1, hs.2, _, rfl, ?_⟩ ?_
    · cases flag xs 3 with
      | false => exact iteF ⟨rfl, rfl⟩
      | true =>
        refine iteT ⟨_, rfl, r, xs, 2, rfl, hx1, hs.1, hs.2, _, rfl, ?_⟩
        cases flag xs 2 with
        | false => exact iteF ⟨rfl, rfl⟩
        | true => exact iteT ⟨_, rfl, rfl, rfl⟩
    · refine tCutE_of (.bl (!(flag xs 3 && (flag xs 2 && decide (numAt xs 4 4 = (e.first + 1) % 4294967296))) || decide (e.sent = 0))) ⟨_, rfl, _, rfl, _, rfl, ?_⟩ (k H1 s1)
      cases (flag xs 3 && (flag xs 2 && decide (numAt xs 4 4 = (e.first + 1) % 4294967296))) with
      | false => exact iteT ⟨rfl, rfl⟩
      | true =>
        refine iteF ⟨_, rfl, _, _, _, _, _, rfl, h1.ob, T.cl_End, T.n_End_sent, ef_sent _ _, rfl, ?_⟩
        rw [int_eq]
        exact ⟨rfl, rfl⟩
theorem ok_End_number_of_data (T : Txt K mg ad) : FnOk P w K mg base CX0 4 ad.f_End_number_of_data ad.fd_End_number_of_data ["self", "segment"] (sp_look1 ad.C_End (fun e xs => SegOk xs ∧ e.begun = true) fun e xs => .int (e.numb xs)) := by
  have G_End_wanted : FnOk P w K mg base CX0 _ ad.f_End_wanted ad.fd_End_wanted ["self"] _ := ok_End_wanted T
  have G_has_flag : FnOk P w K mg base CX0 _ ad.f_has_flag ad.fd_has_flag ["segment", "flag"] _ := ok_has_flag T
  have G_place_of : FnOk P w K mg base CX0 _ ad.f_place_of ad.fd_place_of ["segment"] _ := ok_place_of T
  have G_nearest : FnOk P w K mg base CX0 _ ad.f_nearest ad.fd_nearest ["number", "near"] _ := ok_nearest T
  refine T.F_End_number_of_data.ok sc_End_number_of_data sp_look1_len (fun cdv A outer s H vs Q E hr h => ?_)
  obtain ⟨p, r, a, e, xs, rfl, h, hx, ⟨hs, hb⟩, k⟩ := h
  refine ⟨_, (pss_cons (ps_set (i := 2) sc_End_number_of_data.nd rfl (Or.inl rfl) (pe_call G_nearest (hr.mono (by decide)) (by rfl) T.g_nearest T.F_nearest.kp T.b_nearest .nil pass0 (pa_cons (pe_op op_sub (pe_call G_place_of (hr.mono (by decide)) (by rfl) T.g_place_of T.F_place_of.kp T.b_place_of .nil pass0 (pa_cons (pv 1) pa_nil)) (pe_fld (pv 0) rfl)) (pa_cons (pe_meth0 (pv 0) T.cl_End T.m_End_wanted G_End_wanted (hr.mono (by decide)) T.b_End_wanted .nil pass0) pa_nil))))
      (pss_one (ps_ret (pe_op op_add (pv 2) (pe_cut (pe_ifExp (pt_val (pe_call G_has_flag (hr.mono (by decide)) (by rfl) T.g_has_flag T.F_has_flag.kp T.b_has_flag .nil pass0 (pa_cons (pv 1) (pa_cons (pe_glob (by rfl) T.c_BEGINS.1 T.c_BEGINS.2) pa_nil)))) pe_int pe_int)))))), ?_⟩
  refine ⟨_, rfl, r, xs, rfl, hx, trivial, fun H1 s1 => ?_⟩
  have h1 := h.same s1
  have hx1 := s1 _ _ hx
  refine ⟨_, rfl, _, _, _, _, _, rfl, h1.ob, T.cl_End, T.n_End_their_first, ef_their_first _ _, _, _, rfl, (by rw [begun_is hb]; rfl), _, rfl, _, _, _, rfl, h1.ob, ef_no_wanted _ _, _, _, _, rfl, h1, _, _, rfl, ?_⟩
  refine ⟨_, rfl, tCutE_of (.int (if flag xs 0 = true then 1 else 0)) ⟨_, rfl, r, xs, 0, rfl, hx1, hs.1, hs.2, _, rfl, ?_⟩ ⟨_, _, rfl, rfl, k H1 s1⟩⟩
  cases flag xs 0 with
  | true => exact iteT ⟨rfl, rfl⟩
  | false => exact iteF ⟨rfl, rfl⟩
/-! ### methods that change the end by a segment -/
def sp_m1 (C : Addr) (pre : Py → List Int → Prop) (f : Py → List Int → Py) (v : Py → List Int → V) : Sp := fun vs H Q _ => ∃ (p r : Addr) (a : EA) (e : Py) (xs : List Int), vs = [.ref p, .ref r] ∧ EndAt C H p a e ∧ H r = some (.lst (xs.map V.int)) ∧ ¬ EndAt.foot p a r ∧ pre e xs ∧
  ∀ H' : Hp, EndAt C H' p a (f e xs) → Fr H H' p a a → Q (v e xs) H'
theorem sp_m1_len {C : Addr} {pre : Py → List Int → Prop} {f : Py → List Int → Py} {v : Py → List Int → V} (vs : List V) (H : Hp) (Q : VK) (E : XK) (h : sp_m1 C pre f v vs H Q E) : vs.length = 2 := by
  obtain ⟨p, r, a, e, xs, rfl, _⟩ := h
  rfl
theorem ok_End_take_break (T : Txt K mg ad) : FnOk P w K mg base CX0 5 ad.f_End_take_break ad.fd_End_take_break ["self", "segment"] (sp_m1 ad.C_End (fun _ _ => True) Py.brk fun _ _ => .non) := by
  have G_End_other_has_begun : FnOk P w K mg base CX0 _ ad.f_End_other_has_begun ad.fd_End_other_has_begun ["self"] _ := ok_End_other_has_begun T
  have G_End_wanted_place : FnOk P w K mg base CX0 _ ad.f_End_wanted_place ad.fd_End_wanted_place ["self"] _ := ok_End_wanted_place T
  have G_place_of : FnOk P w K mg base CX0 _ ad.f_place_of ad.fd_place_of ["segment"] _ := ok_place_of T
  refine T.F_End_take_break.ok sc_End_take_break sp_m1_len (fun cdv A outer s H vs Q E hr h => ?_)
  obtain ⟨p, r, a, e, xs, rfl, h, hx, hf, _, k⟩ := h
  refine ⟨_, (pss_one (ps_if (pt_cut (pw_or (pt_not (pt_val (pe_meth0 (pv 0) T.cl_End T.m_End_other_has_begun G_End_other_has_begun (hr.mono (by decide)) T.b_End_other_has_begun .nil pass0))) (pw_or1 (pt_cmpR op_eq (pe_call G_place_of (hr.mono (by decide)) (by rfl) T.g_place_of T.F_place_of.kp T.b_place_of .nil pass0 (pa_cons (pv 1) pa_nil)) (pe_meth0 (pv 0) T.cl_End T.m_End_wanted_place G_End_wanted_place (hr.mono (by decide)) T.b_End_wanted_place .nil pass0) (nomark _)))).pt)
      (pss_one (ps_fld (pv 0) pe_bl rfl))
      pss_nil)), ?_⟩
  refine ⟨fun b H' => b = (!e.begun || decide (numAt xs 0 4 = e.wplace)) ∧ Same H H', ⟨_, rfl, _, _, _, rfl, h.ob, ef_no_other_has_begun _ _, _, _, _, rfl, h, _, rfl, ?_⟩, ?_⟩
  · cases q : e.begun with
    | false => exact iteT ⟨rfl, .refl _⟩
    | true =>
      refine iteF ⟨_, rfl, r, xs, rfl, hx, trivial, fun H1 s1 => ?_⟩
      have h1 := h.same s1
      refine ⟨_, rfl, _, _, _, rfl, h1.ob, ef_no_wanted_place _ _, _, _, _, rfl, h1, q, rfl, _, rfl, ?_, s1⟩
      rw [int_eq]
      rfl
  · rintro b H1 ⟨rfl, s1⟩
    have h1 := h.same s1
    dsimp only [Py.brk] at k
    cases q : (!e.begun || decide (numAt xs 0 4 = e.wplace)) with
    | true =>
      rw [q] at k
      exact iteT ⟨_, rfl, _, _, _, _, rfl, h1.ob, T.cl_End, T.n_End_broken, (show 18 < 1000 by decide), k _ (h1.put_broken true) ((Fr.of_same s1).upd (.inl rfl))⟩
    | false =>
      rw [q] at k
      exact iteF (k _ h1 (Fr.of_same s1))
theorem ok_End_take_answer (T : Txt K mg ad) : FnOk P w K mg base CX0 3 ad.f_End_take_answer ad.fd_End_take_answer ["self", "segment"] (sp_m1 ad.C_End (fun _ _ => True) (fun e xs => (e.ans xs).1) fun e xs => .bl (e.ans xs).2) := by
  have G_wanted_place_of : FnOk P w K mg base CX0 _ ad.f_wanted_place_of ad.fd_wanted_place_of ["segment"] _ := ok_wanted_place_of T
  have G_window_of : FnOk P w K mg base CX0 _ ad.f_window_of ad.fd_window_of ["segment"] _ := ok_window_of T
  have G_nearest : FnOk P w K mg base CX0 _ ad.f_nearest ad.fd_nearest ["number", "near"] _ := ok_nearest T
  refine T.F_End_take_answer.ok sc_End_take_answer sp_m1_len (fun cdv A outer s H vs Q E hr h => ?_)
  obtain ⟨p, r, a, e, xs, rfl, h, hx, hf, _, k⟩ := h
  refine ⟨_, (pss_cons (ps_set (i := 2) sc_End_take_answer.nd rfl (Or.inl rfl) (pe_call G_nearest (hr.mono (by decide)) (by rfl) T.g_nearest T.F_nearest.kp T.b_nearest .nil pass0 (pa_cons (pe_op op_sub (pe_call G_wanted_place_of (hr.mono (by decide)) (by rfl) T.g_wanted_place_of T.F_wanted_place_of.kp T.b_wanted_place_of .nil pass0 (pa_cons (pv 1) pa_nil)) (pe_fld (pv 0) rfl)) (pa_cons (pe_fld (pv 0) rfl) pa_nil))))
      (pss_cons (ps_if (pt_cmpR op_gt (pv 2) (pe_fld (pv 0) rfl) (nomark _))
      (pss_cons (ps_fld (pv 0) pe_bl rfl)
      (pss_one (ps_ret pe_bl)))
      pss_nil)
      (pss_cons (ps_if (pt_cmpR op_lt (pv 2) (pe_fld (pv 0) rfl) (nomark _))
      (pss_one (ps_ret pe_bl))
      pss_nil)
      (pss_cons (ps_cut (ps_if (pt_cmpR op_gt (pv 2) (pe_fld (pv 0) rfl) (nomark _))
      (pss_cons (ps_fld (pv 0) pe_int rfl)
      (pss_one (ps_fld (pv 0) (pe_glob (by rfl) T.c_FIRST_PATIENCE.1 T.c_FIRST_PATIENCE.2) rfl)))
      pss_nil))
      (pss_cons (ps_fld (pv 0) (pv 2) rfl)
      (pss_cons (ps_fld (pv 0) (pe_callB (call_max2 rfl) (by rfl) T.z_max (by first | rfl | decide +kernel) (pa_cons (pe_fld (pv 0) rfl) (pa_cons (pv 2) pa_nil))) rfl)
      (pss_cons (ps_fld (pv 0) (pe_call G_window_of (hr.mono (by decide)) (by rfl) T.g_window_of T.F_window_of.kp T.b_window_of .nil pass0 (pa_cons (pv 1) pa_nil)) rfl)
      (pss_one (ps_ret pe_bl))))))))), ?_⟩
  refine ⟨_, rfl, r, xs, rfl, hx, trivial, fun H1 s1 => ?_⟩
  have h1 := h.same s1
  have f1 : Fr H H1 p a a := Fr.of_same s1
  refine ⟨_, rfl, _, _, _, _, _, rfl, h1.ob, T.cl_End, T.n_End_first, ef_first _ _, _, _, rfl, rfl, _, rfl, _, _, _, _, _, rfl, h1.ob, T.cl_End, T.n_End_acked, ef_acked _ _, _, _, rfl, ?_⟩
  simp only [Py.ans] at k
  generalize nearI (numAt xs 4 4 - e.first) e.acked = z at k ⊢
  refine ⟨_, rfl, _, rfl, _, _, _, _, _, rfl, h1.ob, T.cl_End, T.n_End_sent, ef_sent _ _, _, _, rfl, rfl, _, rfl, ?_⟩
  by_cases q1 : e.sent < z
  · rw [if_pos q1] at k
    rw [decide_eq_true q1]
    exact iteT ⟨_, rfl, _, _, _, _, rfl, h1.ob, T.cl_End, T.n_End_owes, (show 18 < 1000 by decide), k _ (h1.put_owes true) (f1.upd (.inl rfl))⟩
  rw [if_neg q1] at k
  rw [decide_eq_false q1]
  refine iteF ⟨_, rfl, _, rfl, _, _, _, _, _, rfl, h1.ob, T.cl_End, T.n_End_acked, ef_acked _ _, _, _, rfl, rfl, _, rfl, ?_⟩
  by_cases q2 : z < e.acked
  · rw [if_pos q2] at k
    rw [decide_eq_true q2]
    exact iteT (k _ h1 f1)
  rw [if_neg q2] at k
  rw [decide_eq_false q2]
  refine iteF ⟨fun σ' H' => σ' = [some (.ref p), some (.ref r), some (.int z)] ∧ EndAt ad.C_End H' p a { e with waited := if e.acked < z then 0 else e.waited, patience := if e.acked < z then 1000 else e.patience } ∧ Fr H H' p a a, ⟨_, rfl, _, rfl, _, _, _, _, _, rfl, h1.ob, T.cl_End, T.n_End_acked, ef_acked _ _, _, _, rfl, rfl, _, rfl, ?_⟩, ?_⟩
  · by_cases q3 : e.acked < z
    · simp only [if_pos q3]
      rw [decide_eq_true q3]
      have h2 := h1.put_waited 0
      have h3 := h2.put_patience 1000
      exact iteT ⟨_, rfl, _, _, _, _, rfl, h1.ob, T.cl_End, T.n_End_waited, (show 18 < 1000 by decide), _, rfl, _, _, _, _, rfl, h2.ob, T.cl_End, T.n_End_patience, (show 18 < 1000 by decide), rfl, h3, (f1.upd (.inl rfl)).upd (.inl rfl)⟩
    · simp only [if_neg q3]
      rw [decide_eq_false q3]
      exact iteF ⟨rfl, h1, f1⟩
  · rintro σ' H2 ⟨rfl, h2, f2⟩
    have h3 := h2.put_acked z
    have f3 := f2.upd (o := .ins ad.C_End a.dx (putF "acked" (.int z) (ef a { e with waited := if e.acked < z then 0 else e.waited, patience := if e.acked < z then 1000 else e.patience }))) (.inl rfl)
    refine ⟨_, rfl, _, rfl, _, _, _, _, rfl, h2.ob, T.cl_End, T.n_End_acked, (show 18 < 1000 by decide), ?_⟩
    refine ⟨_, rfl, _, _, _, _, _, rfl, h3.ob, T.cl_End, T.n_End_next_number, ef_next_number _ _, _, rfl, _, _, rfl, ?_⟩
    rw [max_if]
    have h4 := h3.put_next_number (max e.next_number z)
    refine ⟨_, rfl, _, _, _, _, rfl, h3.ob, T.cl_End, T.n_End_next_number, (show 18 < 1000 by decide), ?_⟩
    have f4 := f3.upd (o := .ins ad.C_End a.dx (putF "next_number" (.int (max e.next_number z)) (ef a { e with waited := if e.acked < z then 0 else e.waited, patience := if e.acked < z then 1000 else e.patience, acked := z }))) (.inl rfl)
    refine ⟨_, rfl, r, xs, rfl, f4.keep _ _ hx hf, trivial, fun H5 s5 => ?_⟩
    have h5 := h4.same s5
    refine ⟨_, rfl, _, _, _, _, rfl, h5.ob, T.cl_End, T.n_End_theirs, (show 18 < 1000 by decide), ?_⟩
    exact k _ (h5.put_theirs (numAt xs 10 2)) ((f4.same s5).upd (.inl rfl))
/-! ### bytes in order -/
theorem val_dkv (l : List (Int × Int)) (k : Int) : valV (dkv l) (Sum.inl k) = (l.find? fun x => x.1 == k).map fun x => V.int x.2 := by
  unfold valV dkv
  have e : ((fun kv : Key × V => decide (kv.1 = Sum.inl k)) ∘ fun x : Int × Int => ((Sum.inl x.1 : Key), V.int x.2)) = fun x => x.1 == k := by
    funext x
    simp only [Function.comp]
    rw [Bool.eq_iff_iff]
    simp
  rw [List.find?_map, e, Option.map_map]
  rfl
theorem drop_dkv (l : List (Int × Int)) (k : Int) : dropK (dkv l) (Sum.inl k) = dkv (l.filter fun y => y.1 != k) := by
  unfold dropK dkv
  have e : ((fun kv : Key × V => decide (kv.1 ≠ Sum.inl k)) ∘ fun x : Int × Int => ((Sum.inl x.1 : Key), V.int x.2)) = fun x => x.1 != k := by
    funext x
    simp only [Function.comp]
    rw [Bool.eq_iff_iff]
    simp
  rw [List.filter_map, e]
theorem dkv_len (l : List (Int × Int)) : (dkv l).length = l.length := by simp [dkv]
theorem dkv_app (l m : List (Int × Int)) : dkv (l ++ m) = dkv l ++ dkv m := by simp [dkv]
def sp_m0 (C : Addr) (pre : Py → Prop) (f : Py → Py) : Sp := fun vs H Q _ => ∃ (p : Addr) (a : EA) (e : Py), vs = [.ref p] ∧ EndAt C H p a e ∧ pre e ∧ ∀ H' : Hp, EndAt C H' p a (f e) → Fr H H' p a a → Q .non H'
theorem ok_End_bring_in_order (T : Txt K mg ad) : FnOk P w K mg base CX0 2 ad.f_End_bring_in_order ad.fd_End_bring_in_order ["self"] (sp_m0 ad.C_End (fun e => e.unread.length + e.ahead.length ≤ 1000000) Py.brought) := by
  have G_End_next_in_order : FnOk P w K mg base CX0 _ ad.f_End_next_in_order ad.fd_End_next_in_order ["self"] _ := ok_End_next_in_order T
  refine T.F_End_bring_in_order.ok sc_End_bring_in_order (fun vs H Q E h => ?_) (fun cdv A outer s H vs Q E hr h => ?_)
  · obtain ⟨p, a, e, rfl, _⟩ := h
    rfl
  obtain ⟨p, a, e, rfl, h, hz, k⟩ := h
  refine ⟨_, (pss_one (ps_while PassesOwn.never (pt_cut (pt_cmp (pc_din (hu_of hr) (pe_meth0 (pv 0) T.cl_End T.m_End_next_in_order G_End_next_in_order (hr.mono (by decide)) T.b_End_next_in_order .nil pass0) (pe_fld (pv 0) rfl))))
      (pss_cons (ps_expr (pe_bm PySem.F.plainAttrs_list PySem.F.slot_list_append PySem.F.type_list_append mt_append (pe_fld (pv 0) rfl) (pa_cons (pe_dpop1 (pe_fld (pv 0) rfl) (pe_meth0 (pv 0) T.cl_End T.m_End_next_in_order G_End_next_in_order (hr.mono (by decide)) T.b_End_next_in_order .nil pass0) ⟨rfl, rfl, rfl, rfl⟩) pa_nil)))
      (pss_one (ps_fldaug (pv 0) pe_int in_add))))), ?_⟩
  refine while_cut (fun σ H2 => ∃ (d : Py) (f : Nat), σ = [some (.ref p)] ∧ EndAt ad.C_End H2 p a d ∧ Fr H H2 p a a ∧ d.ahead.length < f ∧ bring f d = e.brought ∧ d.unread.length + d.ahead.length ≤ 1000000)
    (fun _ H2 => match H2 a.l_ahead with
      | some (.dK kvs) => kvs.length
      | _ => 0) ⟨e, e.ahead.length + 1, rfl, h, .refl _ _ _, Nat.lt_succ_self _, rfl, hz⟩ ?_
  rintro σ H2 ⟨d, f, rfl, h2, f2, hf, hbr, hz2⟩
  refine tCutT_of (d.ahead.find? fun x => x.1 == d.nio).isSome ⟨_, rfl, _, _, _, rfl, h2.ob, ef_no_next_in_order _ _, _, _, _, rfl, h2, _, rfl, _, _, _, _, _, rfl, h2.ob, T.cl_End, T.n_End_ahead, ef_ahead _ _, a.l_ahead, _, rfl, DGet.k (k := Sum.inl d.nio) h2.h_ahead, _, rfl, ?_, rfl⟩ ?_
  · rw [val_dkv, Option.isSome_map]
  obtain ⟨f, rfl⟩ : ∃ g, f = g + 1 := ⟨f - 1, by omega⟩
  unfold bring at hbr
  cases q : d.ahead.find? fun x => x.1 == d.nio with
  | none =>
    rw [q] at hbr
    have hbr' : d = e.brought := hbr
    subst hbr'
    exact iteF (k _ h2 f2)
  | some x =>
    rw [q] at hbr
    have hx : x.1 = d.nio := by simpa using List.find?_some q
    have hm := List.mem_of_find?_eq_some q
    have hlt : (d.ahead.filter (fun y => y.1 != d.nio)).length < d.ahead.length := List.length_filter_lt_length_iff_exists.mpr ⟨x, hm, by simp [hx]⟩
    have h3 := h2.set_ahead (d.ahead.filter fun y => y.1 != d.nio)
    refine iteT ⟨_, rfl, _, _, _, _, _, rfl, h2.ob, T.cl_End, T.n_End_unread, ef_unread _ _, .inl ⟨rfl, _, SqL.of h2.h_unread⟩, _, rfl, _, _, _, _, _, rfl, h2.ob, T.cl_End, T.n_End_ahead, ef_ahead _ _, a.l_ahead, rfl, .inl ⟨_, .inl h2.h_ahead⟩, _, rfl, _, _, _, rfl, h2.ob, ef_no_next_in_order _ _, _, _, _, rfl, h2, _, Sum.inl d.nio, .int x.2, h2.h_ahead, rfl, (by rw [val_dkv, q]; rfl), ?_⟩
    rw [drop_dkv]
    refine ⟨a.l_unread, d.unread.map V.int, .int x.2, rfl, rfl, h3.h_unread, ?_, ?_⟩
    · rw [List.length_map]
      exact Nat.lt_of_le_of_lt (show d.unread.length ≤ 1000000 by omega) (by decide)
    rw [show d.unread.map V.int ++ [V.int x.2] = (d.unread ++ [x.2]).map V.int by simp]
    have h4 := h3.set_unread (d.unread ++ [x.2])
    have h5 := h4.put_came (d.came + 1)
    refine ⟨_, rfl, _, _, _, _, _, rfl, h4.ob, T.cl_End, T.n_End_came, ef_came _ _, _, _, rfl, rfl, _, _, h4.ob, (show 18 < 1000 by decide), ⟨_, f, rfl, h5, ((f2.upd (.inr (.inr (.inr rfl)))).upd (.inr (.inr (.inl rfl)))).upd (.inl rfl), ?_, hbr, ?_⟩, ?_⟩
    · show (d.ahead.filter (fun y => y.1 != d.nio)).length < f
      omega
    · show (d.unread ++ [x.2]).length + (d.ahead.filter (fun y => y.1 != d.nio)).length ≤ 1000000
      rw [List.length_append]
      simp only [List.length_cons, List.length_nil]
      omega
    · have e5 := h5.h_ahead
      have e2 := h2.h_ahead
      simp only at e5
      rw [e5, e2]
      show (dkv (d.ahead.filter fun y => y.1 != d.nio)).length < (dkv d.ahead).length
      rw [dkv_len, dkv_len]
      exact hlt
/-! ### data -/
theorem numb_bounds {e : Py} {xs : List Int} (h1 : 0 ≤ e.came) (h2 : e.came ≤ 30000) : -4294967296 ≤ e.numb xs ∧ e.numb xs ≤ 4294967296 := by
  have hb := nearI_bounds (numAt xs 0 4 - e.their_first.getD 0) e.wanted
  have hw : 0 ≤ e.wanted ∧ e.wanted ≤ 30002 := by
    unfold Py.wanted Py.nio
    split <;> omega
  unfold Py.numb
  split <;> omega
theorem find_none_of {l : List (Int × Int)} {k : Int} (h : (l.any fun x => x.1 == k) = false) : (l.find? fun x => x.1 == k) = none := by
  rw [List.find?_eq_none]
  intro x hx
  rw [List.any_eq_false] at h
  exact h x hx
theorem find_some_of {l : List (Int × Int)} {k : Int} (h : (l.any fun x => x.1 == k) = true) : ∃ y, (l.find? fun x => x.1 == k) = some y := by
  obtain ⟨x, hx, hk⟩ := List.any_eq_true.mp h
  cases q : l.find? fun x => x.1 == k with
  | some y => exact ⟨y, rfl⟩
  | none => exact absurd hk ((List.find?_eq_none.mp q) x hx)
theorem ok_End_take_data (T : Txt K mg ad) : FnOk P w K mg base CX0 5 ad.f_End_take_data ad.fd_End_take_data ["self", "segment"] (sp_m1 ad.C_End (fun e xs => SegOk xs ∧ e.begun = true ∧ xs.length ≤ 30000 ∧ e.ahead.length ≤ 30000 ∧ e.unread.length ≤ 30000 ∧ 0 ≤ e.came ∧ e.came ≤ 30000) Py.data fun _ _ => .non) := by
  have G_data_of : FnOk P w K mg base CX0 _ ad.f_data_of ad.fd_data_of ["segment"] _ := ok_data_of T
  have G_End_number_of_data : FnOk P w K mg base CX0 _ ad.f_End_number_of_data ad.fd_End_number_of_data ["self", "segment"] _ := ok_End_number_of_data T
  have G_End_next_in_order : FnOk P w K mg base CX0 _ ad.f_End_next_in_order ad.fd_End_next_in_order ["self"] _ := ok_End_next_in_order T
  have G_End_window : FnOk P w K mg base CX0 _ ad.f_End_window ad.fd_End_window ["self"] _ := ok_End_window T
  have G_has_flag : FnOk P w K mg base CX0 _ ad.f_has_flag ad.fd_has_flag ["segment", "flag"] _ := ok_has_flag T
  have G_End_bring_in_order : FnOk P w K mg base CX0 _ ad.f_End_bring_in_order ad.fd_End_bring_in_order ["self"] _ := ok_End_bring_in_order T
  refine T.F_End_take_data.ok sc_End_take_data sp_m1_len (fun cdv A outer s H vs Q E hr h => ?_)
  obtain ⟨p, r, a, e, xs, rfl, h, hx, hf, ⟨hs, hb, hxl, hal, hul, hc0, hc1⟩, k⟩ := h
  refine ⟨_, (pss_cons (ps_set (i := 2) sc_End_take_data.nd rfl (Or.inl rfl) (pe_call G_data_of (hr.mono (by decide)) (by rfl) T.g_data_of T.F_data_of.kp T.b_data_of .nil pass0 (pa_cons (pv 1) pa_nil)))
      (pss_cons (ps_set (i := 3) sc_End_take_data.nd rfl (Or.inl rfl) (pe_meth (pv 0) T.cl_End T.m_End_number_of_data G_End_number_of_data (hr.mono (by decide)) T.b_End_number_of_data .nil pass0 (pa_cons (pv 1) pa_nil)))
      (pss_cons (ps_set (i := 4) sc_End_take_data.nd rfl (Or.inl rfl) (pe_meth0 (pv 0) T.cl_End T.m_End_next_in_order G_End_next_in_order (hr.mono (by decide)) T.b_End_next_in_order .nil pass0))
      (pss_cons (ps_set (i := 5) sc_End_take_data.nd rfl (Or.inl rfl) (pe_op op_add (pv 4) (pe_meth0 (pv 0) T.cl_End T.m_End_window G_End_window (hr.mono (by decide)) T.b_End_window .nil pass0)))
      (pss_cons (ps_for PassesOwn.never rfl (pi_range2 rfl T.z_range (pa_cons (pe_callB (call_max2 rfl) (by rfl) T.z_max (by first | rfl | decide +kernel) (pa_cons (pv 4) (pa_cons (pv 3) pa_nil))) (pa_cons (pe_callB (call_min2 rfl) (by rfl) T.z_min (by first | rfl | decide +kernel) (pa_cons (pv 5) (pa_cons (pe_op op_add (pv 3) (pe_callB call_len_seq (by rfl) T.z_len PySem.boot_len (pa_cons (pv 2) pa_nil))) pa_nil))) pa_nil))) (pg_name (i := 6) sc_End_take_data.nd rfl (Or.inl rfl))
      (pss_one (ps_expr (pe_dsetdefault2 (pe_fld (pv 0) rfl) (pv 6) (pe_ix ix_list (pv 2) (pe_op op_sub (pv 6) (pv 3)) (fun _ _ => rfl)) ⟨rfl, rfl, rfl, rfl⟩))))
      (pss_cons (ps_cut (ps_if (pt_cut (pw_and (pt_val (pe_call G_has_flag (hr.mono (by decide)) (by rfl) T.g_has_flag T.F_has_flag.kp T.b_has_flag .nil pass0 (pa_cons (pv 1) (pa_cons (pe_glob (by rfl) T.c_ENDS.1 T.c_ENDS.2) pa_nil)))) (pw_and (pt_cmpR op_isN (pe_fld (pv 0) rfl) pe_non (nomark _)) (pw_and1 (pt_chain op_le op_le (pv 4) (pe_op op_add (pv 3) (pe_callB call_len_seq (by rfl) T.z_len PySem.boot_len (pa_cons (pv 2) pa_nil))) (pv 5))))).pt)
      (pss_one (ps_fld (pv 0) (pe_op op_add (pv 3) (pe_callB call_len_seq (by rfl) T.z_len PySem.boot_len (pa_cons (pv 2) pa_nil))) rfl))
      pss_nil))
      (pss_cons (ps_expr (pe_meth0 (pv 0) T.cl_End T.m_End_bring_in_order G_End_bring_in_order (hr.mono (by decide)) T.b_End_bring_in_order .nil pass0))
      (pss_one (ps_if (pt_cut (pw_or (pt_val (pe_call G_has_flag (hr.mono (by decide)) (by rfl) T.g_has_flag T.F_has_flag.kp T.b_has_flag .nil pass0 (pa_cons (pv 1) (pa_cons (pe_glob (by rfl) T.c_BEGINS.1 T.c_BEGINS.2) pa_nil)))) (pw_or (pt_val (pe_call G_has_flag (hr.mono (by decide)) (by rfl) T.g_has_flag T.F_has_flag.kp T.b_has_flag .nil pass0 (pa_cons (pv 1) (pa_cons (pe_glob (by rfl) T.c_ENDS.1 T.c_ENDS.2) pa_nil)))) (pw_or1 (pt_cmpR op_gt (pe_callB call_len_seq (by rfl) T.z_len PySem.boot_len (pa_cons (pv 2) pa_nil)) pe_int (nomark _))))).pt)
      (pss_one (ps_fld (pv 0) pe_bl rfl))
      pss_nil))))))))), ?_⟩
  simp only [Py.data] at k
  have nb := numb_bounds (xs := xs) hc0 hc1
  -- data, number, start, stop
  refine ⟨_, rfl, r, xs, rfl, hx, fun ld H1 hld hd1 s1 => ?_⟩
  have h1 := h.same s1
  refine ⟨_, rfl, _, _, _, rfl, h1.ob, ef_no_number_of_data _ _, _, rfl, p, r, a, e, xs, rfl, h1, s1 _ _ hx, ⟨hs, hb⟩, fun H2 s2 => ?_⟩
  have s12 := s1.trans s2
  have h2 := h.same s12
  have f2 : Fr H H2 p a a := Fr.of_same s12
  have hd2 := s2 _ _ hd1
  have hx2 := s12 _ _ hx
  have nld : ¬ EndAt.foot p a ld := by
    intro z
    rcases z with rfl | rfl | rfl | rfl
    · rw [h.ob] at hld; cases hld
    · rw [h.h_written] at hld; cases hld
    · rw [h.h_unread] at hld; cases hld
    · rw [h.h_ahead] at hld; cases hld
  refine ⟨_, rfl, _, _, _, rfl, h2.ob, ef_no_next_in_order _ _, _, _, _, rfl, h2, _, rfl, _, rfl, _, _, _, rfl, h2.ob, ef_no_window _ _, _, _, _, rfl, h2, _, _, rfl, rfl, ?_⟩
  have hwin : 0 ≤ e.window + 30000 ∧ e.window ≤ 8192 := by
    unfold Py.window
    omega
  have hnio : 1 ≤ e.nio ∧ e.nio ≤ 30001 := by
    unfold Py.nio
    omega
  dsimp only
  generalize hn : e.numb xs = n at k nb ⊢
  generalize hdd : xs.drop 14 = dt at k hd2 ⊢
  have hdl : dt.length ≤ 30000 := by rw [← hdd, List.length_drop]; omega
  -- the loop
  refine ⟨_, rfl, _, rfl, _, _, rfl, _, rfl, _, rfl, _, rfl, ld, _, rfl, .inl (SqL.of hd2), _, _, rfl, rfl, _, _, rfl, _, _, rfl, ?_⟩
  rw [max_if, min_if, List.length_map]
  refine ⟨⟨by omega, by omega, by omega, by omega⟩, for_range (lo := max e.nio n) (n := (min (e.nio + e.window) (n + (dt.length : Int)) - max e.nio n).toNat) (fun i σ H3 => ∃ v6 : Option V, σ = [some (.ref p), some (.ref r), some (.ref ld), some (.int n), some (.int e.nio), some (.int (e.nio + e.window)), v6] ∧
    EndAt ad.C_End H3 p a { e with ahead := e.ahead ++ keptN e.ahead e.nio (e.nio + e.window) n dt ((max e.nio n - n).toNat + i) } ∧ Fr H2 H3 p a a) ⟨none, rfl, ?_, .refl _ _ _⟩ ?_ ?_⟩
  · rw [keptN_start _ _ _ _ _ _ (by omega), List.append_nil]
    exact h2
  · rintro i σ H3 hi ⟨v6, rfl, h3, f3⟩
    have hj : (max e.nio n - n).toNat + i < dt.length := by omega
    generalize hjj : (max e.nio n - n).toNat + i = j at h3 hj
    have ek : max e.nio n + (i : Int) = n + (j : Int) := by omega
    have hd3 := f3.keep _ _ hd2 nld
    obtain ⟨x, hxj⟩ : ∃ x, dt[j]? = some x := ⟨dt[j], List.getElem?_eq_getElem hj⟩
    refine ⟨_, rfl, _, _, _, _, _, rfl, h3.ob, T.cl_End, T.n_End_ahead, ef_ahead _ _, a.l_ahead, rfl, .inl ⟨_, .inl h3.h_ahead⟩, _, rfl, _, rfl, _, rfl, _, rfl, _, _, rfl, rfl, ld, _, _, .int x, rfl, rfl, SqL.of hd3, ?_, _, Sum.inl (max e.nio n + (i : Int)), h3.h_ahead, rfl, ?_, ?_, ?_⟩
    · rw [show max e.nio n + (i : Int) - n = (j : Int) by omega]
      exact atI_nat (by rw [List.getElem?_map, hxj]; rfl)
    · rw [dkv_len, List.length_append]
      have := keptN_le e.ahead e.nio (e.nio + e.window) n dt j
      exact Nat.lt_of_le_of_lt (show _ ≤ 60000 by omega) (by decide)
    · intro v hv
      refine ⟨_, rfl, ?_, f3⟩
      rw [← Nat.add_assoc, hjj, keptN_step _ _ _ _ _ _ x hxj (by omega) (by omega)]
      have ha : (e.ahead.any fun y => y.1 == n + (j : Int)) = true := by
        rw [val_dkv, ek] at hv
        cases q : e.ahead.any fun y => y.1 == n + (j : Int) with
        | true => rfl
        | false =>
          rw [find_none_of (by rw [List.any_append, q, keptN_keys]; rfl)] at hv
          cases hv
      rw [if_pos ha, List.append_nil]
      exact h3
    · intro hv
      refine ⟨_, rfl, ?_, f3.upd (.inr (.inr (.inr rfl)))⟩
      rw [← Nat.add_assoc, hjj, keptN_step _ _ _ _ _ _ x hxj (by omega) (by omega)]
      have ha : ¬ (e.ahead.any fun y => y.1 == n + (j : Int)) = true := by
        intro q
        rw [val_dkv, ek] at hv
        obtain ⟨y, hy⟩ := find_some_of (l := e.ahead ++ keptN e.ahead e.nio (e.nio + e.window) n dt j) (k := n + (j : Int)) (by rw [List.any_append, q]; rfl)
        rw [hy] at hv
        cases hv
      rw [putK_new _ hv, if_neg ha, ← List.append_assoc, ek]
      have h4 := h3.set_ahead ((e.ahead ++ keptN e.ahead e.nio (e.nio + e.window) n dt j) ++ [(n + (j : Int), x)])
      rw [dkv_app] at h4
      exact h4
  · rintro σ H3 ⟨v6, rfl, h3, f3⟩
    rw [keptN_end _ _ _ _ _ _ (by omega)] at h3
    have e3 : ({ e with ahead := e.ahead ++ keptI e.ahead e.nio (e.nio + e.window) n dt } : Py) = e.keep n dt := rfl
    rw [e3] at h3
    have f23 := f2.trans f3
    have hd3 := f3.keep _ _ hd2 nld
    have hx3 := f23.keep _ _ hx hf
    -- the end
    refine ⟨fun σ' H' => σ' = [some (.ref p), some (.ref r), some (.ref ld), some (.int n), some (.int e.nio), some (.int (e.nio + e.window)), v6] ∧ EndAt ad.C_End H' p a ((e.keep n dt).ends (flag xs 1) e.nio (e.nio + e.window) (n + (dt.length : Int))) ∧ Fr H3 H' p a a, ?_, ?_⟩
    · refine tCutT_of (flag xs 1 && (decide ((e.keep n dt).their_end = none) && (decide (e.nio ≤ n + (dt.length : Int)) && decide (n + (dt.length : Int) ≤ e.nio + e.window)))) ⟨_, rfl, r, xs, 1, rfl, hx3, hs.1, hs.2, _, rfl, ?_⟩ ?_
      · cases flag xs 1 with
        | false => exact iteF ⟨rfl, rfl⟩
        | true =>
          refine iteT ⟨_, rfl, _, _, _, _, _, rfl, h3.ob, T.cl_End, T.n_End_their_end, ef_their_end _ _, rfl, _, rfl, ?_⟩
          rw [optV_non, show (e.keep n dt).their_end.isNone = decide ((e.keep n dt).their_end = none) by cases (e.keep n dt).their_end <;> rfl]
          cases decide ((e.keep n dt).their_end = none) with
          | false => exact iteF ⟨rfl, rfl⟩
          | true =>
            refine iteT ⟨_, rfl, _, rfl, _, rfl, ld, _, rfl, .inl (SqL.of hd3), _, _, rfl, rfl, _, _, rfl, rfl, _, rfl, ?_⟩
            rw [List.length_map]
            cases decide (e.nio ≤ n + (dt.length : Int)) with
            | false => exact iteF ⟨_, rfl, rfl, rfl⟩
            | true => exact iteT ⟨_, rfl, _, _, rfl, rfl, _, rfl, rfl, rfl⟩
      · unfold Py.ends
        cases q : (flag xs 1 && (decide ((e.keep n dt).their_end = none) && (decide (e.nio ≤ n + (dt.length : Int)) && decide (n + (dt.length : Int) ≤ e.nio + e.window)))) with
        | false => exact iteF ⟨rfl, h3, .refl _ _ _⟩
        | true =>
          refine iteT ⟨_, rfl, _, rfl, ld, _, rfl, .inl (SqL.of hd3), _, _, rfl, rfl, _, rfl, _, _, _, _, rfl, h3.ob, T.cl_End, T.n_End_their_end, (show 18 < 1000 by decide), rfl, ?_, (Fr.refl _ _ _).upd (.inl rfl)⟩
          rw [List.length_map]
          exact h3.put_their_end (some (n + (dt.length : Int)))
    · rintro σ' H4 ⟨rfl, h4, f4⟩
      have f24 := f23.trans f4
      generalize hen : (e.keep n dt).ends (flag xs 1) e.nio (e.nio + e.window) (n + (dt.length : Int)) = e4 at h4 k
      have hl4 : e4.unread.length + e4.ahead.length ≤ 1000000 := by
        have q1 : e4.unread = e.unread ∧ e4.ahead = (e.keep n dt).ahead := by
          rw [← hen]
          unfold Py.ends
          split <;> exact ⟨rfl, rfl⟩
        have q2 : (e.keep n dt).ahead.length ≤ 60000 := by
          show (e.ahead ++ keptI e.ahead e.nio (e.nio + e.window) n dt).length ≤ 60000
          rw [List.length_append, ← keptN_end _ _ _ _ _ dt.length (by omega)]
          have := keptN_le e.ahead e.nio (e.nio + e.window) n dt dt.length
          omega
        rw [q1.1, q1.2]
        omega
      refine ⟨_, rfl, _, _, _, rfl, h4.ob, ef_no_bring_in_order _ _, p, a, e4, rfl, h4, hl4, fun H5 h5 f5 => ?_⟩
      have f25 := f24.trans f5
      have hd5 := f5.keep _ _ (f4.keep _ _ hd3 nld) nld
      have hx5 := f25.keep _ _ hx hf
      refine tCutT_of (flag xs 0 || (flag xs 1 || decide (0 < dt.length))) ⟨_, rfl, r, xs, 0, rfl, hx5, hs.1, hs.2, _, rfl, ?_⟩ ?_
      · cases flag xs 0 with
        | true => exact iteT ⟨rfl, rfl⟩
        | false =>
          refine iteF ⟨_, rfl, r, xs, 1, rfl, hx5, hs.1, hs.2, _, rfl, ?_⟩
          cases flag xs 1 with
          | true => exact iteT ⟨rfl, rfl⟩
          | false =>
            refine iteF ⟨_, rfl, ld, _, rfl, .inl (SqL.of hd5), _, _, rfl, rfl, _, rfl, ?_, rfl⟩
            rw [List.length_map, Bool.false_or, Bool.false_or, decide_eq_decide]
            omega
      · unfold Py.owe at k
        cases q : (flag xs 0 || (flag xs 1 || decide (0 < dt.length))) with
        | true =>
          rw [q] at k
          exact iteT ⟨_, rfl, _, _, _, _, rfl, h5.ob, T.cl_End, T.n_End_owes, (show 18 < 1000 by decide), k _ (h5.put_owes true) (f25.upd (.inl rfl))⟩
        | false =>
          rw [q] at k
          exact iteF (k _ h5 f25)
/-! ### in -/
theorem begin_begun (e : Py) (xs : List Int) : (e.begin xs).begun = true := by
  unfold Py.begin
  cases q : e.begun with
  | true => exact q
  | false => rfl
theorem right_ok {xs : List Int} (hb : Byt xs) (h : isRight xs = true) : SegOk xs := by
  unfold isRight at h
  simp at h
  exact ⟨hb, h.1⟩
theorem ok_End_take_in (T : Txt K mg ad) : FnOk P w K mg base CX0 6 ad.f_End_take_in ad.fd_End_take_in ["self", "segment"]
    (fun vs H Q _ => ∃ (p r : Addr) (a : EA) (e : Py) (xs : List Int), vs = [.ref p, .ref r] ∧ EndAt ad.C_End H p a e ∧ H r = some (.lst (xs.map V.int)) ∧ ¬ EndAt.foot p a r ∧ (Byt xs ∧ xs.length ≤ 30000 ∧ e.ahead.length ≤ 30000 ∧ e.unread.length ≤ 30000 ∧ 0 ≤ e.came ∧ e.came ≤ 30000) ∧
      ∀ (l : Addr) (a' : EA) (H' : Hp), EndAt ad.C_End H' p a' (e.inn xs).1 → H l = none → H' l = some (.lst ((e.inn xs).2.map V.int)) → Fr H H' p a a' → Q (.ref l) H') := by
  have G_is_right : FnOk P w K mg base CX0 _ ad.f_is_right ad.fd_is_right ["segment"] _ := ok_is_right T
  have G_End_comes_too_early : FnOk P w K mg base CX0 _ ad.f_End_comes_too_early ad.fd_End_comes_too_early ["self", "segment"] _ := ok_End_comes_too_early T
  have G_has_flag : FnOk P w K mg base CX0 _ ad.f_has_flag ad.fd_has_flag ["segment", "flag"] _ := ok_has_flag T
  have G_End_take_break : FnOk P w K mg base CX0 _ ad.f_End_take_break ad.fd_End_take_break ["self", "segment"] _ := ok_End_take_break T
  have G_End_other_has_begun : FnOk P w K mg base CX0 _ ad.f_End_other_has_begun ad.fd_End_other_has_begun ["self"] _ := ok_End_other_has_begun T
  have G_place_of : FnOk P w K mg base CX0 _ ad.f_place_of ad.fd_place_of ["segment"] _ := ok_place_of T
  have G_End_take_answer : FnOk P w K mg base CX0 _ ad.f_End_take_answer ad.fd_End_take_answer ["self", "segment"] _ := ok_End_take_answer T
  have G_End_take_data : FnOk P w K mg base CX0 _ ad.f_End_take_data ad.fd_End_take_data ["self", "segment"] _ := ok_End_take_data T
  refine T.F_End_take_in.ok sc_End_take_in (fun vs H Q E h => ?_) (fun cdv A outer s H vs Q E hr h => ?_)
  · obtain ⟨p, r, a, e, xs, rfl, _⟩ := h
    rfl
  obtain ⟨p, r, a, e, xs, rfl, h, hx, hf, ⟨hby, hxl, hal, hul, hc0, hc1⟩, k⟩ := h
  refine ⟨_, (pss_cons (ps_if (pt_cut (pw_or (pt_val (pe_fld (pv 0) rfl)) (pw_or (pt_not (pt_val (pe_call G_is_right (hr.mono (by decide)) (by rfl) T.g_is_right T.F_is_right.kp T.b_is_right .nil pass0 (pa_cons (pv 1) pa_nil)))) (pw_or1 (pt_val (pe_meth (pv 0) T.cl_End T.m_End_comes_too_early G_End_comes_too_early (hr.mono (by decide)) T.b_End_comes_too_early .nil pass0 (pa_cons (pv 1) pa_nil)))))).pt)
      (pss_one (ps_ret (pe_lst (pa_cons pe_int pa_nil))))
      pss_nil)
      (pss_cons (ps_if (pt_val (pe_call G_has_flag (hr.mono (by decide)) (by rfl) T.g_has_flag T.F_has_flag.kp T.b_has_flag .nil pass0 (pa_cons (pv 1) (pa_cons (pe_glob (by rfl) T.c_BREAKS.1 T.c_BREAKS.2) pa_nil))))
      (pss_cons (ps_expr (pe_meth (pv 0) T.cl_End T.m_End_take_break G_End_take_break (hr.mono (by decide)) T.b_End_take_break .nil pass0 (pa_cons (pv 1) pa_nil)))
      (pss_one (ps_ret (pe_lst (pa_cons pe_int pa_nil)))))
      pss_nil)
      (pss_cons (ps_cut (ps_if (pt_not (pt_val (pe_meth0 (pv 0) T.cl_End T.m_End_other_has_begun G_End_other_has_begun (hr.mono (by decide)) T.b_End_other_has_begun .nil pass0)))
      (pss_one (ps_fld (pv 0) (pe_call G_place_of (hr.mono (by decide)) (by rfl) T.g_place_of T.F_place_of.kp T.b_place_of .nil pass0 (pa_cons (pv 1) pa_nil)) rfl))
      pss_nil))
      (pss_cons (ps_if (pt_cut (pw_and (pt_val (pe_call G_has_flag (hr.mono (by decide)) (by rfl) T.g_has_flag T.F_has_flag.kp T.b_has_flag .nil pass0 (pa_cons (pv 1) (pa_cons (pe_glob (by rfl) T.c_ANSWERS.1 T.c_ANSWERS.2) pa_nil)))) (pw_and1 (pt_not (pt_val (pe_meth (pv 0) T.cl_End T.m_End_take_answer G_End_take_answer (hr.mono (by decide)) T.b_End_take_answer .nil pass0 (pa_cons (pv 1) pa_nil)))))).pt)
      (pss_one (ps_ret (pe_lst (pa_cons pe_int pa_nil))))
      pss_nil)
      (pss_cons (ps_expr (pe_meth (pv 0) T.cl_End T.m_End_take_data G_End_take_data (hr.mono (by decide)) T.b_End_take_data .nil pass0 (pa_cons (pv 1) pa_nil)))
      (pss_one (ps_ret (pe_lst (pa_cons pe_int pa_nil))))))))), ?_⟩
  unfold Py.inn at k
  refine ⟨fun b H' => b = (e.broken || (!isRight xs || e.early xs)) ∧ Same H H', ⟨_, rfl, _, _, _, _, _, rfl, h.ob, T.cl_End, T.n_End_broken, ef_broken _ _, _, rfl, ?_⟩, ?_⟩
  · cases e.broken with
    | true => exact iteT ⟨rfl, .refl _⟩
    | false =>
      refine iteF ⟨_, rfl, r, xs, rfl, hx, hby, fun H1 s1 => ⟨_, rfl, ?_⟩⟩
      have h1 := h.same s1
      cases q : isRight xs with
      | false => exact iteT ⟨rfl, s1⟩
      | true => exact iteF ⟨_, rfl, _, _, _, rfl, h1.ob, ef_no_comes_too_early _ _, _, rfl, p, r, a, e, xs, rfl, h1, s1 _ _ hx, right_ok hby q, fun H2 s2 => ⟨_, rfl, rfl, s1.trans s2⟩⟩
  rintro b H1 ⟨rfl, s1⟩
  have h1 := h.same s1
  have f1 : Fr H H1 p a a := Fr.of_same s1
  have hx1 := s1 _ _ hx
  have last : ∀ (e' : Py) (H' : Hp), EndAt ad.C_End H' p a e' → Fr H H' p a a → ∀ (m : Int) (c : Py × List Int), c = (e', [m]) → (∀ (l : Addr) (a' : EA) (H' : Hp), EndAt ad.C_End H' p a' c.1 → H l = none → H' l = some (.lst (c.2.map V.int)) → Fr H H' p a a' → Q (.ref l) H') →
      [V.int m].length ≤ sizeLine ∧ ∀ l, H' l = none → Q (.ref l) (upd H' l (.lst [.int m])) := by
    intro e' H' h' f' m c hc k
    subst hc
    exact ⟨(show 1 ≤ sizeLine by decide), fun l hl => k l a _ (h'.new hl) (f'.live l hl) upd_same (f'.new hl)⟩
  cases q : (e.broken || (!isRight xs || e.early xs)) with
  | true =>
    rw [q] at k
    exact iteT (last e H1 h1 f1 0 _ rfl k)
  | false =>
    rw [q] at k
    simp only [Bool.false_eq_true, if_false] at k
    have hri : isRight xs = true := by
      cases z : isRight xs with
      | true => rfl
      | false => rw [z] at q; simp at q
    have hs := right_ok hby hri
    refine iteF ⟨_, rfl, r, xs, 3, rfl, hx1, hs.1, hs.2, _, rfl, ?_⟩
    cases q3 : flag xs 3 with
    | true =>
      rw [q3] at k
      refine iteT ⟨_, rfl, _, _, _, rfl, h1.ob, ef_no_take_break _ _, _, rfl, p, r, a, e, xs, rfl, h1, hx1, hf, trivial, fun H2 h2 f2 => ?_⟩
      exact last _ H2 h2 (f1.trans f2) 1 _ rfl k
    | false =>
      rw [q3] at k
      simp only [Bool.false_eq_true, if_false] at k
      refine iteF ⟨fun σ' H' => σ' = [some (.ref p), some (.ref r)] ∧ EndAt ad.C_End H' p a (e.begin xs) ∧ Fr H H' p a a, ⟨_, rfl, _, _, _, rfl, h1.ob, ef_no_other_has_begun _ _, _, _, _, rfl, h1, _, rfl, ?_⟩, ?_⟩
      · unfold Py.begin
        cases e.begun with
        | true => exact iteF ⟨rfl, h1, f1⟩
        | false =>
          refine iteT ⟨_, rfl, r, xs, rfl, hx1, trivial, fun H2 s2 => ?_⟩
          have h2 := h1.same s2
          exact ⟨_, rfl, _, _, _, _, rfl, h2.ob, T.cl_End, T.n_End_their_first, (show 18 < 1000 by decide), rfl, h2.put_their_first (some (numAt xs 0 4)), (f1.same s2).upd (.inl rfl)⟩
      rintro σ' H2 ⟨rfl, h2, f2⟩
      have hx2 := f2.keep _ _ hx hf
      have hbg := begin_begun e xs
      have hsz : (e.begin xs).ahead = e.ahead ∧ (e.begin xs).unread = e.unread ∧ (e.begin xs).came = e.came := by
        unfold Py.begin
        split <;> exact ⟨rfl, rfl, rfl⟩
      generalize e.begin xs = e2 at k h2 hbg hsz
      have hsa : (e2.ans xs).1.ahead = e2.ahead ∧ (e2.ans xs).1.unread = e2.unread ∧ (e2.ans xs).1.came = e2.came ∧ (e2.ans xs).1.begun = e2.begun := by
        unfold Py.ans
        simp only
        split
        · exact ⟨rfl, rfl, rfl, rfl⟩
        · split <;> exact ⟨rfl, rfl, rfl, rfl⟩
      refine ⟨fun b H' => b = (flag xs 2 && !(e2.ans xs).2) ∧ EndAt ad.C_End H' p a (if flag xs 2 = true then (e2.ans xs).1 else e2) ∧ Fr H H' p a a, ⟨_, rfl, r, xs, 2, rfl, hx2, hs.1, hs.2, _, rfl, ?_⟩, ?_⟩
      · cases flag xs 2 with
        | false => exact iteF ⟨rfl, h2, f2⟩
        | true => exact iteT ⟨_, rfl, _, _, _, rfl, h2.ob, ef_no_take_answer _ _, _, rfl, p, r, a, e2, xs, rfl, h2, hx2, hf, trivial, fun H3 h3 f3 => ⟨_, rfl, rfl, h3, f2.trans f3⟩⟩
      rintro b H3 ⟨rfl, h3, f3⟩
      have hx3 := f3.keep _ _ hx hf
      cases q2 : flag xs 2 with
      | false =>
        rw [q2] at k h3
        simp only [Bool.false_eq_true, if_false] at k h3
        refine iteF ⟨_, rfl, _, _, _, rfl, h3.ob, ef_no_take_data _ _, _, rfl, p, r, a, e2, xs, rfl, h3, hx3, hf, ⟨hs, hbg, hxl, by rw [hsz.1]; exact hal, by rw [hsz.2.1]; exact hul, by rw [hsz.2.2]; exact hc0, by rw [hsz.2.2]; exact hc1⟩, fun H4 h4 f4 => ?_⟩
        exact last _ H4 h4 (f3.trans f4) 1 _ rfl k
      | true =>
        rw [q2] at k h3
        simp only [if_true] at k h3
        cases q4 : (e2.ans xs).2 with
        | false =>
          rw [q4] at k
          exact iteT (last _ H3 h3 f3 1 _ rfl k)
        | true =>
          rw [q4] at k
          refine iteF ⟨_, rfl, _, _, _, rfl, h3.ob, ef_no_take_data _ _, _, rfl, p, r, a, _, xs, rfl, h3, hx3, hf, ⟨hs, by rw [hsa.2.2.2]; exact hbg, hxl, by rw [hsa.1, hsz.1]; exact hal, by rw [hsa.2.1, hsz.2.1]; exact hul, by rw [hsa.2.2.1, hsz.2.2]; exact hc0, by rw [hsa.2.2.1, hsz.2.2]; exact hc1⟩, fun H4 h4 f4 => ?_⟩
          exact last _ H4 h4 (f3.trans f4) 1 _ rfl k
end
end Pr
namespace Pr
open PySem L2
open Ty (Byt)
section
variable {P : Program} {w : World} {K : PySem.W.Frag} {mg : Str → Option Value} {base : Heap} {ad : Ad}
/-! ### a segment goes -/
theorem or_four {m : Int} (h : m = 0 ∨ m = 1 ∨ m = 2) : Builtin.bitOr m 4 = m + 4 := by
  rcases h with rfl | rfl | rfl <;> decide
def sp_send (C : Addr) : Sp := fun vs H Q _ => ∃ (p r : Addr) (a : EA) (e : Py) (m : Int) (d : List Int), vs = [.ref p, .int m, .ref r] ∧ EndAt C H p a e ∧ H r = some (.lst (d.map V.int)) ∧ ¬ EndAt.foot p a r ∧ (m = 0 ∨ m = 1 ∨ m = 2) ∧ d.length ≤ 65536 ∧
  ∀ (l : Addr) (H' : Hp), EndAt C H' p a (e.send m d).1 → H l = none → H' l = some (.lst ((e.send m d).2.map V.int)) → Fr H H' p a a → Q (.ref l) H'
theorem ok_End_send (T : Txt K mg ad) : FnOk P w K mg base CX0 5 ad.f_End_send ad.fd_End_send ["self", "mark", "data"] (sp_send ad.C_End) := by
  have G_End_other_has_begun : FnOk P w K mg base CX0 _ ad.f_End_other_has_begun ad.fd_End_other_has_begun ["self"] _ := ok_End_other_has_begun T
  have G_End_wanted_place : FnOk P w K mg base CX0 _ ad.f_End_wanted_place ad.fd_End_wanted_place ["self"] _ := ok_End_wanted_place T
  have G_End_window : FnOk P w K mg base CX0 _ ad.f_End_window ad.fd_End_window ["self"] _ := ok_End_window T
  have G_segment_without_sum : FnOk P w K mg base CX0 _ ad.f_segment_without_sum ad.fd_segment_without_sum ["place", "wanted_place", "flags", "window", "data"] _ := ok_segment_without_sum T
  refine T.F_End_send.ok sc_End_send (fun vs H Q E h => ?_) (fun cdv A outer s H vs Q E hr h => ?_)
  · obtain ⟨p, r, a, e, m, d, rfl, _⟩ := h
    rfl
  obtain ⟨p, r, a, e, m, d, rfl, h, hx, hf, hm, hdl, k⟩ := h
  refine ⟨_, (pss_cons (ps_set (i := 3) sc_End_send.nd rfl (Or.inl rfl) (pv 1))
      (pss_cons (ps_set (i := 4) sc_End_send.nd rfl (Or.inl rfl) pe_int)
      (pss_cons (ps_cut (ps_if (pt_val (pe_meth0 (pv 0) T.cl_End T.m_End_other_has_begun G_End_other_has_begun (hr.mono (by decide)) T.b_End_other_has_begun .nil pass0))
      (pss_cons (ps_set (i := 3) sc_End_send.nd rfl (Or.inl rfl) (pe_op op_or (pv 1) (pe_glob (by rfl) T.c_ANSWERS.1 T.c_ANSWERS.2)))
      (pss_cons (ps_set (i := 4) sc_End_send.nd rfl (Or.inl rfl) (pe_meth0 (pv 0) T.cl_End T.m_End_wanted_place G_End_wanted_place (hr.mono (by decide)) T.b_End_wanted_place .nil pass0))
      (pss_one (ps_fld (pv 0) pe_bl rfl))))
      pss_nil))
      (pss_cons (ps_set (i := 5) sc_End_send.nd rfl (Or.inl rfl) (pe_op op_add (pe_fld (pv 0) rfl) (pe_fld (pv 0) rfl)))
      (pss_cons (ps_set (i := 6) sc_End_send.nd rfl (Or.inl rfl) (pe_call G_segment_without_sum (hr.mono (by decide)) (by rfl) T.g_segment_without_sum T.F_segment_without_sum.kp T.b_segment_without_sum .nil pass0 (pa_cons (pv 5) (pa_cons (pv 4) (pa_cons (pv 3) (pa_cons (pe_meth0 (pv 0) T.cl_End T.m_End_window G_End_window (hr.mono (by decide)) T.b_End_window .nil pass0) (pa_cons (pv 2) pa_nil)))))))
      (pss_cons (ps_fldaug (pv 0) (pe_op op_add (pe_callB call_len_seq (by rfl) T.z_len PySem.boot_len (pa_cons (pv 2) pa_nil)) (pe_cut (pe_ifExp (pt_cmpR op_eq (pv 1) pe_int (nomark _)) pe_int pe_int))) in_add)
      (pss_cons (ps_fld (pv 0) (pe_callB (call_max2 rfl) (by rfl) T.z_max (by first | rfl | decide +kernel) (pa_cons (pe_fld (pv 0) rfl) (pa_cons (pe_fld (pv 0) rfl) pa_nil))) rfl)
      (pss_cons (ps_cut (ps_if (pt_cut (pw_or (pt_cmpR op_eq (pv 1) (pe_glob (by rfl) T.c_ENDS.1 T.c_ENDS.2) (nomark _)) (pw_or1 (pt_cmpR op_gt (pe_callB call_len_seq (by rfl) T.z_len PySem.boot_len (pa_cons (pv 2) pa_nil)) pe_int (nomark _)))).pt)
      (pss_one (ps_fld (pv 0) pe_bl rfl))
      pss_nil))
      (pss_one (ps_ret (pe_op op_cat (pe_op op_cat (pe_lst (pa_cons (pe_callB call_len_seq (by rfl) T.z_len PySem.boot_len (pa_cons (pv 6) pa_nil)) pa_nil)) (pv 6)) (pe_lst (pa_cons pe_int pa_nil))))))))))))), ?_⟩
  refine ⟨_, rfl, ?_⟩
  -- flags, wanted_place, owes
  refine ⟨fun σ' H' => σ' = [some (.ref p), some (.int m), some (.ref r), some (.int (if e.begun = true then m + 4 else m)), some (.int (if e.begun = true then e.wplace else 0)), none, none] ∧ EndAt ad.C_End H' p a { e with owes := if e.begun = true then false else e.owes } ∧ Fr H H' p a a, ⟨_, rfl, _, _, _, rfl, h.ob, ef_no_other_has_begun _ _, _, _, _, rfl, h, _, rfl, ?_⟩, ?_⟩
  · cases q : e.begun with
    | false => exact iteF ⟨rfl, h, .refl _ _ _⟩
    | true =>
      refine iteT ⟨_, rfl, _, _, rfl, rfl, _, rfl, _, _, _, rfl, h.ob, ef_no_wanted_place _ _, _, _, _, rfl, h, q, _, rfl, _, _, _, _, rfl, h.ob, T.cl_End, T.n_End_owes, (show 18 < 1000 by decide), ?_, h.put_owes false, (Fr.refl _ _ _).upd (.inl rfl)⟩
      show [some (V.ref p), some (V.int m), some (V.ref r), some (V.int (Builtin.bitOr m 4)), some (V.int e.wplace), none, none] = _
      rw [or_four hm]
      rfl
  rintro σ' H1 ⟨rfl, h1, f1⟩
  have hx1 := f1.keep _ _ hx hf
  -- place, segment
  refine ⟨_, rfl, _, _, _, _, _, rfl, h1.ob, T.cl_End, T.n_End_first, ef_first _ _, _, rfl, _, _, _, _, _, rfl, h1.ob, T.cl_End, T.n_End_next_number, ef_next_number _ _, _, _, rfl, rfl, ?_⟩
  refine ⟨_, rfl, _, rfl, _, rfl, _, rfl, _, _, _, rfl, h1.ob, ef_no_window _ _, _, _, _, rfl, h1, _, rfl, _, _, _, _, r, d, rfl, hx1, (by omega), fun l2 H2 hl2 hs2 s2 => ?_⟩
  have h2 := h1.same s2
  have f2 := f1.same s2
  have hx2 := s2 _ _ hx1
  have es : rowOf (e.first + e.next_number) 4 ++ rowOf (if e.begun = true then e.wplace else 0) 4 ++ [if e.begun = true then m + 4 else m, 0] ++ rowOf e.window 2 ++ [0, 0] ++ d = e.seg m d := rfl
  have hs2' : H2 l2 = some (.lst ((e.seg m d).map V.int)) := hs2
  have nl2 : ¬ EndAt.foot p a l2 := by
    intro z
    rcases z with rfl | rfl | rfl | rfl
    · rw [h1.ob] at hl2; cases hl2
    · rw [h1.h_written] at hl2; cases hl2
    · rw [h1.h_unread] at hl2; cases hl2
    · rw [h1.h_ahead] at hl2; cases hl2
  -- next_number, sent
  refine ⟨_, rfl, _, _, _, _, _, rfl, h2.ob, T.cl_End, T.n_End_next_number, ef_next_number _ _, _, rfl, r, _, rfl, .inl (SqL.of hx2), tCutE_of (.int (if m = 0 then 0 else 1)) ⟨_, rfl, rfl, _, rfl, ?_⟩ ⟨_, _, rfl, rfl, ?_⟩⟩
  · rw [int_eq]
    by_cases q : m = 0
    · rw [decide_eq_true q, if_pos q]
      exact iteT ⟨rfl, rfl⟩
    · rw [decide_eq_false q, if_neg q]
      exact iteF ⟨rfl, rfl⟩
  rw [List.length_map]
  have h3 := h2.put_next_number (e.next_number + ((d.length : Int) + (if m = 0 then 0 else 1)))
  refine ⟨_, _, rfl, rfl, _, _, h2.ob, (show 18 < 1000 by decide), ?_⟩
  refine ⟨_, rfl, _, _, _, _, _, rfl, h3.ob, T.cl_End, T.n_End_sent, ef_sent _ _, _, rfl, _, _, _, _, _, rfl, h3.ob, T.cl_End, T.n_End_next_number, ef_next_number _ _, _, _, rfl, ?_⟩
  rw [max_if]
  have h4 := h3.put_sent (max e.sent (e.next_number + ((d.length : Int) + (if m = 0 then 0 else 1))))
  refine ⟨_, rfl, _, _, _, _, rfl, h3.ob, T.cl_End, T.n_End_sent, (show 18 < 1000 by decide), ?_⟩
  -- probe
  refine ⟨fun σ' H' => σ' = [some (.ref p), some (.int m), some (.ref r), some (.int (if e.begun = true then m + 4 else m)), some (.int (if e.begun = true then e.wplace else 0)), some (.int (e.first + e.next_number)), some (.ref l2)] ∧ EndAt ad.C_End H' p a (e.sentNow m d) ∧ Fr H2 H' p a a, ?_, ?_⟩
  · have hx4 := (((Fr.refl H2 p a).upd (o := .ins ad.C_End a.dx (putF "next_number" (.int (e.next_number + ((d.length : Int) + (if m = 0 then 0 else 1)))) (ef a { e with owes := if e.begun = true then false else e.owes }))) (.inl rfl)).upd (o := .ins ad.C_End a.dx (putF "sent" (.int (max e.sent (e.next_number + ((d.length : Int) + (if m = 0 then 0 else 1))))) (ef a { e with owes := if e.begun = true then false else e.owes, next_number := e.next_number + ((d.length : Int) + (if m = 0 then 0 else 1)) }))) (.inl rfl)).keep _ _ hx2 hf
    refine tCutT_of (decide (m = 2) || decide (0 < d.length)) ⟨_, rfl, rfl, _, rfl, ?_⟩ ?_
    · rw [int_eq]
      cases decide (m = 2) with
      | true => exact iteT ⟨rfl, rfl⟩
      | false =>
        refine iteF ⟨_, rfl, r, _, rfl, .inl (SqL.of hx4), _, _, rfl, rfl, _, rfl, ?_, rfl⟩
        rw [List.length_map, Bool.false_or, decide_eq_decide]
        omega
    · unfold Py.sentNow
      simp only
      cases q : (decide (m = 2) || decide (0 < d.length)) with
      | true => exact iteT ⟨_, rfl, _, _, _, _, rfl, h4.ob, T.cl_End, T.n_End_probe, (show 18 < 1000 by decide), rfl, h4.put_probe false, (((Fr.refl _ _ _).upd (.inl rfl)).upd (.inl rfl)).upd (.inl rfl)⟩
      | false => exact iteF ⟨rfl, h4, ((Fr.refl _ _ _).upd (.inl rfl)).upd (.inl rfl)⟩
  · rintro σ' H5 ⟨rfl, h5, f5⟩
    have hs5 := f5.keep _ _ hs2' nl2
    have f15 := f2.trans f5
    have hsl : (e.seg m d).length ≤ 70000 := by
      unfold Py.seg
      simp only [List.length_append, rowOf_len, List.length_cons, List.length_nil]
      omega
    have big : ∀ n : Nat, n ≤ 200000 → n ≤ sizeLine := fun n h => Nat.le_trans h (by decide)
    refine ⟨_, rfl, l2, _, rfl, .inl (SqL.of hs5), (show 1 ≤ sizeLine by decide), fun l6 n6 => ?_⟩
    rw [List.length_map]
    have g6 := f15.new (o := .lst [.int ((e.seg m d).length : Int)]) n6
    have h6 := h5.new (o := .lst [.int ((e.seg m d).length : Int)]) n6
    have hs6 : upd H5 l6 (.lst [.int ((e.seg m d).length : Int)]) l2 = some (.lst ((e.seg m d).map V.int)) := by rw [upd_ne (ne_of_none hs5 n6)]; exact hs5
    refine ⟨_, rfl, l6, l2, _, _, rfl, rfl, upd_same, hs6, big _ (by simp; omega), fun l7 n7 => ?_⟩
    have g7 := g6.new (o := .lst ([.int ((e.seg m d).length : Int)] ++ (e.seg m d).map V.int)) n7
    have h7 := h6.new (o := .lst ([.int ((e.seg m d).length : Int)] ++ (e.seg m d).map V.int)) n7
    refine ⟨(show 1 ≤ sizeLine by decide), fun l8 n8 => ?_⟩
    have g8 := g7.new (o := .lst [.int 1]) n8
    have h8 := h7.new (o := .lst [.int 1]) n8
    refine ⟨l7, l8, _, _, rfl, rfl, (by rw [upd_ne (ne_of_none upd_same n8), upd_same]), upd_same, big _ (by simp; omega), fun l n => ?_⟩
    refine k l _ (h8.new n) (g8.live l n) ?_ (g8.new n)
    rw [upd_same]
    unfold Py.send
    simp
theorem ok_End_out (T : Txt K mg ad) : FnOk P w K mg base CX0 6 ad.f_End_out ad.fd_End_out ["self", "most"] (sp_doI ad.C_End (fun e n => 14 ≤ n ∧ (e.acked ≠ 0 → 1 ≤ e.next_number)) Py.out) := by
  have G_End_beginning_is_due : FnOk P w K mg base CX0 _ ad.f_End_beginning_is_due ad.fd_End_beginning_is_due ["self"] _ := ok_End_beginning_is_due T
  have G_End_send : FnOk P w K mg base CX0 _ ad.f_End_send ad.fd_End_send ["self", "mark", "data"] _ := ok_End_send T
  have G_End_data_due : FnOk P w K mg base CX0 _ ad.f_End_data_due ad.fd_End_data_due ["self", "most"] _ := ok_End_data_due T
  have G_End_end_is_due : FnOk P w K mg base CX0 _ ad.f_End_end_is_due ad.fd_End_end_is_due ["self", "bytes_before"] _ := ok_End_end_is_due T
  have G_End_answer_is_due : FnOk P w K mg base CX0 _ ad.f_End_answer_is_due ad.fd_End_answer_is_due ["self"] _ := ok_End_answer_is_due T
  refine T.F_End_out.ok sc_End_out (fun vs H Q E h => ?_) (fun cdv A outer s H vs Q E hr h => ?_)
  · obtain ⟨p, a, e, n, rfl, _⟩ := h
    rfl
  obtain ⟨p, a, e, n, rfl, h, ⟨hn, hnx⟩, k⟩ := h
  refine ⟨_, (pss_cons (ps_if (pt_val (pe_fld (pv 0) rfl))
      (pss_one (ps_ret (pe_lst (pa_cons pe_int pa_nil))))
      pss_nil)
      (pss_cons (ps_if (pt_val (pe_meth0 (pv 0) T.cl_End T.m_End_beginning_is_due G_End_beginning_is_due (hr.mono (by decide)) T.b_End_beginning_is_due .nil pass0))
      (pss_one (ps_ret (pe_meth (pv 0) T.cl_End T.m_End_send G_End_send (hr.mono (by decide)) T.b_End_send .nil pass0 (pa_cons (pe_glob (by rfl) T.c_BEGINS.1 T.c_BEGINS.2) (pa_cons (pe_lst pa_nil) pa_nil)))))
      pss_nil)
      (pss_cons (ps_set (i := 2) sc_End_out.nd rfl (Or.inl rfl) (pe_meth (pv 0) T.cl_End T.m_End_data_due G_End_data_due (hr.mono (by decide)) T.b_End_data_due .nil pass0 (pa_cons (pe_op op_sub (pv 1) (pe_glob (by rfl) T.c_HEAD.1 T.c_HEAD.2)) pa_nil)))
      (pss_cons (ps_if (pt_val (pe_meth (pv 0) T.cl_End T.m_End_end_is_due G_End_end_is_due (hr.mono (by decide)) T.b_End_end_is_due .nil pass0 (pa_cons (pe_callB call_len_seq (by rfl) T.z_len PySem.boot_len (pa_cons (pv 2) pa_nil)) pa_nil)))
      (pss_one (ps_ret (pe_meth (pv 0) T.cl_End T.m_End_send G_End_send (hr.mono (by decide)) T.b_End_send .nil pass0 (pa_cons (pe_glob (by rfl) T.c_ENDS.1 T.c_ENDS.2) (pa_cons (pv 2) pa_nil)))))
      pss_nil)
      (pss_cons (ps_if (pt_cut (pw_or (pt_cmpR op_gt (pe_callB call_len_seq (by rfl) T.z_len PySem.boot_len (pa_cons (pv 2) pa_nil)) pe_int (nomark _)) (pw_or1 (pt_val (pe_meth0 (pv 0) T.cl_End T.m_End_answer_is_due G_End_answer_is_due (hr.mono (by decide)) T.b_End_answer_is_due .nil pass0)))).pt)
      (pss_one (ps_ret (pe_meth (pv 0) T.cl_End T.m_End_send G_End_send (hr.mono (by decide)) T.b_End_send .nil pass0 (pa_cons pe_int (pa_cons (pv 2) pa_nil)))))
      pss_nil)
      (pss_one (ps_ret (pe_lst (pa_cons pe_int pa_nil))))))))), ?_⟩
  unfold Py.out at k
  have zero : ∀ (H' : Hp), EndAt ad.C_End H' p a e → Fr H H' p a a → (∀ (l : Addr) (a' : EA) (H' : Hp), EndAt ad.C_End H' p a' e → H l = none → H' l = some (.lst ([0].map V.int)) → Fr H H' p a a' → Q (.ref l) H') →
      [V.int 0].length ≤ sizeLine ∧ ∀ l, H' l = none → Q (.ref l) (upd H' l (.lst [.int 0])) := fun H' h' f' k => ⟨(show 1 ≤ sizeLine by decide), fun l hl => k l a _ (h'.new hl) (f'.live l hl) upd_same (f'.new hl)⟩
  refine ⟨_, rfl, _, _, _, _, _, rfl, h.ob, T.cl_End, T.n_End_broken, ef_broken _ _, _, rfl, ?_⟩
  cases q : e.broken with
  | true =>
    rw [q] at k
    exact iteT (zero H h (.refl _ _ _) k)
  | false =>
    rw [q] at k
    simp only [Bool.false_eq_true, if_false] at k
    refine iteF ⟨_, rfl, _, _, _, rfl, h.ob, ef_no_beginning_is_due _ _, _, _, _, rfl, h, _, rfl, ?_⟩
    have nfoot : ∀ {H' : Hp} {l : Addr} {e' : Py}, EndAt ad.C_End H' p a e' → H' l = none → ¬ EndAt.foot p a l := by
      intro H' l e' h' hl z
      rcases z with rfl | rfl | rfl | rfl
      · rw [h'.ob] at hl; cases hl
      · rw [h'.h_written] at hl; cases hl
      · rw [h'.h_unread] at hl; cases hl
      · rw [h'.h_ahead] at hl; cases hl
    cases q1 : e.begDue with
    | true =>
      rw [q1] at k
      refine iteT ⟨_, rfl, _, _, _, rfl, h.ob, ef_no_send _ _, (by decide), fun l0 n0 => ?_⟩
      have h0 := h.new (o := .lst []) n0
      have f0 : Fr H (upd H l0 (.lst [])) p a a := (Fr.refl _ _ _).new n0
      exact ⟨p, l0, a, e, 1, [], rfl, h0, upd_same, nfoot h n0, .inr (.inl rfl), (by decide), fun l H' h' hl hl' f' => k l a H' h' (f0.live l hl) hl' (f0.trans f')⟩
    | false =>
      rw [q1] at k
      simp only [Bool.false_eq_true, if_false] at k
      refine iteF ⟨_, rfl, _, _, _, rfl, h.ob, ef_no_data_due _ _, _, rfl, _, _, rfl, rfl, p, a, e, n - 14, rfl, h, (by omega), hnx, fun ld H1 nld hd s1 => ?_⟩
      have h1 := h.same s1
      have f1 : Fr H H1 p a a := Fr.of_same s1
      have hdl : (e.due (n - 14)).length ≤ 536 := by
        unfold Py.due
        split
        · exact Nat.zero_le _
        · rw [List.length_take]
          omega
      generalize e.due (n - 14) = d at k hd hdl
      refine ⟨_, rfl, _, _, _, rfl, h1.ob, ef_no_end_is_due _ _, _, rfl, ld, _, rfl, .inl (SqL.of hd), p, a, e, _, rfl, h1, _, rfl, ?_⟩
      rw [List.length_map]
      cases q2 : e.endDue (d.length : Int) with
      | true =>
        rw [q2] at k
        exact iteT ⟨_, rfl, _, _, _, rfl, h1.ob, ef_no_send _ _, _, rfl, p, ld, a, e, 2, d, rfl, h1, hd, nfoot h nld, .inr (.inr rfl), (by omega), fun l H' h' hl hl' f' => k l a H' h' (f1.live l hl) hl' (f1.trans f')⟩
      | false =>
        rw [q2] at k
        simp only [Bool.false_eq_true, if_false] at k
        refine iteF (tCutT_of (decide (0 < d.length) || e.ansDue) ⟨_, rfl, ld, _, rfl, .inl (SqL.of hd), _, _, rfl, rfl, _, rfl, ?_⟩ ?_)
        · rw [List.length_map, show decide ((0 : Int) < (d.length : Int)) = decide (0 < d.length) by rw [decide_eq_decide]; omega]
          cases decide (0 < d.length) with
          | true => exact iteT ⟨rfl, rfl⟩
          | false => exact iteF ⟨_, rfl, _, _, _, rfl, h1.ob, ef_no_answer_is_due _ _, _, _, _, rfl, h1, _, rfl, rfl, rfl⟩
        · cases q3 : (decide (0 < d.length) || e.ansDue) with
          | true =>
            rw [q3] at k
            exact iteT ⟨_, rfl, _, _, _, rfl, h1.ob, ef_no_send _ _, _, rfl, p, ld, a, e, 0, d, rfl, h1, hd, nfoot h nld, .inl rfl, (by omega), fun l H' h' hl hl' f' => k l a H' h' (f1.live l hl) hl' (f1.trans f')⟩
          | false =>
            rw [q3] at k
            exact iteF (zero H1 h1 f1 k)
/-! ### tick, state -/
theorem ok_End_tick (T : Txt K mg ad) : FnOk P w K mg base CX0 3 ad.f_End_tick ad.fd_End_tick ["self", "passed"] (sp_doI ad.C_End (fun e _ => 0 ≤ e.patience ∧ e.patience ≤ 60000) Py.tick) := by
  have G_End_waits : FnOk P w K mg base CX0 _ ad.f_End_waits ad.fd_End_waits ["self"] _ := ok_End_waits T
  refine T.F_End_tick.ok sc_End_tick (fun vs H Q E h => ?_) (fun cdv A outer s H vs Q E hr h => ?_)
  · obtain ⟨p, a, e, n, rfl, _⟩ := h
    rfl
  obtain ⟨p, a, e, n, rfl, h, hp, k⟩ := h
  refine ⟨_, (pss_cons (ps_if (pt_val (pe_fld (pv 0) rfl))
      (pss_one (ps_ret (pe_lst (pa_cons pe_int pa_nil))))
      pss_nil)
      (pss_cons (ps_fld (pv 0) (pe_cut (pe_ifExp (pt_val (pe_meth0 (pv 0) T.cl_End T.m_End_waits G_End_waits (hr.mono (by decide)) T.b_End_waits .nil pass0)) (pe_op op_add (pe_fld (pv 0) rfl) (pv 1)) pe_int)) rfl)
      (pss_cons (ps_if (pt_cmpR op_lt (pe_fld (pv 0) rfl) (pe_fld (pv 0) rfl) (nomark _))
      (pss_one (ps_ret (pe_lst (pa_cons pe_int pa_nil))))
      pss_nil)
      (pss_cons (ps_fld (pv 0) (pe_fld (pv 0) rfl) rfl)
      (pss_cons (ps_fld (pv 0) pe_bl rfl)
      (pss_cons (ps_fld (pv 0) pe_int rfl)
      (pss_cons (ps_fld (pv 0) (pe_callB (call_min2 rfl) (by rfl) T.z_min (by first | rfl | decide +kernel) (pa_cons (pe_op op_mul (pe_fld (pv 0) rfl) pe_int) (pa_cons (pe_glob (by rfl) T.c_MOST_PATIENCE.1 T.c_MOST_PATIENCE.2) pa_nil))) rfl)
      (pss_one (ps_ret (pe_lst (pa_cons pe_int pa_nil))))))))))), ?_⟩
  unfold Py.tick at k
  simp only at k
  have one : ∀ (m : Int) (e' : Py) (H' : Hp), EndAt ad.C_End H' p a e' → Fr H H' p a a → (∀ (l : Addr) (a' : EA) (H' : Hp), EndAt ad.C_End H' p a' e' → H l = none → H' l = some (.lst ([m].map V.int)) → Fr H H' p a a' → Q (.ref l) H') →
      [V.int m].length ≤ sizeLine ∧ ∀ l, H' l = none → Q (.ref l) (upd H' l (.lst [.int m])) := fun m e' H' h' f' k => ⟨(show 1 ≤ sizeLine by decide), fun l hl => k l a _ (h'.new hl) (f'.live l hl) upd_same (f'.new hl)⟩
  refine ⟨_, rfl, _, _, _, _, _, rfl, h.ob, T.cl_End, T.n_End_broken, ef_broken _ _, _, rfl, ?_⟩
  cases q : e.broken with
  | true =>
    rw [if_pos q] at k
    exact iteT (one 0 e H h (.refl _ _ _) k)
  | false =>
    rw [if_neg (by rw [q]; decide)] at k
    refine iteF (tCutE_of (.int (if e.waits = true then e.waited + n else 0)) ⟨_, rfl, _, _, _, rfl, h.ob, ef_no_waits _ _, _, _, _, rfl, h, _, rfl, ?_⟩ ?_)
    · cases e.waits with
      | true => exact iteT ⟨_, rfl, _, _, _, _, _, rfl, h.ob, T.cl_End, T.n_End_waited, ef_waited _ _, _, rfl, _, _, rfl, rfl, rfl, rfl⟩
      | false => exact iteF ⟨rfl, rfl⟩
    generalize (if e.waits = true then e.waited + n else 0) = wt at k ⊢
    have h1 := h.put_waited wt
    refine ⟨_, rfl, _, _, _, _, rfl, h.ob, T.cl_End, T.n_End_waited, (show 18 < 1000 by decide), ?_⟩
    refine ⟨_, rfl, _, _, _, _, _, rfl, h1.ob, T.cl_End, T.n_End_waited, ef_waited _ _, _, rfl, _, _, _, _, _, rfl, h1.ob, T.cl_End, T.n_End_patience, ef_patience _ _, _, _, rfl, rfl, _, rfl, ?_⟩
    have f1 : Fr H (upd H p (.ins ad.C_End a.dx (putF "waited" (.int wt) (ef a e)))) p a a := (Fr.refl _ _ _).upd (.inl rfl)
    by_cases q1 : wt < e.patience
    · rw [if_pos q1] at k
      rw [decide_eq_true q1]
      exact iteT (one 0 _ _ h1 f1 k)
    · rw [if_neg q1] at k
      rw [decide_eq_false q1]
      refine iteF ⟨_, rfl, _, _, _, _, _, rfl, h1.ob, T.cl_End, T.n_End_acked, ef_acked _ _, _, rfl, _, _, _, _, rfl, h1.ob, T.cl_End, T.n_End_next_number, (show 18 < 1000 by decide), ?_⟩
      have h2 := h1.put_next_number e.acked
      refine ⟨_, rfl, _, _, _, _, rfl, h2.ob, T.cl_End, T.n_End_probe, (show 18 < 1000 by decide), ?_⟩
      have h3 := h2.put_probe true
      refine ⟨_, rfl, _, _, _, _, rfl, h3.ob, T.cl_End, T.n_End_waited, (show 18 < 1000 by decide), ?_⟩
      have h4 := h3.put_waited 0
      refine ⟨_, rfl, _, _, _, _, _, rfl, h4.ob, T.cl_End, T.n_End_patience, ef_patience _ _, _, _, rfl, rfl, .inr ⟨by decide, by decide⟩, _, _, rfl, ?_⟩
      rw [min_if]
      refine ⟨_, rfl, _, _, _, _, rfl, h4.ob, T.cl_End, T.n_End_patience, (show 18 < 1000 by decide), ?_⟩
      have h5 := h4.put_patience (min (e.patience * 2) 60000)
      exact one 1 _ _ h5 ((((f1.upd (.inl rfl)).upd (.inl rfl)).upd (.inl rfl)).upd (.inl rfl)) k
theorem ok_End_state (T : Txt K mg ad) : FnOk P w K mg base CX0 3 ad.f_End_state ad.fd_End_state ["self"] (sp_do ad.C_End fun e => (e, e.state)) := by
  have G_End_other_has_begun : FnOk P w K mg base CX0 _ ad.f_End_other_has_begun ad.fd_End_other_has_begun ["self"] _ := ok_End_other_has_begun T
  have G_End_end_number : FnOk P w K mg base CX0 _ ad.f_End_end_number ad.fd_End_end_number ["self"] _ := ok_End_end_number T
  have G_End_whole : FnOk P w K mg base CX0 _ ad.f_End_whole ad.fd_End_whole ["self"] _ := ok_End_whole T
  refine T.F_End_state.ok sc_End_state (fun vs H Q E h => ?_) (fun cdv A outer s H vs Q E hr h => ?_)
  · obtain ⟨p, a, e, rfl, _⟩ := h
    rfl
  obtain ⟨p, a, e, rfl, h, k⟩ := h
  refine ⟨_, (pss_cons (ps_if (pt_val (pe_fld (pv 0) rfl))
      (pss_one (ps_ret (pe_lst (pa_cons pe_int pa_nil))))
      pss_nil)
      (pss_cons (ps_if (pt_cut (pw_or (pt_not (pt_val (pe_meth0 (pv 0) T.cl_End T.m_End_other_has_begun G_End_other_has_begun (hr.mono (by decide)) T.b_End_other_has_begun .nil pass0))) (pw_or1 (pt_cmpR op_eq (pe_fld (pv 0) rfl) pe_int (nomark _)))).pt)
      (pss_one (ps_ret (pe_lst (pa_cons pe_int pa_nil))))
      pss_nil)
      (pss_cons (ps_set (i := 1) sc_End_state.nd rfl (Or.inl rfl) (pe_cmpR op_gt (pe_fld (pv 0) rfl) (pe_meth0 (pv 0) T.cl_End T.m_End_end_number G_End_end_number (hr.mono (by decide)) T.b_End_end_number .nil pass0) (nomark _)))
      (pss_one (ps_ret (pe_lst (pa_cons (pe_op op_add (pe_op op_add pe_int (pe_cut (pe_ifExp (pt_val (pe_meth0 (pv 0) T.cl_End T.m_End_whole G_End_whole (hr.mono (by decide)) T.b_End_whole .nil pass0)) pe_int pe_int))) (pe_cut (pe_ifExp (pt_val (pv 1)) pe_int pe_int))) pa_nil))))))), ?_⟩
  simp only [Py.state] at k
  have one : ∀ m : Int, (∀ (l : Addr) (a' : EA) (H' : Hp), EndAt ad.C_End H' p a' e → H l = none → H' l = some (.lst ([m].map V.int)) → Fr H H' p a a' → Q (.ref l) H') →
      [V.int m].length ≤ sizeLine ∧ ∀ l, H l = none → Q (.ref l) (upd H l (.lst [.int m])) := fun m k => ⟨(show 1 ≤ sizeLine by decide), fun l hl => k l a _ (h.new hl) hl upd_same ((Fr.refl _ _ _).new hl)⟩
  refine ⟨_, rfl, _, _, _, _, _, rfl, h.ob, T.cl_End, T.n_End_broken, ef_broken _ _, _, rfl, ?_⟩
  cases q : e.broken with
  | true =>
    rw [q] at k
    exact iteT (one 5 k)
  | false =>
    rw [q] at k
    simp only [Bool.false_eq_true, if_false] at k
    refine iteF (tCutT_of (!e.begun || decide (e.acked = 0)) ⟨_, rfl, _, _, _, rfl, h.ob, ef_no_other_has_begun _ _, _, _, _, rfl, h, _, rfl, ?_⟩ ?_)
    · cases e.begun with
      | false => exact iteT ⟨rfl, rfl⟩
      | true =>
        refine iteF ⟨_, rfl, _, _, _, _, _, rfl, h.ob, T.cl_End, T.n_End_acked, ef_acked _ _, rfl, _, rfl, ?_⟩
        rw [int_eq]
        exact ⟨rfl, rfl⟩
    · cases q1 : (!e.begun || decide (e.acked = 0)) with
      | true =>
        rw [q1] at k
        exact iteT (one 0 k)
      | false =>
        rw [q1] at k
        simp only [Bool.false_eq_true, if_false] at k
        refine iteF ⟨_, rfl, _, _, _, _, _, rfl, h.ob, T.cl_End, T.n_End_acked, ef_acked _ _, _, rfl, _, _, _, rfl, h.ob, ef_no_end_number _ _, _, _, _, rfl, h, _, _, rfl, rfl, ?_⟩
        refine tCutE_of (.int (if e.whole = true then 1 else 0)) ⟨_, rfl, _, _, _, rfl, h.ob, ef_no_whole _ _, _, _, _, rfl, h, _, rfl, ?_⟩ ⟨_, _, rfl, rfl, tCutE_of (.int (if e.endn < e.acked then 2 else 0)) ⟨_, rfl, _, rfl, ?_⟩ ⟨_, _, rfl, rfl, one _ k⟩⟩
        · cases e.whole with
          | true => exact iteT ⟨rfl, rfl⟩
          | false => exact iteF ⟨rfl, rfl⟩
        · by_cases z : e.endn < e.acked
          · rw [decide_eq_true z, if_pos z]
            exact iteT ⟨rfl, rfl⟩
          · rw [decide_eq_false z, if_neg z]
            exact iteF ⟨rfl, rfl⟩
end
end Pr
namespace Pr
open PySem L2
open Ty (Cl flat flats)
/-- has it a row -/
def hasRow (k : Int) : Bool := decide (k = 2) || decide (k = 5)
def width (k : Int) : Option Nat := if k = 1 then some 2 else if k = 3 then some 0 else if k = 4 then some 1 else if k = 6 then some 1 else if k = 7 then some 1 else if k = 8 then some 0 else none
theorem flat_row {c : Cl} (h : hasRow (kind c) = true) : flat c = kind c :: ((nums c).length : Int) :: nums c := by
  cases c <;> first | rfl | (simp [hasRow, kind] at h; done)
theorem flat_plain {c : Cl} (h : hasRow (kind c) = false) {n : Nat} (hw : width (kind c) = some n) : flat c = kind c :: nums c ∧ (nums c).length = n := by
  cases c <;> first | (simp [hasRow, kind] at h; done) | (simp [width, kind] at hw; subst hw; exact ⟨rfl, rfl⟩) | (simp [width, kind] at hw; done)
section
variable {P : Program} {w : World} {K : PySem.W.Frag} {mg : Str → Option Value} {base : Heap} {ad : Ad}
def sp_how : Sp := fun vs H Q _ => ∃ (kd : Int) (n : Nat), vs = [.int kd] ∧ width kd = some n ∧ ∀ H' : Hp, Same H H' → Q (.int n) H'
theorem ok_how_many_numbers (T : Txt K mg ad) : FnOk P w K mg base CX0 1 ad.f_how_many_numbers ad.fd_how_many_numbers ["kind"] sp_how := by
  refine T.F_how_many_numbers.ok sc_how_many_numbers (fun vs H Q E h => ?_) (fun cdv A outer s H vs Q E hr h => ?_)
  · obtain ⟨kd, n, rfl, _⟩ := h
    rfl
  · obtain ⟨kd, n, rfl, hw, k⟩ := h
    refine ⟨_, (pss_one (ps_ret (pe_dget (hu_of hr) (pe_disp (pps_cons (pe_glob (by rfl) T.c_OPEN.1 T.c_OPEN.2) pe_int (pps_cons (pe_glob (by rfl) T.c_CLOSE.1 T.c_CLOSE.2) pe_int (pps_cons (pe_glob (by rfl) T.c_READ.1 T.c_READ.2) pe_int (pps_cons (pe_glob (by rfl) T.c_OUT.1 T.c_OUT.2) pe_int (pps_cons (pe_glob (by rfl) T.c_TICK.1 T.c_TICK.2) pe_int (pps_cons (pe_glob (by rfl) T.c_STATE.1 T.c_STATE.2) pe_int pps_nil)))))) rfl rfl (by simp) (by decide)) (pv 0) (fun _ _ => rfl)))), ?_⟩
    intro p hp
    refine ⟨upd_same, [(.inl 1, .int 2), (.inl 3, .int 0), (.inl 4, .int 1), (.inl 6, .int 1), (.inl 7, .int 1), (.inl 8, .int 0)], rfl, by decide, _, rfl, p, .int n, rfl, ?_, ?_⟩
    · have e := DGet.k (k := Sum.inl kd) (H := upd (upd H p (.dK [])) p (.dK (mergeK [] [(Sum.inl 1, V.int 2), (Sum.inl 3, V.int 0), (Sum.inl 4, V.int 1), (Sum.inl 6, V.int 1), (Sum.inl 7, V.int 1), (Sum.inl 8, V.int 0)]))) (a := p) upd_same
      have z : valV (mergeK [] [((Sum.inl 1 : Key), V.int 2), (Sum.inl 3, V.int 0), (Sum.inl 4, V.int 1), (Sum.inl 6, V.int 1), (Sum.inl 7, V.int 1), (Sum.inl 8, V.int 0)]) (Sum.inl kd) = some (.int n) := by
        unfold width at hw
        split at hw
        · rename_i q; subst q; cases hw; rfl
        split at hw
        · rename_i q; subst q; cases hw; rfl
        split at hw
        · rename_i q; subst q; cases hw; rfl
        split at hw
        · rename_i q; subst q; cases hw; rfl
        split at hw
        · rename_i q; subst q; cases hw; rfl
        split at hw
        · rename_i q; subst q; cases hw; rfl
        · cases hw
      rw [z] at e
      exact e
    · exact k _ fun b o hb => by rw [upd_ne (ne_of_none hb hp), upd_ne (ne_of_none hb hp)]; exact hb
/-- a part as it was made: the tuple at t, its list at r; both new since H -/
structure PartAt (H H2 : Hp) (l t : Addr) (c : Cl) : Prop where
  nt : H t = none
  ex : ∃ r, H r = none ∧ r ≠ l ∧ H2 t = some (.tup [.int (kind c), .ref r]) ∧ H2 r = some (.lst ((nums c).map V.int))
structure Parts (H H2 : Hp) (l : Addr) (ts : List Addr) (cs : List Cl) : Prop where
  len : ts.length = cs.length
  at_ : ∀ (i : Nat) (t : Addr) (c : Cl), ts[i]? = some t → cs[i]? = some c → PartAt H H2 l t c
theorem Parts.nil (H H2 : Hp) (l : Addr) : Parts H H2 l [] [] := ⟨rfl, fun i t c h _ => by simp at h⟩
theorem PartAt.keep {H H2 H3 : Hp} {l t : Addr} {c : Cl} (h : PartAt H H2 l t c) (k : ∀ b o, H2 b = some o → b ≠ l → H3 b = some o) (hl : ∃ xs, H2 l = some (.lst xs)) : PartAt H H3 l t c := by
  obtain ⟨nt, r, nr, nl, h1, h2⟩ := h
  obtain ⟨xs, hl⟩ := hl
  exact ⟨nt, r, nr, nl, k _ _ h1 (ne_of h1 hl (by intro z; cases z)), k _ _ h2 nl⟩
theorem Parts.snoc {H H2 H3 : Hp} {l t : Addr} {c : Cl} {ts : List Addr} {cs : List Cl} (h : Parts H H2 l ts cs) (k : ∀ b o, H2 b = some o → b ≠ l → H3 b = some o) (hl : ∃ xs, H2 l = some (.lst xs)) (p : PartAt H H3 l t c) :
    Parts H H3 l (ts ++ [t]) (cs ++ [c]) := by
  refine ⟨by rw [List.length_append, List.length_append, h.len]; rfl, fun i t' c' h1 h2 => ?_⟩
  by_cases q : i < ts.length
  · rw [List.getElem?_append_left q] at h1
    rw [List.getElem?_append_left (by rw [← h.len]; exact q)] at h2
    exact (h.at_ i t' c' h1 h2).keep k hl
  · rw [List.getElem?_append_right (by omega)] at h1
    rw [List.getElem?_append_right (by rw [← h.len]; omega), ← h.len] at h2
    cases e : i - ts.length with
    | zero =>
      rw [e] at h1 h2
      simp at h1 h2
      subst h1 h2
      exact p
    | succ j =>
      rw [e] at h1
      simp at h1
theorem cut_mid (pre mid post : List V) (x y : Int) (hx : x = (pre.length : Int)) (hy : y = ((pre.length + mid.length : Nat) : Int)) : cutV (pre ++ (mid ++ post)) (some x) (some y) = mid := by
  subst hx hy
  unfold cutV
  rw [HT.sIx_nat, HT.sIx_nat]
  have e1 : min pre.length (pre ++ (mid ++ post)).length = pre.length := by rw [List.length_append]; omega
  have e2 : min (pre.length + mid.length) (pre ++ (mid ++ post)).length = pre.length + mid.length := by rw [List.length_append, List.length_append]; omega
  rw [e1, e2, List.drop_left, show pre.length + mid.length - pre.length = mid.length by omega, List.take_left]
def sp_split (K : PySem.W.Frag) : Sp := fun vs H Q _ => ∃ (a : Addr) (cs : List Cl), vs = [.ref a] ∧ SqL K H a ((flats cs).map V.int) ∧ (flats cs).length ≤ 30000 ∧ (∀ c ∈ cs, hasRow (kind c) = true ∨ (width (kind c)).isSome = true) ∧
  ∀ (l : Addr) (ts : List Addr) (H' : Hp), H l = none → H' l = some (.lst (ts.map V.ref)) → Parts H H' l ts cs → Same H H' → Q (.ref l) H'
theorem flats_app : ∀ xs ys : List Cl, flats (xs ++ ys) = flats xs ++ flats ys
  | [], _ => rfl
  | x :: xs, ys => by
    show flat x ++ flats (xs ++ ys) = (flat x ++ flats xs) ++ flats ys
    rw [flats_app xs ys, List.append_assoc]
theorem length_flats : ∀ xs : List Cl, xs.length ≤ (flats xs).length
  | [] => Nat.le_refl _
  | x :: xs => by
    have := length_flats xs
    show xs.length + 1 ≤ (flat x ++ flats xs).length
    rw [List.length_append]
    have : 0 < (flat x).length := by cases x <;> exact Nat.succ_pos _
    omega
theorem flat_ne (c : Cl) : flat c = kind c :: (flat c).tail := by cases c <;> rfl
theorem ok_split_calls (T : Txt K mg ad) : FnOk P w K mg base CX0 2 ad.f_split_calls ad.fd_split_calls ["calls"] (sp_split K) := by
  have G_how_many_numbers : FnOk P w K mg base CX0 _ ad.f_how_many_numbers ad.fd_how_many_numbers ["kind"] sp_how := ok_how_many_numbers T
  refine T.F_split_calls.ok sc_split_calls (fun vs H Q E h => ?_) (fun cdv A outer s H vs Q E hr h => ?_)
  · obtain ⟨a, cs, rfl, _⟩ := h
    rfl
  · obtain ⟨a, cs, rfl, hS, hlen, hcs, k⟩ := h
    refine ⟨_, (pss_cons (ps_set (i := 1) sc_split_calls.nd rfl (Or.inl rfl) (pe_lst pa_nil))
      (pss_cons (ps_set (i := 2) sc_split_calls.nd rfl (Or.inl rfl) pe_int)
      (pss_cons (ps_while PassesOwn.never (pt_cut (pt_cmpR op_lt (pv 2) (pe_callB call_len_seq (by rfl) T.z_len PySem.boot_len (pa_cons (pv 0) pa_nil)) (nomark _)))
      (pss_cons (ps_set (i := 3) sc_split_calls.nd rfl (Or.inl rfl) (pe_ix ix_list (pv 0) (pv 2) (fun _ _ => rfl)))
      (pss_cons (ps_cut (ps_if (pt_cut (pw_or (pt_cmpR op_eq (pv 3) (pe_glob (by rfl) T.c_WRITE.1 T.c_WRITE.2) (nomark _)) (pw_or1 (pt_cmpR op_eq (pv 3) (pe_glob (by rfl) T.c_IN.1 T.c_IN.2) (nomark _)))).pt)
      (pss_cons (ps_set (i := 4) sc_split_calls.nd rfl (Or.inl rfl) (pe_op op_add (pv 2) pe_int))
      (pss_one (ps_set (i := 5) sc_split_calls.nd rfl (Or.inl rfl) (pe_op op_add (pv 4) (pe_ix ix_list (pv 0) (pe_op op_add (pv 2) pe_int) (fun _ _ => rfl))))))
      (pss_cons (ps_set (i := 4) sc_split_calls.nd rfl (Or.inl rfl) (pe_op op_add (pv 2) pe_int))
      (pss_one (ps_set (i := 5) sc_split_calls.nd rfl (Or.inl rfl) (pe_op op_add (pv 4) (pe_call G_how_many_numbers (hr.mono (by decide)) (by rfl) T.g_how_many_numbers T.F_how_many_numbers.kp T.b_how_many_numbers .nil pass0 (pa_cons (pv 3) pa_nil))))))))
      (pss_cons (ps_expr (pe_bm PySem.F.plainAttrs_list PySem.F.slot_list_append PySem.F.type_list_append mt_append (pv 1) (pa_cons (pe_tup (pa_cons (pv 3) (pa_cons (pe_slice sl_list (pv 0) (po_some (pv 4)) (po_some (pv 5))) pa_nil))) pa_nil)))
      (pss_one (ps_set (i := 2) sc_split_calls.nd rfl (Or.inl rfl) (pv 5)))))))
      (pss_one (ps_ret (pv 1)))))), ?_⟩
    refine ⟨(by decide), fun l hl => ?_⟩
    refine while_cut (fun σ H2 => ∃ (done rest : List Cl) (ts : List Addr) (v1 v2 v3 : Option V), cs = done ++ rest ∧ σ = [some (.ref a), some (.ref l), some (.int ((flats done).length : Int)), v1, v2, v3] ∧
      Same H H2 ∧ H2 l = some (.lst (ts.map V.ref)) ∧ Parts H H2 l ts done) (fun σ _ => match σ with | [_, _, some (.int i), _, _, _] => 30000 - i.toNat | _ => 0) ?_ ?_
    · exact ⟨[], cs, [], none, none, none, rfl, rfl, fun b o hb => by rw [upd_ne (ne_of_none hb hl)]; exact hb, upd_same, .nil _ _ _⟩
    · rintro σ H2 ⟨done, rest, ts, v1, v2, v3, e, rfl, s2, h2, pt⟩
      have hS2 := s2.seq hS
      refine tCutT_of (decide ((flats done).length < (flats cs).length)) ⟨_, rfl, _, rfl, a, _, rfl, .inl hS2, _, _, rfl, rfl, _, rfl, (by simp), rfl⟩ ?_
      cases rest with
      | nil =>
        rw [List.append_nil] at e
        subst e
        rw [decide_eq_false (by omega)]
        exact iteF ⟨_, rfl, k l ts H2 hl h2 pt s2⟩
      | cons c rest =>
        have e1 : flats cs = flats done ++ (flat c ++ flats rest) := by rw [e, flats_app]; rfl
        have hpos : 0 < (flat c).length := by rw [flat_ne]; exact Nat.succ_pos _
        have hln : (flats cs).length = (flats done).length + ((flat c).length + (flats rest).length) := by rw [e1, List.length_append, List.length_append]
        rw [decide_eq_true (by omega)]
        refine iteT ?_
        -- kind = calls[at]
        have ix : ∀ (j : Nat) (x : Int), (flat c)[j]? = some x → atI ((flats cs).map V.int) (((flats done).length + j : Nat) : Int) = some (.int x) := fun j x hx => by
          refine atI_nat ?_
          rw [List.getElem?_map, e1, List.getElem?_append_right (by omega), show (flats done).length + j - (flats done).length = j by omega,
            List.getElem?_append_left (List.getElem?_eq_some_iff.mp hx).1, hx]
          rfl
        refine ⟨_, rfl, _, rfl, a, _, _, _, rfl, rfl, hS2, (by simpa using ix 0 (kind c) (by rw [flat_ne]; rfl)), ?_⟩
        -- start, stop
        refine ⟨fun σ' H3 => ∃ (x y : Int) (pre : List Int), σ' = [some (.ref a), some (.ref l), some (.int ((flats done).length : Int)), some (.int (kind c)), some (.int x), some (.int y)] ∧ Same H2 H3 ∧
          flat c = pre ++ nums c ∧ x = ((flats done).length : Int) + pre.length ∧ y = ((flats done).length : Int) + (flat c).length, ?_, ?_⟩
        · refine tCutT_of (hasRow (kind c)) ⟨_, rfl, rfl, _, rfl, ?_⟩ ?_
          · unfold hasRow
            rw [int_eq]
            cases decide (kind c = 2) with
            | true => exact iteT ⟨rfl, rfl⟩
            | false =>
              refine iteF ⟨_, rfl, rfl, _, rfl, ?_⟩
              rw [int_eq]
              exact ⟨rfl, rfl⟩
          by_cases hk : hasRow (kind c) = true
          · have ef := flat_row hk
            rw [hk]
            refine iteT ⟨_, rfl, _, _, rfl, rfl, _, rfl, _, rfl, _, rfl, _, _, rfl, rfl, a, _, _, _, rfl, rfl, hS2, (by simpa using ix 1 ((nums c).length : Int) (by rw [ef]; rfl)), _, _, rfl, rfl, ?_⟩
            refine ⟨_, _, [kind c, ((nums c).length : Int)], rfl, .refl _, ef, by simp, ?_⟩
            rw [ef]
            simp
            omega
          · have hk' : hasRow (kind c) = false := by simpa using hk
            have hw := (hcs c (by rw [e]; simp)).resolve_left hk
            obtain ⟨n, hn⟩ := Option.isSome_iff_exists.mp hw
            obtain ⟨ef, en⟩ := flat_plain hk' hn
            rw [hk']
            refine iteF ⟨_, rfl, _, _, rfl, rfl, _, rfl, _, rfl, kind c, n, rfl, hn, fun H3 s3 => ⟨_, _, rfl, rfl, ?_⟩⟩
            refine ⟨_, _, [kind c], rfl, s3, ef, by simp, ?_⟩
            rw [ef]
            simp
            omega
        · rintro σ' H3 ⟨x, y, pre, rfl, s3, ef, ex, ey⟩
          have hS3 := s3.seq hS2
          have hl3 := s3 _ _ h2
          refine ⟨_, rfl, .inl ⟨rfl, _, SqL.of hl3⟩, _, rfl, _, rfl, _, rfl, x, rfl, _, rfl, y, rfl, a, _, rfl, hS3, fun r hr' => ⟨(show 2 ≤ sizeLine by decide), fun t ht => ?_⟩⟩
          have ecut : cutV ((flats cs).map V.int) (some x) (some y) = (nums c).map V.int := by
            have e4 : (flats cs).map V.int = ((flats done ++ pre).map V.int) ++ ((nums c).map V.int ++ (flats rest).map V.int) := by
              rw [e1, ef]
              simp
            rw [e4]
            refine cut_mid _ _ _ _ _ ?_ ?_
            · simp [ex]
            · rw [ey, ef]
              simp
              omega
          rw [ecut]
          rw [ecut] at ht
          have nlr : l ≠ r := ne_of_none hl3 hr'
          have hl4 : upd H3 r (.lst ((nums c).map V.int)) l = some (.lst (ts.map V.ref)) := by rw [upd_ne nlr]; exact hl3
          have nlt : l ≠ t := ne_of_none hl4 ht
          have nrt : r ≠ t := ne_of_none upd_same ht
          have hts : ts.length ≤ 30000 := by
            have h5 := length_flats done
            have h6 := pt.len
            omega
          refine ⟨l, ts.map V.ref, .ref t, rfl, rfl, (by rw [upd_ne nlt]; exact hl4), ?_, _, rfl, ?_⟩
          · rw [List.length_map]
            exact Nat.lt_of_le_of_lt hts (by decide)
          -- the turn's end
          have keep : ∀ b o, H2 b = some o → b ≠ l → upd (upd (upd H3 r (.lst ((nums c).map V.int))) t (.tup [.int (kind c), .ref r])) l (.lst (ts.map V.ref ++ [.ref t])) b = some o := fun b o hb hn => by
            have h3 := s3 _ _ hb
            have h4 : upd H3 r (.lst ((nums c).map V.int)) b = some o := by rw [upd_ne (ne_of_none h3 hr')]; exact h3
            rw [upd_ne hn, upd_ne (ne_of_none h4 ht)]
            exact h4
          have s23 := s2.trans s3
          have hr0 : H r = none := s23.free hr'
          have ht0 : H t = none := s23.free (by rw [upd_ne nrt.symm] at ht; exact ht)
          refine ⟨⟨done ++ [c], rest, ts ++ [t], some (.int (kind c)), some (.int x), some (.int y), by rw [e, List.append_assoc]; rfl, ?_, fun b o hb => keep b o (s2 b o hb) (ne_of_none hb hl), ?_, pt.snoc keep ⟨_, h2⟩ ⟨ht0, r, hr0, nlr.symm, ?_, ?_⟩⟩, ?_⟩
          · rw [ey, flats_app]
            simp [flats]
          · rw [upd_same]
            simp
          · rw [upd_ne nlt.symm, upd_same]
          · rw [upd_ne nlr.symm, upd_ne nrt, upd_same]
          · show 30000 - y.toNat < 30000 - ((flats done).length : Int).toNat
            omega
end
end Pr
namespace Pr
open PySem L2
open Ty (Cl flat flats Ok spec due one)
section
variable {P : Program} {w : World} {K : PySem.W.Frag} {mg : Str → Option Value} {base : Heap} {ad : Ad}
/-! ### ranges -/
def sp_inr : Sp := fun vs H Q _ => ∃ (r : Addr) (c : Cl), vs = [.int (kind c), .ref r] ∧ H r = some (.lst ((nums c).map V.int)) ∧ Q (.bl (rangeOk c)) H
theorem ok_in_range (T : Txt K mg ad) : FnOk P w K mg base CX0 1 ad.f_in_range ad.fd_in_range ["kind", "handed"] sp_inr := by
  refine T.F_in_range.ok sc_in_range (fun vs H Q E h => ?_) (fun cdv A outer s H vs Q E hr h => ?_)
  · obtain ⟨r, c, rfl, _⟩ := h
    rfl
  · obtain ⟨r, c, rfl, hx, k⟩ := h
    refine ⟨_, (pss_cons (ps_if (pt_cmpR op_eq (pv 0) (pe_glob (by rfl) T.c_OPEN.1 T.c_OPEN.2) (nomark _))
      (pss_one (ps_ret (pe_chain op_le op_le pe_int (pe_ix ix_list (pv 1) pe_int (fun _ _ => rfl)) pe_int)))
      pss_nil)
      (pss_cons (ps_if (pt_cmpR op_eq (pv 0) (pe_glob (by rfl) T.c_READ.1 T.c_READ.2) (nomark _))
      (pss_one (ps_ret (pe_chain op_le op_le pe_int (pe_ix ix_list (pv 1) pe_int (fun _ _ => rfl)) (pe_glob (by rfl) T.c_MOST_READ.1 T.c_MOST_READ.2))))
      pss_nil)
      (pss_cons (ps_if (pt_cmpR op_eq (pv 0) (pe_glob (by rfl) T.c_OUT.1 T.c_OUT.2) (nomark _))
      (pss_one (ps_ret (pe_chain op_le op_le (pe_glob (by rfl) T.c_HEAD.1 T.c_HEAD.2) (pe_ix ix_list (pv 1) pe_int (fun _ _ => rfl)) (pe_glob (by rfl) T.c_LONGEST_SEGMENT.1 T.c_LONGEST_SEGMENT.2))))
      pss_nil)
      (pss_cons (ps_if (pt_cmpR op_eq (pv 0) (pe_glob (by rfl) T.c_TICK.1 T.c_TICK.2) (nomark _))
      (pss_one (ps_ret (pe_chain op_le op_le pe_int (pe_ix ix_list (pv 1) pe_int (fun _ _ => rfl)) (pe_glob (by rfl) T.c_LONGEST_TICK.1 T.c_LONGEST_TICK.2))))
      pss_nil)
      (pss_one (ps_ret pe_bl)))))), ?_⟩
    refine ⟨_, rfl, rfl, _, rfl, ?_⟩
    have chain : ∀ (lo x m : Int) (H : Hp), (Q (.bl (decide (lo ≤ x) && decide (x ≤ m))) H) → (if decide (lo ≤ x) = true then (∃ i j, V.int x = .int i ∧ V.int m = .int j ∧ Q (.bl (decide (i ≤ j))) H) else Q (.bl false) H) := fun lo x m H q => by
      cases z : decide (lo ≤ x) with
      | true =>
        rw [z] at q
        exact iteT ⟨_, _, rfl, rfl, q⟩
      | false =>
        rw [z] at q
        exact iteF q
    cases c with
    | opn f c => exact iteT ⟨_, rfl, r, _, _, _, rfl, rfl, SqL.of hx, rfl, _, _, rfl, rfl, _, rfl, chain _ _ _ _ k⟩
    | rd n => exact iteF ⟨_, rfl, rfl, _, rfl, iteT ⟨_, rfl, r, _, _, _, rfl, rfl, SqL.of hx, rfl, _, _, rfl, rfl, _, rfl, chain _ _ _ _ k⟩⟩
    | out n => exact iteF ⟨_, rfl, rfl, _, rfl, iteF ⟨_, rfl, rfl, _, rfl, iteT ⟨_, rfl, r, _, _, _, rfl, rfl, SqL.of hx, rfl, _, _, rfl, rfl, _, rfl, chain _ _ _ _ k⟩⟩⟩
    | tick n => exact iteF ⟨_, rfl, rfl, _, rfl, iteF ⟨_, rfl, rfl, _, rfl, iteF ⟨_, rfl, rfl, _, rfl, iteT ⟨_, rfl, r, _, _, _, rfl, rfl, SqL.of hx, rfl, _, _, rfl, rfl, _, rfl, chain _ _ _ _ k⟩⟩⟩⟩
    | _ => exact iteF ⟨_, rfl, rfl, _, rfl, iteF ⟨_, rfl, rfl, _, rfl, iteF ⟨_, rfl, rfl, _, rfl, iteF k⟩⟩⟩
/-! ### one call -/
def sp_ac (C : Addr) : Sp := fun vs H Q _ => ∃ (p r : Addr) (a : EA) (e : Py) (c : Cl), vs = [.ref p, .int (kind c), .ref r] ∧ EndAt C H p a e ∧ H r = some (.lst ((nums c).map V.int)) ∧ ¬ EndAt.foot p a r ∧ Pre e c ∧
  ∀ (l : Addr) (a' : EA) (H' : Hp), EndAt C H' p a' (e.step c).1 → H l = none → H' l = some (.lst ((e.step c).2.map V.int)) → Fr H H' p a a' → Q (.ref l) H'
theorem ok_answer_call (T : Txt K mg ad) : FnOk P w K mg base CX0 7 ad.f_answer_call ad.fd_answer_call ["end", "kind", "handed"] (sp_ac ad.C_End) := by
  have G_End_write : FnOk P w K mg base CX0 _ ad.f_End_write ad.fd_End_write ["self", "row"] _ := ok_End_write T
  have G_End_close : FnOk P w K mg base CX0 _ ad.f_End_close ad.fd_End_close ["self"] _ := ok_End_close T
  have G_End_read : FnOk P w K mg base CX0 _ ad.f_End_read ad.fd_End_read ["self", "most"] _ := ok_End_read T
  have G_End_take_in : FnOk P w K mg base CX0 _ ad.f_End_take_in ad.fd_End_take_in ["self", "segment"] _ := ok_End_take_in T
  have G_End_out : FnOk P w K mg base CX0 _ ad.f_End_out ad.fd_End_out ["self", "most"] _ := ok_End_out T
  have G_End_tick : FnOk P w K mg base CX0 _ ad.f_End_tick ad.fd_End_tick ["self", "passed"] _ := ok_End_tick T
  have G_End_state : FnOk P w K mg base CX0 _ ad.f_End_state ad.fd_End_state ["self"] _ := ok_End_state T
  refine T.F_answer_call.ok sc_answer_call (fun vs H Q E h => ?_) (fun cdv A outer s H vs Q E hr h => ?_)
  · obtain ⟨p, r, a, e, c, rfl, _⟩ := h
    rfl
  · obtain ⟨p, r, a, e, c, rfl, h, hx, hnf, hp, k⟩ := h
    refine ⟨_, (pss_cons (ps_if (pt_cmpR op_eq (pv 1) (pe_glob (by rfl) T.c_WRITE.1 T.c_WRITE.2) (nomark _))
      (pss_one (ps_ret (pe_meth (pv 0) T.cl_End T.m_End_write G_End_write (hr.mono (by decide)) T.b_End_write .nil pass0 (pa_cons (pv 2) pa_nil))))
      pss_nil)
      (pss_cons (ps_if (pt_cmpR op_eq (pv 1) (pe_glob (by rfl) T.c_CLOSE.1 T.c_CLOSE.2) (nomark _))
      (pss_one (ps_ret (pe_meth0 (pv 0) T.cl_End T.m_End_close G_End_close (hr.mono (by decide)) T.b_End_close .nil pass0)))
      pss_nil)
      (pss_cons (ps_if (pt_cmpR op_eq (pv 1) (pe_glob (by rfl) T.c_READ.1 T.c_READ.2) (nomark _))
      (pss_one (ps_ret (pe_meth (pv 0) T.cl_End T.m_End_read G_End_read (hr.mono (by decide)) T.b_End_read .nil pass0 (pa_cons (pe_ix ix_list (pv 2) pe_int (fun _ _ => rfl)) pa_nil))))
      pss_nil)
      (pss_cons (ps_if (pt_cmpR op_eq (pv 1) (pe_glob (by rfl) T.c_IN.1 T.c_IN.2) (nomark _))
      (pss_one (ps_ret (pe_meth (pv 0) T.cl_End T.m_End_take_in G_End_take_in (hr.mono (by decide)) T.b_End_take_in .nil pass0 (pa_cons (pv 2) pa_nil))))
      pss_nil)
      (pss_cons (ps_if (pt_cmpR op_eq (pv 1) (pe_glob (by rfl) T.c_OUT.1 T.c_OUT.2) (nomark _))
      (pss_one (ps_ret (pe_meth (pv 0) T.cl_End T.m_End_out G_End_out (hr.mono (by decide)) T.b_End_out .nil pass0 (pa_cons (pe_ix ix_list (pv 2) pe_int (fun _ _ => rfl)) pa_nil))))
      pss_nil)
      (pss_cons (ps_if (pt_cmpR op_eq (pv 1) (pe_glob (by rfl) T.c_TICK.1 T.c_TICK.2) (nomark _))
      (pss_one (ps_ret (pe_meth (pv 0) T.cl_End T.m_End_tick G_End_tick (hr.mono (by decide)) T.b_End_tick .nil pass0 (pa_cons (pe_ix ix_list (pv 2) pe_int (fun _ _ => rfl)) pa_nil))))
      pss_nil)
      (pss_cons (ps_if (pt_cmpR op_eq (pv 1) (pe_glob (by rfl) T.c_STATE.1 T.c_STATE.2) (nomark _))
      (pss_one (ps_ret (pe_meth0 (pv 0) T.cl_End T.m_End_state G_End_state (hr.mono (by decide)) T.b_End_state .nil pass0)))
      pss_nil)
      (pss_one (ps_ret (pe_lst (pa_cons pe_int pa_nil))))))))))), ?_⟩
    refine ⟨_, rfl, rfl, _, rfl, ?_⟩
    have last : (∀ (l : Addr) (a' : EA) (H' : Hp), EndAt ad.C_End H' p a' e → H l = none → H' l = some (.lst ([0].map V.int)) → Fr H H' p a a' → Q (.ref l) H') → [V.int 0].length ≤ sizeLine ∧ ∀ l, H l = none → Q (.ref l) (upd H l (.lst [.int 0])) := fun k =>
      ⟨(show 1 ≤ sizeLine by decide), fun l hl => k l a _ (h.new hl) hl upd_same ((Fr.refl _ _ _).new hl)⟩
    cases c with
    | wr b => exact iteT ⟨_, rfl, p, _, _, rfl, h.ob, ef_no_write _ _, _, rfl, p, r, a, e, b, rfl, h, hx, hp, k⟩
    | cls => exact iteF ⟨_, rfl, rfl, _, rfl, iteT ⟨_, rfl, p, _, _, rfl, h.ob, ef_no_close _ _, p, a, e, rfl, h, k⟩⟩
    | rd n => exact iteF ⟨_, rfl, rfl, _, rfl, iteF ⟨_, rfl, rfl, _, rfl, iteT ⟨_, rfl, p, _, _, rfl, h.ob, ef_no_read _ _, _, rfl, r, _, _, _, rfl, rfl, SqL.of hx, rfl, p, a, e, n, rfl, h, hp, k⟩⟩⟩
    | inn b => exact iteF ⟨_, rfl, rfl, _, rfl, iteF ⟨_, rfl, rfl, _, rfl, iteF ⟨_, rfl, rfl, _, rfl, iteT ⟨_, rfl, p, _, _, rfl, h.ob, ef_no_take_in _ _, _, rfl, p, r, a, e, b, rfl, h, hx, hnf, hp, k⟩⟩⟩⟩
    | out n => exact iteF ⟨_, rfl, rfl, _, rfl, iteF ⟨_, rfl, rfl, _, rfl, iteF ⟨_, rfl, rfl, _, rfl, iteF ⟨_, rfl, rfl, _, rfl, iteT ⟨_, rfl, p, _, _, rfl, h.ob, ef_no_out _ _, _, rfl, r, _, _, _, rfl, rfl, SqL.of hx, rfl, p, a, e, n, rfl, h, hp, k⟩⟩⟩⟩⟩
    | tick n => exact iteF ⟨_, rfl, rfl, _, rfl, iteF ⟨_, rfl, rfl, _, rfl, iteF ⟨_, rfl, rfl, _, rfl, iteF ⟨_, rfl, rfl, _, rfl, iteF ⟨_, rfl, rfl, _, rfl, iteT ⟨_, rfl, p, _, _, rfl, h.ob, ef_no_tick _ _, _, rfl, r, _, _, _, rfl, rfl, SqL.of hx, rfl, p, a, e, n, rfl, h, hp, k⟩⟩⟩⟩⟩⟩
    | state => exact iteF ⟨_, rfl, rfl, _, rfl, iteF ⟨_, rfl, rfl, _, rfl, iteF ⟨_, rfl, rfl, _, rfl, iteF ⟨_, rfl, rfl, _, rfl, iteF ⟨_, rfl, rfl, _, rfl, iteF ⟨_, rfl, rfl, _, rfl, iteT ⟨_, rfl, p, _, _, rfl, h.ob, ef_no_state _ _, p, a, e, rfl, h, k⟩⟩⟩⟩⟩⟩⟩
    | opn f z => exact iteF ⟨_, rfl, rfl, _, rfl, iteF ⟨_, rfl, rfl, _, rfl, iteF ⟨_, rfl, rfl, _, rfl, iteF ⟨_, rfl, rfl, _, rfl, iteF ⟨_, rfl, rfl, _, rfl, iteF ⟨_, rfl, rfl, _, rfl, iteF (last k)⟩⟩⟩⟩⟩⟩
/-! ### a new end -/
def sp_init (C : Addr) : Sp := fun vs H Q _ => ∃ (p dx : Addr) (f : Int) (c : Bool), vs = [.ref p, .int f, .bl c] ∧ H p = some (.ins C dx []) ∧
  ∀ (a : EA) (H' : Hp), EndAt C H' p a (.made f c) → (∀ b o, H b = some o → b ≠ p → H' b = some o) → (∀ b, EndAt.foot p a b → b = p ∨ H b = none) → Q .non H'
theorem put_le {f : Str} {v : V} {fs : List (Str × V)} {n : Nat} (h : fs.length ≤ n) : (putF f v fs).length ≤ n + 1 := Nat.le_trans (length_putF f v fs) (Nat.succ_le_succ h)
theorem ok_End_init (T : Txt K mg ad) : FnOk P w K mg base CX0 1 ad.f_End_init ad.fd_End_init ["self", "first", "calling"] (sp_init ad.C_End) := by
  refine T.F_End_init.ok sc_End_init (fun vs H Q E h => ?_) (fun cdv A outer s H vs Q E hr h => ?_)
  · obtain ⟨p, dx, f, c, rfl, _⟩ := h
    rfl
  · obtain ⟨p, dx, f, c, rfl, hp, k⟩ := h
    refine ⟨_, (pss_cons (ps_fld (pv 0) (pv 1) rfl)
      (pss_cons (ps_fld (pv 0) (pv 2) rfl)
      (pss_cons (ps_fld (pv 0) (pe_lst pa_nil) rfl)
      (pss_cons (ps_fld (pv 0) pe_bl rfl)
      (pss_cons (ps_fld (pv 0) pe_int rfl)
      (pss_cons (ps_fld (pv 0) pe_int rfl)
      (pss_cons (ps_fld (pv 0) pe_int rfl)
      (pss_cons (ps_fld (pv 0) pe_int rfl)
      (pss_cons (ps_fld (pv 0) pe_non rfl)
      (pss_cons (ps_fld (pv 0) pe_int rfl)
      (pss_cons (ps_fld (pv 0) (pe_lst pa_nil) rfl)
      (pss_cons (ps_fld (pv 0) pe_dnewK rfl)
      (pss_cons (ps_fld (pv 0) pe_non rfl)
      (pss_cons (ps_fld (pv 0) pe_bl rfl)
      (pss_cons (ps_fld (pv 0) pe_int rfl)
      (pss_cons (ps_fld (pv 0) (pe_glob (by rfl) T.c_FIRST_PATIENCE.1 T.c_FIRST_PATIENCE.2) rfl)
      (pss_cons (ps_fld (pv 0) pe_bl rfl)
      (pss_one (ps_fld (pv 0) pe_bl rfl))))))))))))))))))), ?_⟩
    refine ⟨_, rfl, _, rfl, p, _, _, _, rfl, hp, T.cl_End, T.n_End_first, (Nat.lt_of_le_of_lt (Nat.le_refl 0) (by decide)), ?_⟩
    refine ⟨_, rfl, _, rfl, p, _, _, _, rfl, upd_same, T.cl_End, T.n_End_calling, (Nat.lt_of_le_of_lt (put_le (Nat.le_refl 0)) (by decide)), ?_⟩
    refine ⟨(by decide), fun lw hlw => ?_⟩
    have nw : p ≠ lw := ne_of_none upd_same hlw
    refine ⟨_, rfl, p, _, _, _, rfl, (by rw [upd_ne nw, upd_same]), T.cl_End, T.n_End_written, (Nat.lt_of_le_of_lt (put_le (put_le (Nat.le_refl 0))) (by decide)), ?_⟩
    refine ⟨_, rfl, p, _, _, _, rfl, upd_same, T.cl_End, T.n_End_closed, (Nat.lt_of_le_of_lt (put_le (put_le (put_le (Nat.le_refl 0)))) (by decide)), ?_⟩
    refine ⟨_, rfl, p, _, _, _, rfl, upd_same, T.cl_End, T.n_End_acked, (Nat.lt_of_le_of_lt (put_le (put_le (put_le (put_le (Nat.le_refl 0))))) (by decide)), ?_⟩
    refine ⟨_, rfl, p, _, _, _, rfl, upd_same, T.cl_End, T.n_End_next_number, (Nat.lt_of_le_of_lt (put_le (put_le (put_le (put_le (put_le (Nat.le_refl 0)))))) (by decide)), ?_⟩
    refine ⟨_, rfl, p, _, _, _, rfl, upd_same, T.cl_End, T.n_End_sent, (Nat.lt_of_le_of_lt (put_le (put_le (put_le (put_le (put_le (put_le (Nat.le_refl 0))))))) (by decide)), ?_⟩
    refine ⟨_, rfl, p, _, _, _, rfl, upd_same, T.cl_End, T.n_End_theirs, (Nat.lt_of_le_of_lt (put_le (put_le (put_le (put_le (put_le (put_le (put_le (Nat.le_refl 0)))))))) (by decide)), ?_⟩
    refine ⟨_, rfl, p, _, _, _, rfl, upd_same, T.cl_End, T.n_End_their_first, (Nat.lt_of_le_of_lt (put_le (put_le (put_le (put_le (put_le (put_le (put_le (put_le (Nat.le_refl 0))))))))) (by decide)), ?_⟩
    refine ⟨_, rfl, p, _, _, _, rfl, upd_same, T.cl_End, T.n_End_came, (Nat.lt_of_le_of_lt (put_le (put_le (put_le (put_le (put_le (put_le (put_le (put_le (put_le (Nat.le_refl 0)))))))))) (by decide)), ?_⟩
    refine ⟨(by decide), fun lu hlu => ?_⟩
    have nu : p ≠ lu := ne_of_none upd_same hlu
    refine ⟨_, rfl, p, _, _, _, rfl, (by rw [upd_ne nu, upd_same]), T.cl_End, T.n_End_unread, (Nat.lt_of_le_of_lt (put_le (put_le (put_le (put_le (put_le (put_le (put_le (put_le (put_le (put_le (Nat.le_refl 0))))))))))) (by decide)), ?_⟩
    intro la hla
    have na : p ≠ la := ne_of_none upd_same hla
    refine ⟨_, rfl, p, _, _, _, rfl, (by rw [upd_ne na, upd_same]), T.cl_End, T.n_End_ahead, (Nat.lt_of_le_of_lt (put_le (put_le (put_le (put_le (put_le (put_le (put_le (put_le (put_le (put_le (put_le (Nat.le_refl 0)))))))))))) (by decide)), ?_⟩
    refine ⟨_, rfl, p, _, _, _, rfl, upd_same, T.cl_End, T.n_End_their_end, (Nat.lt_of_le_of_lt (put_le (put_le (put_le (put_le (put_le (put_le (put_le (put_le (put_le (put_le (put_le (put_le (Nat.le_refl 0))))))))))))) (by decide)), ?_⟩
    refine ⟨_, rfl, p, _, _, _, rfl, upd_same, T.cl_End, T.n_End_owes, (Nat.lt_of_le_of_lt (put_le (put_le (put_le (put_le (put_le (put_le (put_le (put_le (put_le (put_le (put_le (put_le (put_le (Nat.le_refl 0)))))))))))))) (by decide)), ?_⟩
    refine ⟨_, rfl, p, _, _, _, rfl, upd_same, T.cl_End, T.n_End_waited, (Nat.lt_of_le_of_lt (put_le (put_le (put_le (put_le (put_le (put_le (put_le (put_le (put_le (put_le (put_le (put_le (put_le (put_le (Nat.le_refl 0))))))))))))))) (by decide)), ?_⟩
    refine ⟨_, rfl, p, _, _, _, rfl, upd_same, T.cl_End, T.n_End_patience, (Nat.lt_of_le_of_lt (put_le (put_le (put_le (put_le (put_le (put_le (put_le (put_le (put_le (put_le (put_le (put_le (put_le (put_le (put_le (Nat.le_refl 0)))))))))))))))) (by decide)), ?_⟩
    refine ⟨_, rfl, p, _, _, _, rfl, upd_same, T.cl_End, T.n_End_probe, (Nat.lt_of_le_of_lt (put_le (put_le (put_le (put_le (put_le (put_le (put_le (put_le (put_le (put_le (put_le (put_le (put_le (put_le (put_le (put_le (Nat.le_refl 0))))))))))))))))) (by decide)), ?_⟩
    refine ⟨_, rfl, p, _, _, _, rfl, upd_same, T.cl_End, T.n_End_broken, (Nat.lt_of_le_of_lt (put_le (put_le (put_le (put_le (put_le (put_le (put_le (put_le (put_le (put_le (put_le (put_le (put_le (put_le (put_le (put_le (put_le (Nat.le_refl 0)))))))))))))))))) (by decide)), ?_⟩
    simp only [upd_upd] at hlw hlu hla ⊢
    have hw0 : H lw = none := upd_none hlw
    have hu1 := upd_none hlu
    have hu0 : H lu = none := upd_none (upd_none hu1)
    have ha1 := upd_none hla
    have ha2 := upd_none (upd_none ha1)
    have ha0 : H la = none := upd_none (upd_none ha2)
    have nwu : lw ≠ lu := by
      intro q
      subst q
      rw [upd_same] at hu1
      cases hu1
    have nua : lu ≠ la := by
      intro q
      subst q
      rw [upd_same] at ha1
      cases ha1
    have nwa : lw ≠ la := by
      intro q
      subst q
      rw [upd_same] at ha2
      cases ha2
    refine k ⟨dx, lw, lu, la⟩ _ ⟨?_, ?_, ?_, ?_, nwu⟩ (fun b o hb hn => ?_) fun b hb => ?_
    · rw [upd_same]
      exact congrArg (fun z => some (HO.ins ad.C_End dx z)) (by kernel_rfl)
    · rw [upd_ne nw.symm, upd_ne nwa, upd_ne nw.symm, upd_ne nwu, upd_ne nw.symm, upd_same]
      rfl
    · rw [upd_ne nu.symm, upd_ne nua, upd_ne nu.symm, upd_same]
      rfl
    · rw [upd_ne na.symm, upd_same]
      rfl
    · rw [upd_ne hn, upd_ne (ne_of_none hb ha0), upd_ne hn, upd_ne (ne_of_none hb hu0), upd_ne hn, upd_ne (ne_of_none hb hw0), upd_ne hn]
      exact hb
    · rcases hb with rfl | rfl | rfl | rfl
      · exact .inl rfl
      · exact .inr hw0
      · exact .inr hu0
      · exact .inr ha0
end
end Pr
namespace Pr
open PySem L2
open Ty (Cl flat flats Ok spec due one many)
/-- the state behind some calls -/
def after (s : Sw23.St) : List Cl → Sw23.St
  | [] => s
  | c :: r => after (Sw23.worked s (spec c)).1 r
theorem after_snoc : ∀ (xs : List Cl) (s : Sw23.St) (c : Cl), after s (xs ++ [c]) = (Sw23.worked (after s xs) (spec c)).1
  | [], _, _ => rfl
  | x :: xs, s, c => after_snoc xs _ c
theorem due_snoc : ∀ (xs : List Cl) (s : Sw23.St) (c : Cl), due s (xs ++ [c]) = due s xs ++ one (Sw23.worked (after s xs) (spec c)).2
  | [], s, c => by
    show one _ ++ [] = [] ++ one _
    simp
    rfl
  | x :: xs, s, c => by
    show one _ ++ due _ (xs ++ [c]) = (one _ ++ due _ xs) ++ _
    rw [due_snoc xs, List.append_assoc]
    rfl
theorem due_len : ∀ (xs : List Cl) (s : Sw23.St), (due s xs).length = many s xs + xs.length
  | [], _ => rfl
  | x :: xs, s => by
    show (one _ ++ due _ xs).length = _
    rw [List.length_append, due_len xs]
    simp only [one, many, List.length_cons, List.length_map]
    omega
theorem due_pre : ∀ (xs ys : List Cl) (s : Sw23.St), (due s xs).length ≤ (due s (xs ++ ys)).length
  | [], _, _ => Nat.zero_le _
  | x :: xs, ys, s => by
    have := due_pre xs ys (Sw23.worked s (spec x)).1
    show (one _ ++ due _ xs).length ≤ (one _ ++ due _ (xs ++ ys)).length
    rw [List.length_append, List.length_append]
    omega
def EndV (C : Addr) (H0 H : Hp) (v : V) : Option Py → Prop
  | none => v = .non
  | some e => ∃ p a, v = .ref p ∧ EndAt C H p a e ∧ ∀ b, EndAt.foot p a b → H0 b = none
theorem EndV.keep {C : Addr} {H0 H H' : Hp} {v : V} {m : Option Py} (h : EndV C H0 H v m) (k : ∀ b o, H b = some o → H0 b = none → H' b = some o) : EndV C H0 H' v m := by
  cases m with
  | none => exact h
  | some e =>
    obtain ⟨p, a, rfl, h, hf⟩ := h
    exact ⟨p, a, rfl, h.keep fun b o hb hn => k b o hb (hf b hn), hf⟩
section
variable {P : Program} {w : World} {K : PySem.W.Frag} {mg : Str → Option Value} {base : Heap} {ad : Ad}
def sp_answers (K : PySem.W.Frag) : Sp := fun vs H Q _ => ∃ (a : Addr) (ns : List Int), vs = [.ref a] ∧ SqL K H a (ns.map V.int) ∧ ns.length ≤ 30000 ∧ PySw23.answers_asked ns = true ∧ ∀ (l : Addr) (H' : Hp), H' l = some (.lst ((PySw23.answers ns).map V.int)) → Q (.ref l) H'
theorem ok_answers {R : Nat → Option Py → Sw23.St → Prop} (S : Sim R) (hrow : ∀ c : Cl, Ok c → hasRow (kind c) = true ∨ (width (kind c)).isSome = true) (T : Txt K mg ad) : FnOk P w K mg base CX0 8 ad.f_answers ad.fd_answers ["calls"] (sp_answers K) := by
  have G_split_calls : FnOk P w K mg base CX0 _ ad.f_split_calls ad.fd_split_calls ["calls"] _ := ok_split_calls T
  have G_in_range : FnOk P w K mg base CX0 _ ad.f_in_range ad.fd_in_range ["kind", "handed"] _ := ok_in_range T
  have G_End_init : FnOk P w K mg base CX0 _ ad.f_End_init ad.fd_End_init ["self", "first", "calling"] _ := ok_End_init T
  have G_answer_call : FnOk P w K mg base CX0 _ ad.f_answer_call ad.fd_answer_call ["end", "kind", "handed"] _ := ok_answer_call T
  refine T.F_answers.ok sc_answers (fun vs H Q E h => ?_) (fun cdv A outer s H vs Q E hr h => ?_)
  · obtain ⟨a, ns, rfl, _⟩ := h
    rfl
  · obtain ⟨a, ns, rfl, hS, hlen, hask, k⟩ := h
    obtain ⟨f0, c0, cs0, hflat, hc0, hOk, hcnt, hmany, hans⟩ := Ty.of_asked hask
    rw [hans] at k
    generalize hcs : Cl.opn f0 c0 :: cs0 = cs at hflat hOk hmany k
    have hcl : cs.length ≤ 400 := by rw [← hcs]; simp; omega
    have hdl : (due none cs).length ≤ 1000400 := by rw [due_len]; omega
    subst hflat
    refine ⟨_, (pss_cons (ps_set (i := 1) sc_answers.nd rfl (Or.inl rfl) pe_non)
      (pss_cons (ps_set (i := 2) sc_answers.nd rfl (Or.inl rfl) (pe_lst pa_nil))
      (pss_cons (ps_for PassesOwn.never rfl (pi_list (pe_call G_split_calls (hr.mono (by decide)) (by rfl) T.g_split_calls T.F_split_calls.kp T.b_split_calls .nil pass0 (pa_cons (pv 0) pa_nil))) (pg_tup rfl (pgs_cons (pg_name (i := 3) sc_answers.nd rfl (Or.inl rfl)) (pgs_cons (pg_name (i := 4) sc_answers.nd rfl (Or.inl rfl)) pgs_nil)))
      (pss_cons (ps_set (i := 5) sc_answers.nd rfl (Or.inl rfl) (pe_lst (pa_cons (pe_glob (by rfl) T.c_OUT_OF_RANGE.1 T.c_OUT_OF_RANGE.2) pa_nil)))
      (pss_cons (ps_cut (ps_if (pt_val (pe_call G_in_range (hr.mono (by decide)) (by rfl) T.g_in_range T.F_in_range.kp T.b_in_range .nil pass0 (pa_cons (pv 3) (pa_cons (pv 4) pa_nil))))
      (pss_cons (ps_cut (ps_if (pt_cmpR op_eq (pv 3) (pe_glob (by rfl) T.c_OPEN.1 T.c_OPEN.2) (nomark _))
      (pss_one (ps_set (i := 1) sc_answers.nd rfl (Or.inl rfl) (pe_make T.mk_End G_End_init (hr.mono (by decide)) (by rfl) T.g_End T.b_End_init .nil pass0 (pa_cons (pe_ix ix_list (pv 4) pe_int (fun _ _ => rfl)) (pa_cons (pe_cmpR op_eq (pe_ix ix_list (pv 4) pe_int (fun _ _ => rfl)) pe_int (nomark _)) pa_nil)))))
      pss_nil))
      (pss_one (ps_set (i := 5) sc_answers.nd rfl (Or.inl rfl) (pe_call G_answer_call (hr.mono (by decide)) (by rfl) T.g_answer_call T.F_answer_call.kp T.b_answer_call .nil pass0 (pa_cons (pv 1) (pa_cons (pv 3) (pa_cons (pv 4) pa_nil)))))))
      pss_nil))
      (pss_cons (ps_expr (pe_bm PySem.F.plainAttrs_list PySem.F.slot_list_append PySem.F.type_list_append mt_append (pv 2) (pa_cons (pe_callB call_len_seq (by rfl) T.z_len PySem.boot_len (pa_cons (pv 5) pa_nil)) pa_nil)))
      (pss_one (ps_expr (pe_bm PySem.F.plainAttrs_list PySem.F.slot_list_extend PySem.F.type_list_extend mt_extend (pv 2) (pa_cons (pv 5) pa_nil))))))))
      (pss_one (ps_ret (pv 2)))))), ?_⟩
    -- end = None; told = []
    refine ⟨(by decide), fun lt hlt => ?_⟩
    have hS1 : SqL K (upd H lt (.lst [])) a ((flats cs).map V.int) := Same.seq (fun b o hb => by rw [upd_ne (ne_of_none hb hlt)]; exact hb) hS
    refine ⟨_, rfl, a, cs, rfl, hS1, hlen, (fun c hc => hrow c (hOk c hc)), fun l ts H0 hl0 hl pt sm => ?_⟩
    have hlt0 : H0 lt = some (.lst []) := sm _ _ upd_same
    have nll : l ≠ lt := (ne_of_none upd_same hl0).symm
    refine ⟨l, rfl, ⟨_, SqL.of hl⟩, for_list (K := K) (a := l) (xs := ts.map V.ref) (fun i σ H2 => ∃ (m : Option Py) (v : V) (v3 v4 v5 : Option V), σ = [some (.ref a), some v, some (.ref lt), v3, v4, v5] ∧
      (i = 0 ∨ m.isSome = true) ∧ R (flats (cs.take i)).length m (after none (cs.take i)) ∧ (∀ b o, H0 b = some o → b ≠ lt → H2 b = some o) ∧ H2 lt = some (.lst ((due none (cs.take i)).map V.int)) ∧ EndV ad.C_End H0 H2 v m)
      ⟨none, .non, none, none, none, rfl, .inl rfl, S.start, fun b o hb _ => hb, hlt0, rfl⟩ (fun i σ H2 _ ⟨_, _, _, _, _, _, _, _, kp, _⟩ => SqL.of (kp _ _ hl nll)) ?_ ?_⟩
    · rintro i y σ H2 hi ⟨m, v, v3, v4, v5, rfl, hm, hR, kp, ht2, hE⟩
      obtain ⟨t, hti, rfl⟩ : ∃ t, ts[i]? = some t ∧ y = .ref t := by
        rw [List.getElem?_map] at hi
        cases q : ts[i]? with
        | none => rw [q] at hi; cases hi
        | some t => rw [q] at hi; exact ⟨t, rfl, (Option.some.inj hi).symm⟩
      have hil : i < cs.length := by
        have := (List.getElem?_eq_some_iff.mp hti).1
        rw [pt.len] at this
        exact this
      obtain ⟨c, hci⟩ : ∃ c, cs[i]? = some c := ⟨cs[i], List.getElem?_eq_getElem hil⟩
      obtain ⟨_, r, nr, _, htt, htr⟩ := pt.at_ i t c hti hci
      have nrl : r ≠ lt := (ne_of_none upd_same nr).symm
      have ntl : t ≠ lt := ne_of htt hlt0 (by intro z; cases z)
      have hok : Ok c := hOk c (List.mem_of_getElem? hci)
      have etk : cs.take (i + 1) = cs.take i ++ [c] := by
        rw [List.take_add_one, hci]
        rfl
      have hfl : (flats (cs.take i)).length + (flat c).length ≤ 30000 := by
        have e1 : cs = cs.take (i + 1) ++ cs.drop (i + 1) := (List.take_append_drop _ _).symm
        have e2 : (flats cs).length = (flats (cs.take (i + 1))).length + (flats (cs.drop (i + 1))).length := by
          rw [← List.length_append, ← flats_app, ← e1]
        rw [etk, flats_app, List.length_append] at e2
        have : flats [c] = flat c ++ [] := rfl
        rw [this, List.append_nil] at e2
        omega
      have hfirst : i = 0 → c = .opn f0 c0 := by
        intro q
        subst q
        rw [← hcs] at hci
        exact (Option.some.inj hci).symm
      have hnow : (now m c).isSome = true := by
        rcases hm with q | q
        · rw [hfirst q]
          rfl
        · cases c with
          | opn f z => rfl
          | _ => exact q
      have hrun : (run m c).1.isSome = true := by
        unfold run
        by_cases q : rangeOk c = true
        · rw [if_pos q]
          obtain ⟨e, he⟩ := Option.isSome_iff_exists.mp hnow
          rw [he]
          rfl
        · rw [if_neg q]
          rcases hm with z | z
          · exfalso
            apply q
            rw [hfirst z]
            simp [rangeOk, hc0]
          · exact z
      obtain ⟨hR', hone⟩ := S.step _ _ _ c hR hok hfl hnow
      have hsz : (due none (cs.take i)).length + (1 + (run m c).2.length) ≤ 1000400 := by
        have e1 := due_pre (cs.take (i + 1)) (cs.drop (i + 1)) none
        rw [List.take_append_drop, etk, due_snoc, hone, List.length_append, List.length_cons] at e1
        omega
      have htr2 := kp _ _ htr nrl
      have h0of : ∀ b, H2 b = none → H0 b = none := fun b hb => by
        cases z : H0 b with
        | none => rfl
        | some o =>
          exfalso
          by_cases z2 : b = lt
          · subst z2
            rw [ht2] at hb
            cases hb
          · rw [kp b o z z2] at hb
            cases hb
      refine ⟨t, _, rfl, SqT.of (kp _ _ htt ntl), rfl, _, _, rfl, _, _, rfl, rfl, ?_⟩
      -- answer = [OUT_OF_RANGE]
      refine ⟨(by decide), fun l0 hl0 => ?_⟩
      have kp0 : ∀ b o, H2 b = some o → upd H2 l0 (.lst [.int (-2)]) b = some o := fun b o hb => by rw [upd_ne (ne_of_none hb hl0)]; exact hb
      -- if in_range(kind, handed): ..
      refine ⟨fun σ' H3 => ∃ (v' : V) (la : Addr), σ' = [some (.ref a), some v', some (.ref lt), some (.int (kind c)), some (.ref r), some (.ref la)] ∧ (∀ b o, H0 b = some o → b ≠ lt → H3 b = some o) ∧
        H3 lt = some (.lst ((due none (cs.take i)).map V.int)) ∧ H3 la = some (.lst ((run m c).2.map V.int)) ∧ la ≠ lt ∧ EndV ad.C_End H0 H3 v' (run m c).1, ?_, ?_⟩
      · refine ⟨_, rfl, _, rfl, r, c, rfl, kp0 _ _ htr2, _, rfl, ?_⟩
        by_cases q : rangeOk c = true
        · have er : run m c = (match now m c with
            | some e => (some (e.step c).1, (e.step c).2)
            | none => (none, [])) := by unfold run; rw [if_pos q]; try rfl
          rw [q]
          refine iteT ?_
          -- the end
          refine ⟨fun σ' H3 => ∃ (p : Addr) (ea : EA) (e : Py), σ' = [some (.ref a), some (.ref p), some (.ref lt), some (.int (kind c)), some (.ref r), some (.ref l0)] ∧ now m c = some e ∧ (∀ b o, H0 b = some o → b ≠ lt → H3 b = some o) ∧
            H3 lt = some (.lst ((due none (cs.take i)).map V.int)) ∧ EndAt ad.C_End H3 p ea e ∧ ∀ b, EndAt.foot p ea b → H0 b = none, ?_, ?_⟩
          · refine ⟨_, rfl, rfl, _, rfl, ?_⟩
            by_cases qo : kind c = 1
            · obtain ⟨f, z, rfl⟩ : ∃ f z, c = .opn f z := by cases c <;> first | exact ⟨_, _, rfl⟩ | (simp [kind] at qo; done)
              refine iteT ⟨_, rfl, r, _, _, _, rfl, rfl, SqL.of (kp0 _ _ htr2), rfl, _, rfl, r, _, _, _, rfl, rfl, SqL.of (kp0 _ _ htr2), rfl, rfl, fun x dx nx ndx nxd => ?_⟩
              refine ⟨x, dx, f, _, rfl, upd_same, fun ea H3 h3 k3 f3 => ⟨rfl, ?_⟩⟩
              have kx : ∀ b o, H2 b = some o → H3 b = some o := fun b o hb => by
                have h5 := kp0 b o hb
                refine k3 b o ?_ (ne_of_none h5 nx)
                rw [upd_ne (ne_of_none h5 nx), upd_ne (ne_of_none h5 ndx)]
                exact h5
              refine ⟨x, ea, _, rfl, ?_, fun b o hb hn => kx b o (kp b o hb hn), kx _ _ ht2, h3, fun b hb => ?_⟩
              · show some (Py.made f (decide (z = 1))) = some (Py.made f (decide (V.int z = V.int 1)))
                simp
              · rcases f3 b hb with z | z
                · subst z
                  exact h0of _ (upd_none nx)
                · exact h0of _ (upd_none (upd_none (upd_none z)))
            · have e1 : now m c = m := by cases c <;> first | rfl | (exact absurd rfl qo)
              rw [decide_eq_false (fun z => qo (V.int.inj z))]
              obtain ⟨e, he⟩ := Option.isSome_iff_exists.mp hnow
              rw [e1] at he
              subst he
              obtain ⟨p, ea, rfl, h3, f3⟩ := hE
              exact iteF ⟨p, ea, e, rfl, e1, fun b o hb hn => kp0 _ _ (kp b o hb hn), kp0 _ _ ht2, h3.new hl0, f3⟩
          · rintro σ' H3 ⟨p, ea, e, rfl, he, kp3, ht3, h3, f3⟩
            rw [he] at er
            refine ⟨_, rfl, _, rfl, _, rfl, p, r, ea, e, c, rfl, h3, kp3 _ _ htr nrl, (fun z => by rw [f3 _ z] at htr; cases htr), S.pre _ _ _ c e hR hok hfl q he, fun la ea' H4 h4 hla hla4 fr => ?_⟩
            have nf : ∀ b o, H0 b = some o → ¬ EndAt.foot p ea b := fun b o hb hf => by
              rw [f3 b hf] at hb
              cases hb
            refine ⟨.ref p, la, rfl, fun b o hb hn => fr.keep b o (kp3 b o hb hn) (nf b o hb), fr.keep _ _ ht3 (nf _ _ hlt0), ?_, (ne_of_none ht3 hla).symm, ?_⟩
            · rw [er]
              exact hla4
            · rw [er]
              refine ⟨p, ea', rfl, h4, fun b hb => ?_⟩
              rcases fr.foot b hb with z | z
              · exact f3 b z
              · cases z2 : H0 b with
                | none => rfl
                | some o =>
                  exfalso
                  by_cases z3 : b = lt
                  · subst z3
                    rw [ht3] at z
                    cases z
                  · rw [kp3 b o z2 z3] at z
                    cases z
        · have er : run m c = (m, [-2]) := by unfold run; rw [if_neg q]
          rw [show rangeOk c = false by simpa using q, er]
          exact iteF ⟨v, l0, rfl, fun b o hb hn => kp0 _ _ (kp b o hb hn), kp0 _ _ ht2, upd_same, (ne_of_none ht2 hl0).symm, hE.keep fun b o hb _ => kp0 b o hb⟩
      · rintro σ' H3 ⟨v', la, rfl, kp3, ht3, hla, nla, hE3⟩
        -- told.append(len(answer)); told.extend(answer)
        refine ⟨_, rfl, .inl ⟨rfl, _, SqL.of ht3⟩, _, rfl, la, _, rfl, .inl (SqL.of hla), lt, _, _, rfl, rfl, ht3, ?_, ?_⟩
        · rw [List.length_map]
          exact Nat.lt_of_le_of_lt (show _ ≤ 1000400 by omega) (by decide)
        refine ⟨_, rfl, .inl ⟨rfl, _, SqL.of upd_same⟩, _, rfl, lt, la, _, _, rfl, rfl, upd_same, (by rw [upd_ne nla]; exact hla), ?_, ?_⟩
        · simp only [List.length_append, List.length_map, List.length_cons, List.length_nil]
          exact Nat.le_trans (show _ ≤ 1000400 by omega) (by decide)
        rw [upd_upd]
        refine ⟨(run m c).1, v', some (.int (kind c)), some (.ref r), some (.ref la), rfl, .inr hrun, ?_, fun b o hb hn => by rw [upd_ne hn]; exact kp3 b o hb hn, ?_, hE3.keep fun b o hb h0 => ?_⟩
        · rw [etk, flats_app, List.length_append, after_snoc]
          have : flats [c] = flat c ++ [] := rfl
          rw [this, List.append_nil]
          exact hR'
        · rw [upd_same, etk, due_snoc, hone]
          simp
        · rw [upd_ne (fun z => by subst z; rw [hlt0] at h0; cases h0)]
          exact hb
    · rintro σ H2 ⟨m, v, v3, v4, v5, rfl, _, _, _, ht2, _⟩
      rw [List.length_map, pt.len, List.take_length] at ht2
      exact ⟨_, rfl, k lt H2 ht2⟩
end
end Pr
namespace Pr
open PySem L2
theorem rows_ok (c : Ty.Cl) (_ : Ty.Ok c) : hasRow (kind c) = true ∨ (width (kind c)).isSome = true := by cases c <;> first | exact .inl rfl | exact .inr rfl
theorem said : PySem.Challenge.rw_oneend_s01_answers.wellSaid = true := by decide +kernel
theorem req (args : List PySem.W.WData) (h : PySem.Challenge.rw_oneend_s01_answers.pre args = true) : ∃ ns : List Int, args = [PySem.W.WData.list (ns.map PySem.W.WData.int)] ∧ ns.length ≤ 30000 ∧ PySw23.answers_asked ns = true ∧
    PySem.Challenge.rw_oneend_s01_answers.claim.post args (.list ((PySw23.answers ns).map PySem.W.WData.int)) args = true := by
  obtain ⟨⟨ns, u⟩, h1, h2, h3⟩ := (PySem.W.OpenSpec.pre_iff said args).mp h
  have hp := (PySem.W.OpenSpec.post_iff said h1 (.list ((PySw23.answers ns).map PySem.W.WData.int)) args).mpr rfl
  rw [← h3] at hp
  refine ⟨ns, h3, ?_, h2, hp⟩
  have h4 : (PySem.W.Codec.inList 0 30000 (PySem.W.Codec.inInt (-2147483648) 4294967295) ns && true) = true := h1
  simp only [PySem.W.Codec.inList, PySem.W.Codec.inLen, PySem.W.Codec.inNat, Bool.and_eq_true, decide_eq_true_eq] at h4
  exact h4.1.1.2
theorem walk {q : Program} {loose : List Str} {XP : (Str → Option Value) → Heap → Prop} {YP : World → Heap → Prop} {d : DefRec} {K : Params → PySem.W.Frag} (hdf : d.params.defaults = []) (hnm : d.name = "answers")
    (hY : ∀ (w : World) (h : Heap), YP w h → (K w.params).In h)
    (F : ∀ (w : World) (mg : Str → Option Value) (h : Heap), (K w.params).In h → h.Ns mainGlobals mg → ∃ ad : Ad, Txt (K w.params) mg ad) :
    PySem.W.WalkOS q loose XP YP PySem.Challenge.rw_oneend_s01_answers d [] (fun f vs => PySem.call f vs) :=
  L2.spec_walk (n := 30000) (k := 8) (x := "calls") (CX := CX0) (sp := sp_answers) (f := PySw23.answers) (asked := fun ns => PySw23.answers_asked ns = true) req (by decide) hdf ⟨rfl, by decide, by decide⟩ hY
    (fun w mg fa h KX G hmg => by
      obtain ⟨ad, T⟩ := F w mg h KX G
      rw [hnm] at hmg
      have e := hmg.symm.trans T.g_answers
      cases e
      exact ⟨ad.fd_answers, T.entry, fun base _ _ => ok_answers sim rows_ok T⟩)
    (fun K H a ns hl ha _ hS => ⟨a, ns, rfl, hS, hl, ha, fun l H' h => ⟨l, rfl, h⟩⟩) fun _ _ _ _ z => z
end Pr
open PySem PySem.W PyProof.Rows
set_option maxRecDepth 100000 in
set_option maxHeartbeats 0 in
theorem PySem.Challenge.cw_oneend_s01_answers_holds : PySem.Challenge.rw_oneend_s01_answers.Holds := by
  refine holds_os (q := Pr.Q0) (loose := []) (XP := XL Pr.Q0 []) (YP := Hook.says (kHook Pr.KK Pr.KA Pr.KE)) Pr.left (Hook.of (kHook Pr.KK Pr.KA Pr.KE)) (Hook.keeps (kHook Pr.KK Pr.KA Pr.KE)) (fun s e => xl_of s (Bool.and_eq_true_iff.mp e).1) XL.keeps (by rfl) (by rfl) (by rfl) (fun s e => recFacts_of (Bool.and_eq_true_iff.mp e).2) os_shapes Pr.said
    (by decide +kernel) ⟨rfl, rfl, rfl, rfl, rfl, by decide +kernel⟩ ⟨[.list [.int 1, .int 0, .int 1]], by decide +kernel, by decide +kernel⟩ ?hc
  k_fillS
  refine Pr.walk rfl rfl (fun w h Y => PySem.W.kIn_of Y) ?F
  case F =>
    intro w mg h KX G
    open Pr in
    refine' all_mk KX G ?a_End ?a_is_right ?l_is_right ?c_is_right ?k_is_right ?a_sum_is_right ?l_sum_is_right ?c_sum_is_right ?k_sum_is_right ?a_number_at ?l_number_at ?c_number_at ?k_number_at ?a_place_of ?l_place_of ?c_place_of ?k_place_of ?a_wanted_place_of ?l_wanted_place_of ?c_wanted_place_of ?k_wanted_place_of ?a_window_of ?l_window_of ?c_window_of ?k_window_of ?a_has_flag ?l_has_flag ?c_has_flag ?k_has_flag ?a_data_of ?l_data_of ?c_data_of ?k_data_of ?a_segment_without_sum ?l_segment_without_sum ?c_segment_without_sum ?k_segment_without_sum ?a_row_of ?l_row_of ?c_row_of ?k_row_of ?a_nearest ?l_nearest ?c_nearest ?k_nearest ?a_End_init ?i_End_init ?l_End_init ?c_End_init ?k_End_init ?a_End_room ?i_End_room ?l_End_room ?c_End_room ?k_End_room ?a_End_end_number ?i_End_end_number ?l_End_end_number ?c_End_end_number ?k_End_end_number ?a_End_other_has_begun ?i_End_other_has_begun ?l_End_other_has_begun ?c_End_other_has_begun ?k_End_other_has_begun ?a_End_next_in_order ?i_End_next_in_order ?l_End_next_in_order ?c_End_next_in_order ?k_End_next_in_order ?a_End_window ?i_End_window ?l_End_window ?c_End_window ?k_End_window ?a_End_whole ?i_End_whole ?l_End_whole ?c_End_whole ?k_End_whole ?a_End_wanted ?i_End_wanted ?l_End_wanted ?c_End_wanted ?k_End_wanted ?a_End_write ?i_End_write ?l_End_write ?c_End_write ?k_End_write ?a_End_close ?i_End_close ?l_End_close ?c_End_close ?k_End_close ?a_End_read ?i_End_read ?l_End_read ?c_End_read ?k_End_read ?a_End_nothing_to_read ?i_End_nothing_to_read ?l_End_nothing_to_read ?c_End_nothing_to_read ?k_End_nothing_to_read ?a_End_take_in ?i_End_take_in ?l_End_take_in ?c_End_take_in ?k_End_take_in ?a_End_comes_too_early ?i_End_comes_too_early ?l_End_comes_too_early ?c_End_comes_too_early ?k_End_comes_too_early ?a_End_take_break ?i_End_take_break ?l_End_take_break ?c_End_take_break ?k_End_take_break ?a_End_wanted_place ?i_End_wanted_place ?l_End_wanted_place ?c_End_wanted_place ?k_End_wanted_place ?a_End_take_answer ?i_End_take_answer ?l_End_take_answer ?c_End_take_answer ?k_End_take_answer ?a_End_take_data ?i_End_take_data ?l_End_take_data ?c_End_take_data ?k_End_take_data ?a_End_number_of_data ?i_End_number_of_data ?l_End_number_of_data ?c_End_number_of_data ?k_End_number_of_data ?a_End_bring_in_order ?i_End_bring_in_order ?l_End_bring_in_order ?c_End_bring_in_order ?k_End_bring_in_order ?a_End_out ?i_End_out ?l_End_out ?c_End_out ?k_End_out ?a_End_beginning_is_due ?i_End_beginning_is_due ?l_End_beginning_is_due ?c_End_beginning_is_due ?k_End_beginning_is_due ?a_End_data_due ?i_End_data_due ?l_End_data_due ?c_End_data_due ?k_End_data_due ?a_End_end_is_due ?i_End_end_is_due ?l_End_end_is_due ?c_End_end_is_due ?k_End_end_is_due ?a_End_answer_is_due ?i_End_answer_is_due ?l_End_answer_is_due ?c_End_answer_is_due ?k_End_answer_is_due ?a_End_send ?i_End_send ?l_End_send ?c_End_send ?k_End_send ?a_End_tick ?i_End_tick ?l_End_tick ?c_End_tick ?k_End_tick ?a_End_waits ?i_End_waits ?l_End_waits ?c_End_waits ?k_End_waits ?a_End_state ?i_End_state ?l_End_state ?c_End_state ?k_End_state ?a_answers ?l_answers ?c_answers ?k_answers ?a_split_calls ?l_split_calls ?c_split_calls ?k_split_calls ?a_how_many_numbers ?l_how_many_numbers ?c_how_many_numbers ?k_how_many_numbers ?a_in_range ?l_in_range ?c_in_range ?k_in_range ?a_answer_call ?l_answer_call ?c_answer_call ?k_answer_call ?pg_End ?hd_End ?po_End ?sa_End ?mk_End ?kc_End ?n_End_first ?n_End_calling ?n_End_written ?n_End_closed ?n_End_acked ?n_End_next_number ?n_End_sent ?n_End_theirs ?n_End_their_first ?n_End_came ?n_End_unread ?n_End_ahead ?n_End_their_end ?n_End_owes ?n_End_waited ?n_End_patience ?n_End_probe ?n_End_broken ?z_enumerate ?z_len ?z_list ?z_max ?z_min ?z_range ?z_reversed ?v_HEAD ?v_WANTED_AT ?v_FLAGS_AT ?v_ZERO_AT ?v_WINDOW_AT ?v_BEGINS ?v_ENDS ?v_ANSWERS ?v_BREAKS ?v_ROUND ?v_HALF_ROUND ?v_WORD ?v_FULL_WORD ?v_SEND_ROOM ?v_FULL_WINDOW ?v_SMALL_WINDOW ?v_MOST_DATA ?v_FIRST_PATIENCE ?v_MOST_PATIENCE ?v_CLOSED_OR_BROKEN ?v_ALL_READ ?v_BROKEN ?v_OPEN ?v_WRITE ?v_CLOSE ?v_READ ?v_IN ?v_OUT ?v_TICK ?v_STATE ?v_MOST_READ ?v_LONGEST_SEGMENT ?v_LONGEST_TICK ?v_OUT_OF_RANGE
    (case a_End => k_is)
    (case a_is_right => k_is)
    (case l_is_right => k_is)
    (case c_is_right => k_is)
    (case k_is_right => k_is)
    (case a_sum_is_right => k_is)
    (case l_sum_is_right => k_is)
    (case c_sum_is_right => k_is)
    (case k_sum_is_right => k_is)
    (case a_number_at => k_is)
    (case l_number_at => k_is)
    (case c_number_at => k_is)
    (case k_number_at => k_is)
    (case a_place_of => k_is)
    (case l_place_of => k_is)
    (case c_place_of => k_is)
    (case k_place_of => k_is)
    (case a_wanted_place_of => k_is)
    (case l_wanted_place_of => k_is)
    (case c_wanted_place_of => k_is)
    (case k_wanted_place_of => k_is)
    (case a_window_of => k_is)
    (case l_window_of => k_is)
    (case c_window_of => k_is)
    (case k_window_of => k_is)
    (case a_has_flag => k_is)
    (case l_has_flag => k_is)
    (case c_has_flag => k_is)
    (case k_has_flag => k_is)
    (case a_data_of => k_is)
    (case l_data_of => k_is)
    (case c_data_of => k_is)
    (case k_data_of => k_is)
    (case a_segment_without_sum => k_is)
    (case l_segment_without_sum => k_is)
    (case c_segment_without_sum => k_is)
    (case k_segment_without_sum => k_is)
    (case a_row_of => k_is)
    (case l_row_of => k_is)
    (case c_row_of => k_is)
    (case k_row_of => k_is)
    (case a_nearest => k_is)
    (case l_nearest => k_is)
    (case c_nearest => k_is)
    (case k_nearest => k_is)
    (case a_End_init => k_is)
    (case i_End_init => k_is)
    (case l_End_init => k_is)
    (case c_End_init => k_is)
    (case k_End_init => k_is)
    (case a_End_room => k_is)
    (case i_End_room => k_is)
    (case l_End_room => k_is)
    (case c_End_room => k_is)
    (case k_End_room => k_is)
    (case a_End_end_number => k_is)
    (case i_End_end_number => k_is)
    (case l_End_end_number => k_is)
    (case c_End_end_number => k_is)
    (case k_End_end_number => k_is)
    (case a_End_other_has_begun => k_is)
    (case i_End_other_has_begun => k_is)
    (case l_End_other_has_begun => k_is)
    (case c_End_other_has_begun => k_is)
    (case k_End_other_has_begun => k_is)
    (case a_End_next_in_order => k_is)
    (case i_End_next_in_order => k_is)
    (case l_End_next_in_order => k_is)
    (case c_End_next_in_order => k_is)
    (case k_End_next_in_order => k_is)
    (case a_End_window => k_is)
    (case i_End_window => k_is)
    (case l_End_window => k_is)
    (case c_End_window => k_is)
    (case k_End_window => k_is)
    (case a_End_whole => k_is)
    (case i_End_whole => k_is)
    (case l_End_whole => k_is)
    (case c_End_whole => k_is)
    (case k_End_whole => k_is)
    (case a_End_wanted => k_is)
    (case i_End_wanted => k_is)
    (case l_End_wanted => k_is)
    (case c_End_wanted => k_is)
    (case k_End_wanted => k_is)
    (case a_End_write => k_is)
    (case i_End_write => k_is)
    (case l_End_write => k_is)
    (case c_End_write => k_is)
    (case k_End_write => k_is)
    (case a_End_close => k_is)
    (case i_End_close => k_is)
    (case l_End_close => k_is)
    (case c_End_close => k_is)
    (case k_End_close => k_is)
    (case a_End_read => k_is)
    (case i_End_read => k_is)
    (case l_End_read => k_is)
    (case c_End_read => k_is)
    (case k_End_read => k_is)
    (case a_End_nothing_to_read => k_is)
    (case i_End_nothing_to_read => k_is)
    (case l_End_nothing_to_read => k_is)
    (case c_End_nothing_to_read => k_is)
    (case k_End_nothing_to_read => k_is)
    (case a_End_take_in => k_is)
    (case i_End_take_in => k_is)
    (case l_End_take_in => k_is)
    (case c_End_take_in => k_is)
    (case k_End_take_in => k_is)
    (case a_End_comes_too_early => k_is)
    (case i_End_comes_too_early => k_is)
    (case l_End_comes_too_early => k_is)
    (case c_End_comes_too_early => k_is)
    (case k_End_comes_too_early => k_is)
    (case a_End_take_break => k_is)
    (case i_End_take_break => k_is)
    (case l_End_take_break => k_is)
    (case c_End_take_break => k_is)
    (case k_End_take_break => k_is)
    (case a_End_wanted_place => k_is)
    (case i_End_wanted_place => k_is)
    (case l_End_wanted_place => k_is)
    (case c_End_wanted_place => k_is)
    (case k_End_wanted_place => k_is)
    (case a_End_take_answer => k_is)
    (case i_End_take_answer => k_is)
    (case l_End_take_answer => k_is)
    (case c_End_take_answer => k_is)
    (case k_End_take_answer => k_is)
    (case a_End_take_data => k_is)
    (case i_End_take_data => k_is)
    (case l_End_take_data => k_is)
    (case c_End_take_data => k_is)
    (case k_End_take_data => k_is)
    (case a_End_number_of_data => k_is)
    (case i_End_number_of_data => k_is)
    (case l_End_number_of_data => k_is)
    (case c_End_number_of_data => k_is)
    (case k_End_number_of_data => k_is)
    (case a_End_bring_in_order => k_is)
    (case i_End_bring_in_order => k_is)
    (case l_End_bring_in_order => k_is)
    (case c_End_bring_in_order => k_is)
    (case k_End_bring_in_order => k_is)
    (case a_End_out => k_is)
    (case i_End_out => k_is)
    (case l_End_out => k_is)
    (case c_End_out => k_is)
    (case k_End_out => k_is)
    (case a_End_beginning_is_due => k_is)
    (case i_End_beginning_is_due => k_is)
    (case l_End_beginning_is_due => k_is)
    (case c_End_beginning_is_due => k_is)
    (case k_End_beginning_is_due => k_is)
    (case a_End_data_due => k_is)
    (case i_End_data_due => k_is)
    (case l_End_data_due => k_is)
    (case c_End_data_due => k_is)
    (case k_End_data_due => k_is)
    (case a_End_end_is_due => k_is)
    (case i_End_end_is_due => k_is)
    (case l_End_end_is_due => k_is)
    (case c_End_end_is_due => k_is)
    (case k_End_end_is_due => k_is)
    (case a_End_answer_is_due => k_is)
    (case i_End_answer_is_due => k_is)
    (case l_End_answer_is_due => k_is)
    (case c_End_answer_is_due => k_is)
    (case k_End_answer_is_due => k_is)
    (case a_End_send => k_is)
    (case i_End_send => k_is)
    (case l_End_send => k_is)
    (case c_End_send => k_is)
    (case k_End_send => k_is)
    (case a_End_tick => k_is)
    (case i_End_tick => k_is)
    (case l_End_tick => k_is)
    (case c_End_tick => k_is)
    (case k_End_tick => k_is)
    (case a_End_waits => k_is)
    (case i_End_waits => k_is)
    (case l_End_waits => k_is)
    (case c_End_waits => k_is)
    (case k_End_waits => k_is)
    (case a_End_state => k_is)
    (case i_End_state => k_is)
    (case l_End_state => k_is)
    (case c_End_state => k_is)
    (case k_End_state => k_is)
    (case a_answers => k_is)
    (case l_answers => k_is)
    (case c_answers => k_is)
    (case k_answers => k_is)
    (case a_split_calls => k_is)
    (case l_split_calls => k_is)
    (case c_split_calls => k_is)
    (case k_split_calls => k_is)
    (case a_how_many_numbers => k_is)
    (case l_how_many_numbers => k_is)
    (case c_how_many_numbers => k_is)
    (case k_how_many_numbers => k_is)
    (case a_in_range => k_is)
    (case l_in_range => k_is)
    (case c_in_range => k_is)
    (case k_in_range => k_is)
    (case a_answer_call => k_is)
    (case l_answer_call => k_is)
    (case c_answer_call => k_is)
    (case k_answer_call => k_is)
    (case pg_End => k_is)
    (case hd_End => k_is)
    (case po_End => k_is)
    (case sa_End => k_is)
    (case mk_End => k_is)
    (case kc_End => k_is)
    (case n_End_first => k_is)
    (case n_End_calling => k_is)
    (case n_End_written => k_is)
    (case n_End_closed => k_is)
    (case n_End_acked => k_is)
    (case n_End_next_number => k_is)
    (case n_End_sent => k_is)
    (case n_End_theirs => k_is)
    (case n_End_their_first => k_is)
    (case n_End_came => k_is)
    (case n_End_unread => k_is)
    (case n_End_ahead => k_is)
    (case n_End_their_end => k_is)
    (case n_End_owes => k_is)
    (case n_End_waited => k_is)
    (case n_End_patience => k_is)
    (case n_End_probe => k_is)
    (case n_End_broken => k_is)
    (case z_enumerate => k_is)
    (case z_len => k_is)
    (case z_list => k_is)
    (case z_max => k_is)
    (case z_min => k_is)
    (case z_range => k_is)
    (case z_reversed => k_is)
    (case v_HEAD => k_is)
    (case v_WANTED_AT => k_is)
    (case v_FLAGS_AT => k_is)
    (case v_ZERO_AT => k_is)
    (case v_WINDOW_AT => k_is)
    (case v_BEGINS => k_is)
    (case v_ENDS => k_is)
    (case v_ANSWERS => k_is)
    (case v_BREAKS => k_is)
    (case v_ROUND => k_is)
    (case v_HALF_ROUND => k_is)
    (case v_WORD => k_is)
    (case v_FULL_WORD => k_is)
    (case v_SEND_ROOM => k_is)
    (case v_FULL_WINDOW => k_is)
    (case v_SMALL_WINDOW => k_is)
    (case v_MOST_DATA => k_is)
    (case v_FIRST_PATIENCE => k_is)
    (case v_MOST_PATIENCE => k_is)
    (case v_CLOSED_OR_BROKEN => k_is)
    (case v_ALL_READ => k_is)
    (case v_BROKEN => k_is)
    (case v_OPEN => k_is)
    (case v_WRITE => k_is)
    (case v_CLOSE => k_is)
    (case v_READ => k_is)
    (case v_IN => k_is)
    (case v_OUT => k_is)
    (case v_TICK => k_is)
    (case v_STATE => k_is)
    (case v_MOST_READ => k_is)
    (case v_LONGEST_SEGMENT => k_is)
    (case v_LONGEST_TICK => k_is)
    (case v_OUT_OF_RANGE => k_is)
#print axioms PySem.Challenge.cw_oneend_s01_answers_holds
