import PyProof.Rows.All
import KE.BitLaws
import KE.KItem
import KE.OsHead
import Open.SpecLaws
import OpenK.KOwn
import PySem.Challenge.RW_packedsets_s03_join
set_option linter.all false
namespace L2
open PySem PySem.Spec PyProof.Rows
def inClass (s : Stmt) (j : Nat) : Stmt := match s with
  | .ClassDef _ _ _ body _ _ _ _ _ _ _ => body.getD j (.Pass ⟨0, 0, 0, 0⟩)
  | _ => .Pass ⟨0, 0, 0, 0⟩
def defArgs (s : Stmt) : Arguments := match s with
  | .FunctionDef _ a _ _ _ _ _ _ _ _ => a
  | _ => { posonlyargs := [], args := [], vararg := none, kwonlyargs := [], kw_defaults := [], kwarg := none, defaults := [] }
def defBody (s : Stmt) : List Stmt := match s with
  | .FunctionDef _ _ b _ _ _ _ _ _ _ => b
  | _ => []
def defScope (s : Stmt) : Scope := match s with
  | .FunctionDef _ _ _ _ _ _ sc _ _ _ => sc
  | _ => { kind := .function, names := [], isGenerator := false, isCoroutine := false }
end L2
set_option Elab.async false
set_option linter.all false
set_option maxRecDepth 100000
set_option maxHeartbeats 0
namespace PK
open PySem PySem.Spec L2
def top (i : Nat) : Stmt := PySem.Challenge.pw_packedsets_s03_join.main.body.getD i (.Pass ⟨0, 0, 0, 0⟩)
abbrev s_add_span : Stmt := top 3
abbrev s_count_numbers : Stmt := top 4
abbrev s_join_edges : Stmt := top 5
abbrev s_is_listed : Stmt := top 14
abbrev s_plain_size : Stmt := top 15
abbrev s_runs_size : Stmt := top 16
abbrev s_marks_size : Stmt := top 17
abbrev s_keys_place : Stmt := top 18
abbrev s_tells_places : Stmt := top 19
abbrev s_front_size : Stmt := top 20
abbrev s_require : Stmt := top 23
abbrev s_number_at : Stmt := top 24
abbrev s_plain_marks : Stmt := top 25
abbrev s_runs_marks : Stmt := top 26
abbrev s_read_marks : Stmt := top 27
abbrev s_read_keys : Stmt := top 28
abbrev s_read_runs : Stmt := top 29
abbrev s_read_list : Stmt := top 30
abbrev s_read_bits : Stmt := top 31
abbrev s_read_part : Stmt := top 32
abbrev s_read_size : Stmt := top 33
abbrev s_add_part : Stmt := top 34
abbrev s_read_edges : Stmt := top 35
abbrev s_Part_init : Stmt := inClass (top 37) 0
abbrev s_cut_into_parts : Stmt := top 38
abbrev s_size_as_runs : Stmt := top 39
abbrev s_size_as_plain : Stmt := top 40
abbrev s_plan_parts : Stmt := top 41
abbrev s_has_runs : Stmt := top 42
abbrev s_part_size : Stmt := top 43
abbrev s_set_size : Stmt := top 44
abbrev s_number_bytes : Stmt := top 45
abbrev s_numbers_within : Stmt := top 46
abbrev s_runs_bytes : Stmt := top 47
abbrev s_list_bytes : Stmt := top 48
abbrev s_bits_bytes : Stmt := top 49
abbrev s_part_bytes : Stmt := top 50
abbrev s_marks_bytes : Stmt := top 51
abbrev s_first_bytes : Stmt := top 52
abbrev s_keys_bytes : Stmt := top 53
abbrev s_places_bytes : Stmt := top 54
abbrev s_set_bytes : Stmt := top 55
abbrev s_may_join : Stmt := top 62
abbrev s_may_fill : Stmt := top 63
abbrev s_may_write : Stmt := top 64
abbrev s_answer_set : Stmt := top 65
abbrev s_join : Stmt := top 66
def st (x : String) (t : Nat) : Value := .str (.ofString x) t
def en (P : Params) (x : String) (t : Nat) (v : Value) : DictEntry := ⟨PyData.keyHash P (.ofString x), .str (.ofString x) t, v⟩
def fo (x q : String) (s : Stmt) (d k c m : Value) (a : Option Addr) (o t : Value) : Data := .func (PySem.W.fnOf (.ofString x) (.ofString q) (L2.defArgs s) (L2.defBody s) (L2.defScope s) d k c m a o t)
def KH (P : Params) : PySem.W.Frag := [
  (nat_lit 2, ⟨.none, none, (.dict #[] 0), #[]⟩),
  (nat_lit 3, ⟨(.type "dict"), none, (.dict (List.toArray [en P "__name__" 165 (PK.st "packedsets.sets" 640), en P "__doc__" 166 .none, en P "__package__" 167 .none, en P "__loader__" 168 (.builtin "__main__.__loader__#opaque"), en P "__spec__" 169 .none, en P "__annotations__" 170 (.ref 6), en P "__builtins__" 171 (.ref 4), en P "__file__" 173 (PK.st "/claim/cut.py" 172), en P "__cached__" 174 .none, en P "BEYOND" 190 (.int (4294967297) 189), en P "IN_JOINED" 207 (.ref 19), en P "add_span" 216 (.ref 26), en P "count_numbers" 223 (.ref 33), en P "join_edges" 239 (.ref 40), en P "PLAIN_FRONT" 243 (.int (12346) 242), en P "RUNS_FRONT" 245 (.int (12347) 244), en P "PART" 247 (.int (65536) 246), en P "MOST_PARTS" 249 (.int (65536) 248), en P "MOST_LISTED" 251 (.int (4096) 250), en P "BITS_SIZE" 253 (.int (8192) 252), en P "FEWEST_WITH_PLACES" 255 (.int (4) 254), en P "is_listed" 262 (.ref 47), en P "plain_size" 269 (.ref 54), en P "runs_size" 276 (.ref 61), en P "marks_size" 283 (.ref 68), en P "keys_place" 291 (.ref 75), en P "tells_places" 299 (.ref 82), en P "front_size" 308 (.ref 89), en P "NotASet" 328 (.ref 99), en P "require" 335 (.ref 109), en P "number_at" 346 (.ref 116), en P "plain_marks" 354 (.ref 123), en P "runs_marks" 360 (.ref 128), en P "read_marks" 368 (.ref 135), en P "read_keys" 374 (.ref 140), en P "read_runs" 386 (.ref 147), en P "read_list" 399 (.ref 154), en P "read_bits" 412 (.ref 161), en P "read_part" 423 (.ref 168), en P "read_size" 432 (.ref 175), en P "add_part" 438 (.ref 180), en P "read_edges" 455 (.ref 187), en P "Part" 488 (.ref 204), en P "cut_into_parts" 501 (.ref 215), en P "size_as_runs" 508 (.ref 222), en P "size_as_plain" 515 (.ref 229), en P "plan_parts" 525 (.ref 236), en P "has_runs" 531 (.ref 241), en P "part_size" 538 (.ref 248), en P "set_size" 544 (.ref 253), en P "number_bytes" 550 (.ref 258), en P "numbers_within" 559 (.ref 265), en P "runs_bytes" 569 (.ref 272), en P "list_bytes" 578 (.ref 279), en P "bits_bytes" 587 (.ref 286), en P "part_bytes" 594 (.ref 293), en P "marks_bytes" 604 (.ref 300), en P "first_bytes" 611 (.ref 307), en P "keys_bytes" 620 (.ref 314), en P "places_bytes" 630 (.ref 321), en P "set_bytes" 639 (.ref 328), en P "OUT_OF_RANGE" 644 (.int (-2) 643), en P "NOT_A_SET" 647 (.int (-3) 646), en P "NO_ROOM" 650 (.int (-7) 649), en P "MOST_ROOM" 652 (.int (16777216) 651), en P "LAST_HOW" 654 (.int (3) 653), en P "may_join" 661 (.ref 335), en P "may_fill" 668 (.ref 342), en P "may_write" 676 (.ref 349), en P "answer_set" 687 (.ref 356), en P "join" 700 (.ref 363)]) 71), #[]⟩),
  (nat_lit 15, ⟨(.type "tuple"), none, (.seq (List.toArray [(.int (0) 191), (.int (0) 192), (.int (0) 193), (.int (1) 194)]) 0), #[]⟩),
  (nat_lit 16, ⟨(.type "tuple"), none, (.seq (List.toArray [(.int (0) 195), (.int (1) 196), (.int (1) 197), (.int (1) 198)]) 0), #[]⟩),
  (nat_lit 17, ⟨(.type "tuple"), none, (.seq (List.toArray [(.int (0) 199), (.int (1) 200), (.int (1) 201), (.int (0) 202)]) 0), #[]⟩),
  (nat_lit 18, ⟨(.type "tuple"), none, (.seq (List.toArray [(.int (0) 203), (.int (0) 204), (.int (1) 205), (.int (0) 206)]) 0), #[]⟩),
  (nat_lit 19, ⟨(.type "tuple"), none, (.seq (List.toArray [(.ref 15), (.ref 16), (.ref 17), (.ref 18)]) 0), #[]⟩),
  (nat_lit 20, ⟨(.type "tuple"), none, (.seq #[] 0), #[]⟩),
  (nat_lit 22, ⟨(.type "tuple"), none, (.seq (List.toArray [(PK.st "edges" 211), (PK.st "first" 212), (PK.st "end" 213)]) 0), #[]⟩),
  (nat_lit 23, ⟨(.type "tuple"), none, (.seq #[] 0), #[]⟩),
  (nat_lit 25, ⟨(.type "code"), none, (.fields (List.toArray [(PK.st "add_span" 208), (PK.st "add_span" 209), (PK.st "/claim/cut.py" 210), (.int (4) 0), (.int (3) 0), (.int (0) 0), (.int (0) 0), (.int (3) 0), (.ref 20), (.bool true), (.int (181) 0), (.ref 21), .none, (.ref 22), (.ref 23), (.ref 24), (.int (214) 0), (.int (4) 0), (PK.st "/claim/cut.py" 215)])), #[]⟩),
  (nat_lit 26, ⟨(.type "function"), none, (fo "add_span" "add_span" s_add_span .none .none .none (PK.st "packedsets.edges" 187) none (.ref 25) .none), #[]⟩),
  (nat_lit 27, ⟨(.type "tuple"), none, (.seq #[] 0), #[]⟩),
  (nat_lit 29, ⟨(.type "tuple"), none, (.seq (List.toArray [(PK.st "edges" 220)]) 0), #[]⟩),
  (nat_lit 30, ⟨(.type "tuple"), none, (.seq #[] 0), #[]⟩),
  (nat_lit 32, ⟨(.type "code"), none, (.fields (List.toArray [(PK.st "count_numbers" 217), (PK.st "count_numbers" 218), (PK.st "/claim/cut.py" 219), (.int (10) 0), (.int (1) 0), (.int (0) 0), (.int (0) 0), (.int (3) 0), (.ref 27), (.bool true), (.int (181) 0), (.ref 28), .none, (.ref 29), (.ref 30), (.ref 31), (.int (221) 0), (.int (10) 0), (PK.st "/claim/cut.py" 222)])), #[]⟩),
  (nat_lit 33, ⟨(.type "function"), none, (fo "count_numbers" "count_numbers" s_count_numbers .none .none .none (PK.st "packedsets.edges" 187) none (.ref 32) .none), #[]⟩),
  (nat_lit 34, ⟨(.type "tuple"), none, (.seq #[] 0), #[]⟩),
  (nat_lit 36, ⟨(.type "tuple"), none, (.seq (List.toArray [(PK.st "how" 227), (PK.st "left" 228), (PK.st "right" 229), (PK.st "in_joined" 230), (PK.st "left_edges" 231), (PK.st "right_edges" 232), (PK.st "i" 233), (PK.st "j" 234), (PK.st "edges" 235), (PK.st "at" 236)]) 0), #[]⟩),
  (nat_lit 37, ⟨(.type "tuple"), none, (.seq #[] 0), #[]⟩),
  (nat_lit 39, ⟨(.type "code"), none, (.fields (List.toArray [(PK.st "join_edges" 224), (PK.st "join_edges" 225), (PK.st "/claim/cut.py" 226), (.int (12) 0), (.int (3) 0), (.int (0) 0), (.int (0) 0), (.int (3) 0), (.ref 34), (.bool true), (.int (181) 0), (.ref 35), .none, (.ref 36), (.ref 37), (.ref 38), (.int (237) 0), (.int (12) 0), (PK.st "/claim/cut.py" 238)])), #[]⟩),
  (nat_lit 40, ⟨(.type "function"), none, (fo "join_edges" "join_edges" s_join_edges .none .none .none (PK.st "packedsets.edges" 187) none (.ref 39) .none), #[]⟩),
  (nat_lit 41, ⟨(.type "tuple"), none, (.seq #[] 0), #[]⟩),
  (nat_lit 43, ⟨(.type "tuple"), none, (.seq (List.toArray [(PK.st "count" 259)]) 0), #[]⟩),
  (nat_lit 44, ⟨(.type "tuple"), none, (.seq #[] 0), #[]⟩),
  (nat_lit 46, ⟨(.type "code"), none, (.fields (List.toArray [(PK.st "is_listed" 256), (PK.st "is_listed" 257), (PK.st "/claim/cut.py" 258), (.int (37) 0), (.int (1) 0), (.int (0) 0), (.int (0) 0), (.int (3) 0), (.ref 41), (.bool true), (.int (181) 0), (.ref 42), .none, (.ref 43), (.ref 44), (.ref 45), (.int (260) 0), (.int (37) 0), (PK.st "/claim/cut.py" 261)])), #[]⟩),
  (nat_lit 47, ⟨(.type "function"), none, (fo "is_listed" "is_listed" s_is_listed .none .none .none (PK.st "packedsets.form" 240) none (.ref 46) .none), #[]⟩),
  (nat_lit 48, ⟨(.type "tuple"), none, (.seq #[] 0), #[]⟩),
  (nat_lit 50, ⟨(.type "tuple"), none, (.seq (List.toArray [(PK.st "count" 266)]) 0), #[]⟩),
  (nat_lit 51, ⟨(.type "tuple"), none, (.seq #[] 0), #[]⟩),
  (nat_lit 53, ⟨(.type "code"), none, (.fields (List.toArray [(PK.st "plain_size" 263), (PK.st "plain_size" 264), (PK.st "/claim/cut.py" 265), (.int (39) 0), (.int (1) 0), (.int (0) 0), (.int (0) 0), (.int (3) 0), (.ref 48), (.bool true), (.int (181) 0), (.ref 49), .none, (.ref 50), (.ref 51), (.ref 52), (.int (267) 0), (.int (39) 0), (PK.st "/claim/cut.py" 268)])), #[]⟩),
  (nat_lit 54, ⟨(.type "function"), none, (fo "plain_size" "plain_size" s_plain_size .none .none .none (PK.st "packedsets.form" 240) none (.ref 53) .none), #[]⟩),
  (nat_lit 55, ⟨(.type "tuple"), none, (.seq #[] 0), #[]⟩),
  (nat_lit 57, ⟨(.type "tuple"), none, (.seq (List.toArray [(PK.st "run_count" 273)]) 0), #[]⟩),
  (nat_lit 58, ⟨(.type "tuple"), none, (.seq #[] 0), #[]⟩),
  (nat_lit 60, ⟨(.type "code"), none, (.fields (List.toArray [(PK.st "runs_size" 270), (PK.st "runs_size" 271), (PK.st "/claim/cut.py" 272), (.int (41) 0), (.int (1) 0), (.int (0) 0), (.int (0) 0), (.int (3) 0), (.ref 55), (.bool true), (.int (181) 0), (.ref 56), .none, (.ref 57), (.ref 58), (.ref 59), (.int (274) 0), (.int (41) 0), (PK.st "/claim/cut.py" 275)])), #[]⟩),
  (nat_lit 61, ⟨(.type "function"), none, (fo "runs_size" "runs_size" s_runs_size .none .none .none (PK.st "packedsets.form" 240) none (.ref 60) .none), #[]⟩),
  (nat_lit 62, ⟨(.type "tuple"), none, (.seq #[] 0), #[]⟩),
  (nat_lit 64, ⟨(.type "tuple"), none, (.seq (List.toArray [(PK.st "part_count" 280)]) 0), #[]⟩),
  (nat_lit 65, ⟨(.type "tuple"), none, (.seq #[] 0), #[]⟩),
  (nat_lit 67, ⟨(.type "code"), none, (.fields (List.toArray [(PK.st "marks_size" 277), (PK.st "marks_size" 278), (PK.st "/claim/cut.py" 279), (.int (43) 0), (.int (1) 0), (.int (0) 0), (.int (0) 0), (.int (3) 0), (.ref 62), (.bool true), (.int (181) 0), (.ref 63), .none, (.ref 64), (.ref 65), (.ref 66), (.int (281) 0), (.int (43) 0), (PK.st "/claim/cut.py" 282)])), #[]⟩),
  (nat_lit 68, ⟨(.type "function"), none, (fo "marks_size" "marks_size" s_marks_size .none .none .none (PK.st "packedsets.form" 240) none (.ref 67) .none), #[]⟩),
  (nat_lit 69, ⟨(.type "tuple"), none, (.seq #[] 0), #[]⟩),
  (nat_lit 71, ⟨(.type "tuple"), none, (.seq (List.toArray [(PK.st "part_count" 287), (PK.st "with_runs" 288)]) 0), #[]⟩),
  (nat_lit 72, ⟨(.type "tuple"), none, (.seq #[] 0), #[]⟩),
  (nat_lit 74, ⟨(.type "code"), none, (.fields (List.toArray [(PK.st "keys_place" 284), (PK.st "keys_place" 285), (PK.st "/claim/cut.py" 286), (.int (45) 0), (.int (2) 0), (.int (0) 0), (.int (0) 0), (.int (3) 0), (.ref 69), (.bool true), (.int (181) 0), (.ref 70), .none, (.ref 71), (.ref 72), (.ref 73), (.int (289) 0), (.int (45) 0), (PK.st "/claim/cut.py" 290)])), #[]⟩),
  (nat_lit 75, ⟨(.type "function"), none, (fo "keys_place" "keys_place" s_keys_place .none .none .none (PK.st "packedsets.form" 240) none (.ref 74) .none), #[]⟩),
  (nat_lit 76, ⟨(.type "tuple"), none, (.seq #[] 0), #[]⟩),
  (nat_lit 78, ⟨(.type "tuple"), none, (.seq (List.toArray [(PK.st "part_count" 295), (PK.st "with_runs" 296)]) 0), #[]⟩),
  (nat_lit 79, ⟨(.type "tuple"), none, (.seq #[] 0), #[]⟩),
  (nat_lit 81, ⟨(.type "code"), none, (.fields (List.toArray [(PK.st "tells_places" 292), (PK.st "tells_places" 293), (PK.st "/claim/cut.py" 294), (.int (47) 0), (.int (2) 0), (.int (0) 0), (.int (0) 0), (.int (3) 0), (.ref 76), (.bool true), (.int (181) 0), (.ref 77), .none, (.ref 78), (.ref 79), (.ref 80), (.int (297) 0), (.int (47) 0), (PK.st "/claim/cut.py" 298)])), #[]⟩),
  (nat_lit 82, ⟨(.type "function"), none, (fo "tells_places" "tells_places" s_tells_places .none .none .none (PK.st "packedsets.form" 240) none (.ref 81) .none), #[]⟩),
  (nat_lit 83, ⟨(.type "tuple"), none, (.seq #[] 0), #[]⟩),
  (nat_lit 85, ⟨(.type "tuple"), none, (.seq (List.toArray [(PK.st "part_count" 303), (PK.st "with_runs" 304), (PK.st "entry" 305)]) 0), #[]⟩),
  (nat_lit 86, ⟨(.type "tuple"), none, (.seq #[] 0), #[]⟩),
  (nat_lit 88, ⟨(.type "code"), none, (.fields (List.toArray [(PK.st "front_size" 300), (PK.st "front_size" 301), (PK.st "/claim/cut.py" 302), (.int (49) 0), (.int (2) 0), (.int (0) 0), (.int (0) 0), (.int (3) 0), (.ref 83), (.bool true), (.int (181) 0), (.ref 84), .none, (.ref 85), (.ref 86), (.ref 87), (.int (306) 0), (.int (49) 0), (PK.st "/claim/cut.py" 307)])), #[]⟩),
  (nat_lit 89, ⟨(.type "function"), none, (fo "front_size" "front_size" s_front_size .none .none .none (PK.st "packedsets.form" 240) none (.ref 88) .none), #[]⟩),
  (nat_lit 90, ⟨(.type "tuple"), none, (.seq (List.toArray [(.type "ValueError")]) 0), #[]⟩),
  (nat_lit 97, ⟨(.type "tuple"), none, (.seq #[] 0), #[]⟩),
  (nat_lit 98, ⟨(.type "dict"), none, (.dict (List.toArray [en P "__module__" 318 (PK.st "packedsets.reader" 309), en P "__firstlineno__" 322 (.int (53) 321), en P "__static_attributes__" 323 (.ref 97), en P "__weakref__" 325 (.ref 100), en P "__doc__" 326 .none]) 3), #[]⟩),
  (nat_lit 99, ⟨(.type "type"), none, (.cls ⟨(.ofString "NotASet"), [(.type "ValueError")], [(.ref 99), (.type "ValueError"), (.type "Exception"), (.type "BaseException"), (.type "object")], 98, (.ofString "NotASet"), true, [], [], false, none, false⟩), (List.toArray [(some (.ref 90)), none, (some (PK.st "NotASet" 311)), (some (PK.st "NotASet" 319)), (some (.builtin "ValueError.__new__")), (some (.bool true))])⟩),
  (nat_lit 100, ⟨(.type "getset_descriptor"), none, (.fields (List.toArray [(PK.st "__weakref__" 324), (.ref 99), (.builtin "ExceptionGroup.__weakref__"), .none])), #[]⟩),
  (nat_lit 103, ⟨(.type "tuple"), none, (.seq #[] 0), #[]⟩),
  (nat_lit 105, ⟨(.type "tuple"), none, (.seq (List.toArray [(PK.st "holds" 332)]) 0), #[]⟩),
  (nat_lit 106, ⟨(.type "tuple"), none, (.seq #[] 0), #[]⟩),
  (nat_lit 108, ⟨(.type "code"), none, (.fields (List.toArray [(PK.st "require" 329), (PK.st "require" 330), (PK.st "/claim/cut.py" 331), (.int (55) 0), (.int (1) 0), (.int (0) 0), (.int (0) 0), (.int (3) 0), (.ref 103), (.bool true), (.int (181) 0), (.ref 104), .none, (.ref 105), (.ref 106), (.ref 107), (.int (333) 0), (.int (55) 0), (PK.st "/claim/cut.py" 334)])), #[]⟩),
  (nat_lit 109, ⟨(.type "function"), none, (fo "require" "require" s_require .none .none .none (PK.st "packedsets.reader" 309) none (.ref 108) .none), #[]⟩),
  (nat_lit 110, ⟨(.type "tuple"), none, (.seq #[] 0), #[]⟩),
  (nat_lit 112, ⟨(.type "tuple"), none, (.seq (List.toArray [(PK.st "a" 339), (PK.st "place" 340), (PK.st "size" 341), (PK.st "number" 342), (PK.st "i" 343)]) 0), #[]⟩),
  (nat_lit 113, ⟨(.type "tuple"), none, (.seq #[] 0), #[]⟩),
  (nat_lit 115, ⟨(.type "code"), none, (.fields (List.toArray [(PK.st "number_at" 336), (PK.st "number_at" 337), (PK.st "/claim/cut.py" 338), (.int (58) 0), (.int (3) 0), (.int (0) 0), (.int (0) 0), (.int (3) 0), (.ref 110), (.bool true), (.int (181) 0), (.ref 111), .none, (.ref 112), (.ref 113), (.ref 114), (.int (344) 0), (.int (58) 0), (PK.st "/claim/cut.py" 345)])), #[]⟩),
  (nat_lit 116, ⟨(.type "function"), none, (fo "number_at" "number_at" s_number_at .none .none .none (PK.st "packedsets.reader" 309) none (.ref 115) .none), #[]⟩),
  (nat_lit 117, ⟨(.type "tuple"), none, (.seq #[] 0), #[]⟩),
  (nat_lit 119, ⟨(.type "tuple"), none, (.seq (List.toArray [(PK.st "a" 350), (PK.st "part_count" 351)]) 0), #[]⟩),
  (nat_lit 120, ⟨(.type "tuple"), none, (.seq #[] 0), #[]⟩),
  (nat_lit 122, ⟨(.type "code"), none, (.fields (List.toArray [(PK.st "plain_marks" 347), (PK.st "plain_marks" 348), (PK.st "/claim/cut.py" 349), (.int (64) 0), (.int (1) 0), (.int (0) 0), (.int (0) 0), (.int (3) 0), (.ref 117), (.bool true), (.int (181) 0), (.ref 118), .none, (.ref 119), (.ref 120), (.ref 121), (.int (352) 0), (.int (64) 0), (PK.st "/claim/cut.py" 353)])), #[]⟩),
  (nat_lit 123, ⟨(.type "function"), none, (fo "plain_marks" "plain_marks" s_plain_marks .none .none .none (PK.st "packedsets.reader" 309) none (.ref 122) .none), #[]⟩),
  (nat_lit 124, ⟨(.type "tuple"), none, (.seq #[] 0), #[]⟩),
  (nat_lit 127, ⟨(.type "code"), none, (.fields (List.toArray [(PK.st "runs_marks" 355), (PK.st "runs_marks" 356), (PK.st "/claim/cut.py" 357), (.int (68) 0), (.int (2) 0), (.int (0) 0), (.int (0) 0), (.int (3) 0), (.ref 124), (.bool true), (.int (181) 0), (.ref 125), .none, .none, .none, (.ref 126), (.int (358) 0), (.int (68) 0), (PK.st "/claim/cut.py" 359)])), #[]⟩),
  (nat_lit 128, ⟨(.type "function"), none, (fo "runs_marks" "runs_marks" s_runs_marks .none .none .none (PK.st "packedsets.reader" 309) none (.ref 127) .none), #[]⟩),
  (nat_lit 129, ⟨(.type "tuple"), none, (.seq #[] 0), #[]⟩),
  (nat_lit 131, ⟨(.type "tuple"), none, (.seq (List.toArray [(PK.st "a" 364), (PK.st "first" 365)]) 0), #[]⟩),
  (nat_lit 132, ⟨(.type "tuple"), none, (.seq #[] 0), #[]⟩),
  (nat_lit 134, ⟨(.type "code"), none, (.fields (List.toArray [(PK.st "read_marks" 361), (PK.st "read_marks" 362), (PK.st "/claim/cut.py" 363), (.int (76) 0), (.int (1) 0), (.int (0) 0), (.int (0) 0), (.int (3) 0), (.ref 129), (.bool true), (.int (181) 0), (.ref 130), .none, (.ref 131), (.ref 132), (.ref 133), (.int (366) 0), (.int (76) 0), (PK.st "/claim/cut.py" 367)])), #[]⟩),
  (nat_lit 135, ⟨(.type "function"), none, (fo "read_marks" "read_marks" s_read_marks .none .none .none (PK.st "packedsets.reader" 309) none (.ref 134) .none), #[]⟩),
  (nat_lit 136, ⟨(.type "tuple"), none, (.seq #[] 0), #[]⟩),
  (nat_lit 139, ⟨(.type "code"), none, (.fields (List.toArray [(PK.st "read_keys" 369), (PK.st "read_keys" 370), (PK.st "/claim/cut.py" 371), (.int (82) 0), (.int (3) 0), (.int (0) 0), (.int (0) 0), (.int (3) 0), (.ref 136), (.bool true), (.int (181) 0), (.ref 137), .none, .none, .none, (.ref 138), (.int (372) 0), (.int (82) 0), (PK.st "/claim/cut.py" 373)])), #[]⟩),
  (nat_lit 140, ⟨(.type "function"), none, (fo "read_keys" "read_keys" s_read_keys .none .none .none (PK.st "packedsets.reader" 309) none (.ref 139) .none), #[]⟩),
  (nat_lit 141, ⟨(.type "tuple"), none, (.seq #[] 0), #[]⟩),
  (nat_lit 143, ⟨(.type "tuple"), none, (.seq (List.toArray [(PK.st "a" 378), (PK.st "place" 379), (PK.st "edges" 380), (PK.st "end" 381), (PK.st "i" 382), (PK.st "first" 383)]) 0), #[]⟩),
  (nat_lit 144, ⟨(.type "tuple"), none, (.seq #[] 0), #[]⟩),
  (nat_lit 146, ⟨(.type "code"), none, (.fields (List.toArray [(PK.st "read_runs" 375), (PK.st "read_runs" 376), (PK.st "/claim/cut.py" 377), (.int (87) 0), (.int (2) 0), (.int (0) 0), (.int (0) 0), (.int (3) 0), (.ref 141), (.bool true), (.int (181) 0), (.ref 142), .none, (.ref 143), (.ref 144), (.ref 145), (.int (384) 0), (.int (87) 0), (PK.st "/claim/cut.py" 385)])), #[]⟩),
  (nat_lit 147, ⟨(.type "function"), none, (fo "read_runs" "read_runs" s_read_runs .none .none .none (PK.st "packedsets.reader" 309) none (.ref 146) .none), #[]⟩),
  (nat_lit 148, ⟨(.type "tuple"), none, (.seq #[] 0), #[]⟩),
  (nat_lit 150, ⟨(.type "tuple"), none, (.seq (List.toArray [(PK.st "a" 390), (PK.st "place" 391), (PK.st "count" 392), (PK.st "edges" 393), (PK.st "last" 394), (PK.st "i" 395), (PK.st "number" 396)]) 0), #[]⟩),
  (nat_lit 151, ⟨(.type "tuple"), none, (.seq #[] 0), #[]⟩),
  (nat_lit 153, ⟨(.type "code"), none, (.fields (List.toArray [(PK.st "read_list" 387), (PK.st "read_list" 388), (PK.st "/claim/cut.py" 389), (.int (97) 0), (.int (3) 0), (.int (0) 0), (.int (0) 0), (.int (3) 0), (.ref 148), (.bool true), (.int (181) 0), (.ref 149), .none, (.ref 150), (.ref 151), (.ref 152), (.int (397) 0), (.int (97) 0), (PK.st "/claim/cut.py" 398)])), #[]⟩),
  (nat_lit 154, ⟨(.type "function"), none, (fo "read_list" "read_list" s_read_list .none .none .none (PK.st "packedsets.reader" 309) none (.ref 153) .none), #[]⟩),
  (nat_lit 155, ⟨(.type "tuple"), none, (.seq #[] 0), #[]⟩),
  (nat_lit 157, ⟨(.type "tuple"), none, (.seq (List.toArray [(PK.st "a" 403), (PK.st "place" 404), (PK.st "edges" 405), (PK.st "inside" 406), (PK.st "i" 407), (PK.st "byte" 408), (PK.st "bit" 409)]) 0), #[]⟩),
  (nat_lit 158, ⟨(.type "tuple"), none, (.seq #[] 0), #[]⟩),
  (nat_lit 160, ⟨(.type "code"), none, (.fields (List.toArray [(PK.st "read_bits" 400), (PK.st "read_bits" 401), (PK.st "/claim/cut.py" 402), (.int (106) 0), (.int (2) 0), (.int (0) 0), (.int (0) 0), (.int (3) 0), (.ref 155), (.bool true), (.int (181) 0), (.ref 156), .none, (.ref 157), (.ref 158), (.ref 159), (.int (410) 0), (.int (106) 0), (PK.st "/claim/cut.py" 411)])), #[]⟩),
  (nat_lit 161, ⟨(.type "function"), none, (fo "read_bits" "read_bits" s_read_bits .none .none .none (PK.st "packedsets.reader" 309) none (.ref 160) .none), #[]⟩),
  (nat_lit 162, ⟨(.type "tuple"), none, (.seq #[] 0), #[]⟩),
  (nat_lit 164, ⟨(.type "tuple"), none, (.seq (List.toArray [(PK.st "a" 416), (PK.st "place" 417), (PK.st "mark" 418), (PK.st "count" 419), (PK.st "edges" 420)]) 0), #[]⟩),
  (nat_lit 165, ⟨(.type "tuple"), none, (.seq #[] 0), #[]⟩),
  (nat_lit 167, ⟨(.type "code"), none, (.fields (List.toArray [(PK.st "read_part" 413), (PK.st "read_part" 414), (PK.st "/claim/cut.py" 415), (.int (121) 0), (.int (4) 0), (.int (0) 0), (.int (0) 0), (.int (3) 0), (.ref 162), (.bool true), (.int (181) 0), (.ref 163), .none, (.ref 164), (.ref 165), (.ref 166), (.int (421) 0), (.int (121) 0), (PK.st "/claim/cut.py" 422)])), #[]⟩),
  (nat_lit 168, ⟨(.type "function"), none, (fo "read_part" "read_part" s_read_part .none .none .none (PK.st "packedsets.reader" 309) none (.ref 167) .none), #[]⟩),
  (nat_lit 169, ⟨(.type "tuple"), none, (.seq #[] 0), #[]⟩),
  (nat_lit 171, ⟨(.type "tuple"), none, (.seq (List.toArray [(PK.st "mark" 427), (PK.st "count" 428), (PK.st "part_edges" 429)]) 0), #[]⟩),
  (nat_lit 172, ⟨(.type "tuple"), none, (.seq #[] 0), #[]⟩),
  (nat_lit 174, ⟨(.type "code"), none, (.fields (List.toArray [(PK.st "read_size" 424), (PK.st "read_size" 425), (PK.st "/claim/cut.py" 426), (.int (130) 0), (.int (3) 0), (.int (0) 0), (.int (0) 0), (.int (3) 0), (.ref 169), (.bool true), (.int (181) 0), (.ref 170), .none, (.ref 171), (.ref 172), (.ref 173), (.int (430) 0), (.int (130) 0), (PK.st "/claim/cut.py" 431)])), #[]⟩),
  (nat_lit 175, ⟨(.type "function"), none, (fo "read_size" "read_size" s_read_size .none .none .none (PK.st "packedsets.reader" 309) none (.ref 174) .none), #[]⟩),
  (nat_lit 176, ⟨(.type "tuple"), none, (.seq #[] 0), #[]⟩),
  (nat_lit 179, ⟨(.type "code"), none, (.fields (List.toArray [(PK.st "add_part" 433), (PK.st "add_part" 434), (PK.st "/claim/cut.py" 435), (.int (132) 0), (.int (3) 0), (.int (0) 0), (.int (0) 0), (.int (3) 0), (.ref 176), (.bool true), (.int (181) 0), (.ref 177), .none, .none, .none, (.ref 178), (.int (436) 0), (.int (132) 0), (PK.st "/claim/cut.py" 437)])), #[]⟩),
  (nat_lit 180, ⟨(.type "function"), none, (fo "add_part" "add_part" s_add_part .none .none .none (PK.st "packedsets.reader" 309) none (.ref 179) .none), #[]⟩),
  (nat_lit 181, ⟨(.type "tuple"), none, (.seq #[] 0), #[]⟩),
  (nat_lit 183, ⟨(.type "tuple"), none, (.seq (List.toArray [(PK.st "a" 442), (PK.st "marks" 443), (PK.st "part_count" 444), (PK.st "with_runs" 445), (PK.st "head" 446), (PK.st "keys" 447), (PK.st "place" 448), (PK.st "edges" 449), (PK.st "i" 450), (PK.st "count" 451), (PK.st "part_edges" 452)]) 0), #[]⟩),
  (nat_lit 184, ⟨(.type "tuple"), none, (.seq #[] 0), #[]⟩),
  (nat_lit 186, ⟨(.type "code"), none, (.fields (List.toArray [(PK.st "read_edges" 439), (PK.st "read_edges" 440), (PK.st "/claim/cut.py" 441), (.int (139) 0), (.int (1) 0), (.int (0) 0), (.int (0) 0), (.int (3) 0), (.ref 181), (.bool true), (.int (181) 0), (.ref 182), .none, (.ref 183), (.ref 184), (.ref 185), (.int (453) 0), (.int (139) 0), (PK.st "/claim/cut.py" 454)])), #[]⟩),
  (nat_lit 187, ⟨(.type "function"), none, (fo "read_edges" "read_edges" s_read_edges .none .none .none (PK.st "packedsets.reader" 309) none (.ref 186) .none), #[]⟩),
  (nat_lit 195, ⟨(.type "tuple"), none, (.seq #[] 0), #[]⟩),
  (nat_lit 197, ⟨(.type "tuple"), none, (.seq (List.toArray [(PK.st "self" 473), (PK.st "key" 474)]) 0), #[]⟩),
  (nat_lit 198, ⟨(.type "tuple"), none, (.seq #[] 0), #[]⟩),
  (nat_lit 200, ⟨(.type "code"), none, (.fields (List.toArray [(PK.st "__init__" 470), (PK.st "Part.__init__" 471), (PK.st "/claim/cut.py" 472), (.int (159) 0), (.int (2) 0), (.int (0) 0), (.int (0) 0), (.int (3) 0), (.ref 195), (.bool true), (.int (181) 0), (.ref 196), .none, (.ref 197), (.ref 198), (.ref 199), (.int (475) 0), (.int (159) 0), (PK.st "/claim/cut.py" 476)])), #[]⟩),
  (nat_lit 201, ⟨(.type "function"), none, (fo "__init__" "Part.__init__" s_Part_init .none .none .none (PK.st "packedsets.writer" 456) none (.ref 200) .none), #[]⟩),
  (nat_lit 202, ⟨(.type "tuple"), none, (.seq (List.toArray [(PK.st "as_runs" 478), (PK.st "edges" 479), (PK.st "key" 480)]) 0), #[]⟩),
  (nat_lit 203, ⟨(.type "dict"), none, (.dict (List.toArray [en P "__module__" 465 (PK.st "packedsets.writer" 456), en P "__firstlineno__" 469 (.int (157) 468), en P "__init__" 477 (.ref 201), en P "__static_attributes__" 481 (.ref 202), en P "__dict__" 483 (.ref 205), en P "__weakref__" 485 (.ref 206), en P "__doc__" 486 .none]) 4), #[]⟩),
  (nat_lit 204, ⟨(.type "type"), none, (.cls ⟨(.ofString "Part"), [(.type "object")], [(.ref 204), (.type "object")], 203, (.ofString "Part"), true, [], [], false, none, false⟩), (List.toArray [none, none, (some (PK.st "Part" 458)), (some (PK.st "Part" 466)), (some (.builtin "object.__new__")), (some (.bool true))])⟩),
  (nat_lit 205, ⟨(.type "getset_descriptor"), none, (.fields (List.toArray [(PK.st "__dict__" 482), (.ref 204), (.builtin "function.__dict__"), (.builtin "function.__dict__#set")])), #[]⟩),
  (nat_lit 206, ⟨(.type "getset_descriptor"), none, (.fields (List.toArray [(PK.st "__weakref__" 484), (.ref 204), (.builtin "ExceptionGroup.__weakref__"), .none])), #[]⟩),
  (nat_lit 209, ⟨(.type "tuple"), none, (.seq #[] 0), #[]⟩),
  (nat_lit 211, ⟨(.type "tuple"), none, (.seq (List.toArray [(PK.st "edges" 492), (PK.st "parts" 493), (PK.st "i" 494), (PK.st "first" 495), (PK.st "key" 496), (PK.st "base" 497), (PK.st "end" 498)]) 0), #[]⟩),
  (nat_lit 212, ⟨(.type "tuple"), none, (.seq #[] 0), #[]⟩),
  (nat_lit 214, ⟨(.type "code"), none, (.fields (List.toArray [(PK.st "cut_into_parts" 489), (PK.st "cut_into_parts" 490), (PK.st "/claim/cut.py" 491), (.int (163) 0), (.int (1) 0), (.int (0) 0), (.int (0) 0), (.int (3) 0), (.ref 209), (.bool true), (.int (181) 0), (.ref 210), .none, (.ref 211), (.ref 212), (.ref 213), (.int (499) 0), (.int (163) 0), (PK.st "/claim/cut.py" 500)])), #[]⟩),
  (nat_lit 215, ⟨(.type "function"), none, (fo "cut_into_parts" "cut_into_parts" s_cut_into_parts .none .none .none (PK.st "packedsets.writer" 456) none (.ref 214) .none), #[]⟩),
  (nat_lit 216, ⟨(.type "tuple"), none, (.seq #[] 0), #[]⟩),
  (nat_lit 218, ⟨(.type "tuple"), none, (.seq (List.toArray [(PK.st "part" 505)]) 0), #[]⟩),
  (nat_lit 219, ⟨(.type "tuple"), none, (.seq #[] 0), #[]⟩),
  (nat_lit 221, ⟨(.type "code"), none, (.fields (List.toArray [(PK.st "size_as_runs" 502), (PK.st "size_as_runs" 503), (PK.st "/claim/cut.py" 504), (.int (177) 0), (.int (1) 0), (.int (0) 0), (.int (0) 0), (.int (3) 0), (.ref 216), (.bool true), (.int (181) 0), (.ref 217), .none, (.ref 218), (.ref 219), (.ref 220), (.int (506) 0), (.int (177) 0), (PK.st "/claim/cut.py" 507)])), #[]⟩),
  (nat_lit 222, ⟨(.type "function"), none, (fo "size_as_runs" "size_as_runs" s_size_as_runs .none .none .none (PK.st "packedsets.writer" 456) none (.ref 221) .none), #[]⟩),
  (nat_lit 223, ⟨(.type "tuple"), none, (.seq #[] 0), #[]⟩),
  (nat_lit 225, ⟨(.type "tuple"), none, (.seq (List.toArray [(PK.st "part" 512)]) 0), #[]⟩),
  (nat_lit 226, ⟨(.type "tuple"), none, (.seq #[] 0), #[]⟩),
  (nat_lit 228, ⟨(.type "code"), none, (.fields (List.toArray [(PK.st "size_as_plain" 509), (PK.st "size_as_plain" 510), (PK.st "/claim/cut.py" 511), (.int (179) 0), (.int (1) 0), (.int (0) 0), (.int (0) 0), (.int (3) 0), (.ref 223), (.bool true), (.int (181) 0), (.ref 224), .none, (.ref 225), (.ref 226), (.ref 227), (.int (513) 0), (.int (179) 0), (PK.st "/claim/cut.py" 514)])), #[]⟩),
  (nat_lit 229, ⟨(.type "function"), none, (fo "size_as_plain" "size_as_plain" s_size_as_plain .none .none .none (PK.st "packedsets.writer" 456) none (.ref 228) .none), #[]⟩),
  (nat_lit 230, ⟨(.type "tuple"), none, (.seq #[] 0), #[]⟩),
  (nat_lit 232, ⟨(.type "tuple"), none, (.seq (List.toArray [(PK.st "edges" 519), (PK.st "runs" 520), (PK.st "parts" 521), (PK.st "part" 522)]) 0), #[]⟩),
  (nat_lit 233, ⟨(.type "tuple"), none, (.seq #[] 0), #[]⟩),
  (nat_lit 235, ⟨(.type "code"), none, (.fields (List.toArray [(PK.st "plan_parts" 516), (PK.st "plan_parts" 517), (PK.st "/claim/cut.py" 518), (.int (181) 0), (.int (2) 0), (.int (0) 0), (.int (0) 0), (.int (3) 0), (.ref 230), (.bool true), (.int (181) 0), (.ref 231), .none, (.ref 232), (.ref 233), (.ref 234), (.int (523) 0), (.int (181) 0), (PK.st "/claim/cut.py" 524)])), #[]⟩),
  (nat_lit 236, ⟨(.type "function"), none, (fo "plan_parts" "plan_parts" s_plan_parts .none .none .none (PK.st "packedsets.writer" 456) none (.ref 235) .none), #[]⟩),
  (nat_lit 237, ⟨(.type "tuple"), none, (.seq #[] 0), #[]⟩),
  (nat_lit 240, ⟨(.type "code"), none, (.fields (List.toArray [(PK.st "has_runs" 526), (PK.st "has_runs" 527), (PK.st "/claim/cut.py" 528), (.int (187) 0), (.int (1) 0), (.int (0) 0), (.int (0) 0), (.int (3) 0), (.ref 237), (.bool true), (.int (181) 0), (.ref 238), .none, .none, .none, (.ref 239), (.int (529) 0), (.int (187) 0), (PK.st "/claim/cut.py" 530)])), #[]⟩),
  (nat_lit 241, ⟨(.type "function"), none, (fo "has_runs" "has_runs" s_has_runs .none .none .none (PK.st "packedsets.writer" 456) none (.ref 240) .none), #[]⟩),
  (nat_lit 242, ⟨(.type "tuple"), none, (.seq #[] 0), #[]⟩),
  (nat_lit 244, ⟨(.type "tuple"), none, (.seq (List.toArray [(PK.st "part" 535)]) 0), #[]⟩),
  (nat_lit 245, ⟨(.type "tuple"), none, (.seq #[] 0), #[]⟩),
  (nat_lit 247, ⟨(.type "code"), none, (.fields (List.toArray [(PK.st "part_size" 532), (PK.st "part_size" 533), (PK.st "/claim/cut.py" 534), (.int (189) 0), (.int (1) 0), (.int (0) 0), (.int (0) 0), (.int (3) 0), (.ref 242), (.bool true), (.int (181) 0), (.ref 243), .none, (.ref 244), (.ref 245), (.ref 246), (.int (536) 0), (.int (189) 0), (PK.st "/claim/cut.py" 537)])), #[]⟩),
  (nat_lit 248, ⟨(.type "function"), none, (fo "part_size" "part_size" s_part_size .none .none .none (PK.st "packedsets.writer" 456) none (.ref 247) .none), #[]⟩),
  (nat_lit 249, ⟨(.type "tuple"), none, (.seq #[] 0), #[]⟩),
  (nat_lit 252, ⟨(.type "code"), none, (.fields (List.toArray [(PK.st "set_size" 539), (PK.st "set_size" 540), (PK.st "/claim/cut.py" 541), (.int (191) 0), (.int (1) 0), (.int (0) 0), (.int (0) 0), (.int (3) 0), (.ref 249), (.bool true), (.int (181) 0), (.ref 250), .none, .none, .none, (.ref 251), (.int (542) 0), (.int (191) 0), (PK.st "/claim/cut.py" 543)])), #[]⟩),
  (nat_lit 253, ⟨(.type "function"), none, (fo "set_size" "set_size" s_set_size .none .none .none (PK.st "packedsets.writer" 456) none (.ref 252) .none), #[]⟩),
  (nat_lit 254, ⟨(.type "tuple"), none, (.seq #[] 0), #[]⟩),
  (nat_lit 257, ⟨(.type "code"), none, (.fields (List.toArray [(PK.st "number_bytes" 545), (PK.st "number_bytes" 546), (PK.st "/claim/cut.py" 547), (.int (193) 0), (.int (2) 0), (.int (0) 0), (.int (0) 0), (.int (3) 0), (.ref 254), (.bool true), (.int (181) 0), (.ref 255), .none, .none, .none, (.ref 256), (.int (548) 0), (.int (193) 0), (PK.st "/claim/cut.py" 549)])), #[]⟩),
  (nat_lit 258, ⟨(.type "function"), none, (fo "number_bytes" "number_bytes" s_number_bytes .none .none .none (PK.st "packedsets.writer" 456) none (.ref 257) .none), #[]⟩),
  (nat_lit 259, ⟨(.type "tuple"), none, (.seq #[] 0), #[]⟩),
  (nat_lit 261, ⟨(.type "tuple"), none, (.seq (List.toArray [(PK.st "part" 554), (PK.st "numbers" 555), (PK.st "i" 556)]) 0), #[]⟩),
  (nat_lit 262, ⟨(.type "tuple"), none, (.seq #[] 0), #[]⟩),
  (nat_lit 264, ⟨(.type "code"), none, (.fields (List.toArray [(PK.st "numbers_within" 551), (PK.st "numbers_within" 552), (PK.st "/claim/cut.py" 553), (.int (195) 0), (.int (1) 0), (.int (0) 0), (.int (0) 0), (.int (3) 0), (.ref 259), (.bool true), (.int (181) 0), (.ref 260), .none, (.ref 261), (.ref 262), (.ref 263), (.int (557) 0), (.int (195) 0), (PK.st "/claim/cut.py" 558)])), #[]⟩),
  (nat_lit 265, ⟨(.type "function"), none, (fo "numbers_within" "numbers_within" s_numbers_within .none .none .none (PK.st "packedsets.writer" 456) none (.ref 264) .none), #[]⟩),
  (nat_lit 266, ⟨(.type "tuple"), none, (.seq #[] 0), #[]⟩),
  (nat_lit 268, ⟨(.type "tuple"), none, (.seq (List.toArray [(PK.st "part" 563), (PK.st "written" 564), (PK.st "i" 565), (PK.st "first" 566)]) 0), #[]⟩),
  (nat_lit 269, ⟨(.type "tuple"), none, (.seq #[] 0), #[]⟩),
  (nat_lit 271, ⟨(.type "code"), none, (.fields (List.toArray [(PK.st "runs_bytes" 560), (PK.st "runs_bytes" 561), (PK.st "/claim/cut.py" 562), (.int (200) 0), (.int (1) 0), (.int (0) 0), (.int (0) 0), (.int (3) 0), (.ref 266), (.bool true), (.int (181) 0), (.ref 267), .none, (.ref 268), (.ref 269), (.ref 270), (.int (567) 0), (.int (200) 0), (PK.st "/claim/cut.py" 568)])), #[]⟩),
  (nat_lit 272, ⟨(.type "function"), none, (fo "runs_bytes" "runs_bytes" s_runs_bytes .none .none .none (PK.st "packedsets.writer" 456) none (.ref 271) .none), #[]⟩),
  (nat_lit 273, ⟨(.type "tuple"), none, (.seq #[] 0), #[]⟩),
  (nat_lit 275, ⟨(.type "tuple"), none, (.seq (List.toArray [(PK.st "part" 573), (PK.st "written" 574), (PK.st "number" 575)]) 0), #[]⟩),
  (nat_lit 276, ⟨(.type "tuple"), none, (.seq #[] 0), #[]⟩),
  (nat_lit 278, ⟨(.type "code"), none, (.fields (List.toArray [(PK.st "list_bytes" 570), (PK.st "list_bytes" 571), (PK.st "/claim/cut.py" 572), (.int (207) 0), (.int (1) 0), (.int (0) 0), (.int (0) 0), (.int (3) 0), (.ref 273), (.bool true), (.int (181) 0), (.ref 274), .none, (.ref 275), (.ref 276), (.ref 277), (.int (576) 0), (.int (207) 0), (PK.st "/claim/cut.py" 577)])), #[]⟩),
  (nat_lit 279, ⟨(.type "function"), none, (fo "list_bytes" "list_bytes" s_list_bytes .none .none .none (PK.st "packedsets.writer" 456) none (.ref 278) .none), #[]⟩),
  (nat_lit 280, ⟨(.type "tuple"), none, (.seq #[] 0), #[]⟩),
  (nat_lit 282, ⟨(.type "tuple"), none, (.seq (List.toArray [(PK.st "part" 582), (PK.st "written" 583), (PK.st "number" 584)]) 0), #[]⟩),
  (nat_lit 283, ⟨(.type "tuple"), none, (.seq #[] 0), #[]⟩),
  (nat_lit 285, ⟨(.type "code"), none, (.fields (List.toArray [(PK.st "bits_bytes" 579), (PK.st "bits_bytes" 580), (PK.st "/claim/cut.py" 581), (.int (212) 0), (.int (1) 0), (.int (0) 0), (.int (0) 0), (.int (3) 0), (.ref 280), (.bool true), (.int (181) 0), (.ref 281), .none, (.ref 282), (.ref 283), (.ref 284), (.int (585) 0), (.int (212) 0), (PK.st "/claim/cut.py" 586)])), #[]⟩),
  (nat_lit 286, ⟨(.type "function"), none, (fo "bits_bytes" "bits_bytes" s_bits_bytes .none .none .none (PK.st "packedsets.writer" 456) none (.ref 285) .none), #[]⟩),
  (nat_lit 287, ⟨(.type "tuple"), none, (.seq #[] 0), #[]⟩),
  (nat_lit 289, ⟨(.type "tuple"), none, (.seq (List.toArray [(PK.st "part" 591)]) 0), #[]⟩),
  (nat_lit 290, ⟨(.type "tuple"), none, (.seq #[] 0), #[]⟩),
  (nat_lit 292, ⟨(.type "code"), none, (.fields (List.toArray [(PK.st "part_bytes" 588), (PK.st "part_bytes" 589), (PK.st "/claim/cut.py" 590), (.int (217) 0), (.int (1) 0), (.int (0) 0), (.int (0) 0), (.int (3) 0), (.ref 287), (.bool true), (.int (181) 0), (.ref 288), .none, (.ref 289), (.ref 290), (.ref 291), (.int (592) 0), (.int (217) 0), (PK.st "/claim/cut.py" 593)])), #[]⟩),
  (nat_lit 293, ⟨(.type "function"), none, (fo "part_bytes" "part_bytes" s_part_bytes .none .none .none (PK.st "packedsets.writer" 456) none (.ref 292) .none), #[]⟩),
  (nat_lit 294, ⟨(.type "tuple"), none, (.seq #[] 0), #[]⟩),
  (nat_lit 296, ⟨(.type "tuple"), none, (.seq (List.toArray [(PK.st "parts" 598), (PK.st "written" 599), (PK.st "i" 600), (PK.st "part" 601)]) 0), #[]⟩),
  (nat_lit 297, ⟨(.type "tuple"), none, (.seq #[] 0), #[]⟩),
  (nat_lit 299, ⟨(.type "code"), none, (.fields (List.toArray [(PK.st "marks_bytes" 595), (PK.st "marks_bytes" 596), (PK.st "/claim/cut.py" 597), (.int (223) 0), (.int (1) 0), (.int (0) 0), (.int (0) 0), (.int (3) 0), (.ref 294), (.bool true), (.int (181) 0), (.ref 295), .none, (.ref 296), (.ref 297), (.ref 298), (.int (602) 0), (.int (223) 0), (PK.st "/claim/cut.py" 603)])), #[]⟩),
  (nat_lit 300, ⟨(.type "function"), none, (fo "marks_bytes" "marks_bytes" s_marks_bytes .none .none .none (PK.st "packedsets.writer" 456) none (.ref 299) .none), #[]⟩),
  (nat_lit 301, ⟨(.type "tuple"), none, (.seq #[] 0), #[]⟩),
  (nat_lit 303, ⟨(.type "tuple"), none, (.seq (List.toArray [(PK.st "parts" 608)]) 0), #[]⟩),
  (nat_lit 304, ⟨(.type "tuple"), none, (.seq #[] 0), #[]⟩),
  (nat_lit 306, ⟨(.type "code"), none, (.fields (List.toArray [(PK.st "first_bytes" 605), (PK.st "first_bytes" 606), (PK.st "/claim/cut.py" 607), (.int (229) 0), (.int (1) 0), (.int (0) 0), (.int (0) 0), (.int (3) 0), (.ref 301), (.bool true), (.int (181) 0), (.ref 302), .none, (.ref 303), (.ref 304), (.ref 305), (.int (609) 0), (.int (229) 0), (PK.st "/claim/cut.py" 610)])), #[]⟩),
  (nat_lit 307, ⟨(.type "function"), none, (fo "first_bytes" "first_bytes" s_first_bytes .none .none .none (PK.st "packedsets.writer" 456) none (.ref 306) .none), #[]⟩),
  (nat_lit 308, ⟨(.type "tuple"), none, (.seq #[] 0), #[]⟩),
  (nat_lit 310, ⟨(.type "tuple"), none, (.seq (List.toArray [(PK.st "parts" 615), (PK.st "written" 616), (PK.st "part" 617)]) 0), #[]⟩),
  (nat_lit 311, ⟨(.type "tuple"), none, (.seq #[] 0), #[]⟩),
  (nat_lit 313, ⟨(.type "code"), none, (.fields (List.toArray [(PK.st "keys_bytes" 612), (PK.st "keys_bytes" 613), (PK.st "/claim/cut.py" 614), (.int (233) 0), (.int (1) 0), (.int (0) 0), (.int (0) 0), (.int (3) 0), (.ref 308), (.bool true), (.int (181) 0), (.ref 309), .none, (.ref 310), (.ref 311), (.ref 312), (.int (618) 0), (.int (233) 0), (PK.st "/claim/cut.py" 619)])), #[]⟩),
  (nat_lit 314, ⟨(.type "function"), none, (fo "keys_bytes" "keys_bytes" s_keys_bytes .none .none .none (PK.st "packedsets.writer" 456) none (.ref 313) .none), #[]⟩),
  (nat_lit 315, ⟨(.type "tuple"), none, (.seq #[] 0), #[]⟩),
  (nat_lit 317, ⟨(.type "tuple"), none, (.seq (List.toArray [(PK.st "parts" 624), (PK.st "written" 625), (PK.st "place" 626), (PK.st "part" 627)]) 0), #[]⟩),
  (nat_lit 318, ⟨(.type "tuple"), none, (.seq #[] 0), #[]⟩),
  (nat_lit 320, ⟨(.type "code"), none, (.fields (List.toArray [(PK.st "places_bytes" 621), (PK.st "places_bytes" 622), (PK.st "/claim/cut.py" 623), (.int (239) 0), (.int (1) 0), (.int (0) 0), (.int (0) 0), (.int (3) 0), (.ref 315), (.bool true), (.int (181) 0), (.ref 316), .none, (.ref 317), (.ref 318), (.ref 319), (.int (628) 0), (.int (239) 0), (PK.st "/claim/cut.py" 629)])), #[]⟩),
  (nat_lit 321, ⟨(.type "function"), none, (fo "places_bytes" "places_bytes" s_places_bytes .none .none .none (PK.st "packedsets.writer" 456) none (.ref 320) .none), #[]⟩),
  (nat_lit 322, ⟨(.type "tuple"), none, (.seq #[] 0), #[]⟩),
  (nat_lit 324, ⟨(.type "tuple"), none, (.seq (List.toArray [(PK.st "parts" 634), (PK.st "written" 635), (PK.st "part" 636)]) 0), #[]⟩),
  (nat_lit 325, ⟨(.type "tuple"), none, (.seq #[] 0), #[]⟩),
  (nat_lit 327, ⟨(.type "code"), none, (.fields (List.toArray [(PK.st "set_bytes" 631), (PK.st "set_bytes" 632), (PK.st "/claim/cut.py" 633), (.int (246) 0), (.int (1) 0), (.int (0) 0), (.int (0) 0), (.int (3) 0), (.ref 322), (.bool true), (.int (181) 0), (.ref 323), .none, (.ref 324), (.ref 325), (.ref 326), (.int (637) 0), (.int (246) 0), (PK.st "/claim/cut.py" 638)])), #[]⟩),
  (nat_lit 328, ⟨(.type "function"), none, (fo "set_bytes" "set_bytes" s_set_bytes .none .none .none (PK.st "packedsets.writer" 456) none (.ref 327) .none), #[]⟩),
  (nat_lit 329, ⟨(.type "tuple"), none, (.seq #[] 0), #[]⟩),
  (nat_lit 331, ⟨(.type "tuple"), none, (.seq (List.toArray [(PK.st "how" 658)]) 0), #[]⟩),
  (nat_lit 332, ⟨(.type "tuple"), none, (.seq #[] 0), #[]⟩),
  (nat_lit 334, ⟨(.type "code"), none, (.fields (List.toArray [(PK.st "may_join" 655), (PK.st "may_join" 656), (PK.st "/claim/cut.py" 657), (.int (259) 0), (.int (1) 0), (.int (0) 0), (.int (0) 0), (.int (3) 0), (.ref 329), (.bool true), (.int (181) 0), (.ref 330), .none, (.ref 331), (.ref 332), (.ref 333), (.int (659) 0), (.int (259) 0), (PK.st "/claim/cut.py" 660)])), #[]⟩),
  (nat_lit 335, ⟨(.type "function"), none, (fo "may_join" "may_join" s_may_join .none .none .none (PK.st "packedsets.sets" 640) none (.ref 334) .none), #[]⟩),
  (nat_lit 336, ⟨(.type "tuple"), none, (.seq #[] 0), #[]⟩),
  (nat_lit 338, ⟨(.type "tuple"), none, (.seq (List.toArray [(PK.st "room" 665)]) 0), #[]⟩),
  (nat_lit 339, ⟨(.type "tuple"), none, (.seq #[] 0), #[]⟩),
  (nat_lit 341, ⟨(.type "code"), none, (.fields (List.toArray [(PK.st "may_fill" 662), (PK.st "may_fill" 663), (PK.st "/claim/cut.py" 664), (.int (261) 0), (.int (1) 0), (.int (0) 0), (.int (0) 0), (.int (3) 0), (.ref 336), (.bool true), (.int (181) 0), (.ref 337), .none, (.ref 338), (.ref 339), (.ref 340), (.int (666) 0), (.int (261) 0), (PK.st "/claim/cut.py" 667)])), #[]⟩),
  (nat_lit 342, ⟨(.type "function"), none, (fo "may_fill" "may_fill" s_may_fill .none .none .none (PK.st "packedsets.sets" 640) none (.ref 341) .none), #[]⟩),
  (nat_lit 343, ⟨(.type "tuple"), none, (.seq #[] 0), #[]⟩),
  (nat_lit 345, ⟨(.type "tuple"), none, (.seq (List.toArray [(PK.st "runs" 672), (PK.st "room" 673)]) 0), #[]⟩),
  (nat_lit 346, ⟨(.type "tuple"), none, (.seq #[] 0), #[]⟩),
  (nat_lit 348, ⟨(.type "code"), none, (.fields (List.toArray [(PK.st "may_write" 669), (PK.st "may_write" 670), (PK.st "/claim/cut.py" 671), (.int (263) 0), (.int (2) 0), (.int (0) 0), (.int (0) 0), (.int (3) 0), (.ref 343), (.bool true), (.int (181) 0), (.ref 344), .none, (.ref 345), (.ref 346), (.ref 347), (.int (674) 0), (.int (263) 0), (PK.st "/claim/cut.py" 675)])), #[]⟩),
  (nat_lit 349, ⟨(.type "function"), none, (fo "may_write" "may_write" s_may_write .none .none .none (PK.st "packedsets.sets" 640) none (.ref 348) .none), #[]⟩),
  (nat_lit 350, ⟨(.type "tuple"), none, (.seq #[] 0), #[]⟩),
  (nat_lit 352, ⟨(.type "tuple"), none, (.seq (List.toArray [(PK.st "edges" 680), (PK.st "runs" 681), (PK.st "room" 682), (PK.st "parts" 683), (PK.st "size" 684)]) 0), #[]⟩),
  (nat_lit 353, ⟨(.type "tuple"), none, (.seq #[] 0), #[]⟩),
  (nat_lit 355, ⟨(.type "code"), none, (.fields (List.toArray [(PK.st "answer_set" 677), (PK.st "answer_set" 678), (PK.st "/claim/cut.py" 679), (.int (265) 0), (.int (3) 0), (.int (0) 0), (.int (0) 0), (.int (3) 0), (.ref 350), (.bool true), (.int (181) 0), (.ref 351), .none, (.ref 352), (.ref 353), (.ref 354), (.int (685) 0), (.int (265) 0), (PK.st "/claim/cut.py" 686)])), #[]⟩),
  (nat_lit 356, ⟨(.type "function"), none, (fo "answer_set" "answer_set" s_answer_set .none .none .none (PK.st "packedsets.sets" 640) none (.ref 355) .none), #[]⟩),
  (nat_lit 357, ⟨(.type "tuple"), none, (.seq #[] 0), #[]⟩),
  (nat_lit 359, ⟨(.type "tuple"), none, (.seq (List.toArray [(PK.st "how" 691), (PK.st "runs" 692), (PK.st "room" 693), (PK.st "a" 694), (PK.st "b" 695), (PK.st "left" 696), (PK.st "right" 697)]) 0), #[]⟩),
  (nat_lit 360, ⟨(.type "tuple"), none, (.seq #[] 0), #[]⟩),
  (nat_lit 362, ⟨(.type "code"), none, (.fields (List.toArray [(PK.st "join" 688), (PK.st "join" 689), (PK.st "/claim/cut.py" 690), (.int (271) 0), (.int (5) 0), (.int (0) 0), (.int (0) 0), (.int (3) 0), (.ref 357), (.bool true), (.int (181) 0), (.ref 358), .none, (.ref 359), (.ref 360), (.ref 361), (.int (698) 0), (.int (271) 0), (PK.st "/claim/cut.py" 699)])), #[]⟩),
  (nat_lit 363, ⟨(.type "function"), none, (fo "join" "join" s_join .none .none .none (PK.st "packedsets.sets" 640) none (.ref 362) .none), #[]⟩)]
def KA : List Addr := [nat_lit 2, nat_lit 3, nat_lit 15, nat_lit 16, nat_lit 17, nat_lit 18, nat_lit 19, nat_lit 20, nat_lit 22, nat_lit 23, nat_lit 25, nat_lit 26, nat_lit 27, nat_lit 29, nat_lit 30, nat_lit 32, nat_lit 33, nat_lit 34, nat_lit 36, nat_lit 37, nat_lit 39, nat_lit 40, nat_lit 41, nat_lit 43, nat_lit 44, nat_lit 46, nat_lit 47, nat_lit 48, nat_lit 50, nat_lit 51, nat_lit 53, nat_lit 54, nat_lit 55, nat_lit 57, nat_lit 58, nat_lit 60, nat_lit 61, nat_lit 62, nat_lit 64, nat_lit 65, nat_lit 67, nat_lit 68, nat_lit 69, nat_lit 71, nat_lit 72, nat_lit 74, nat_lit 75, nat_lit 76, nat_lit 78, nat_lit 79, nat_lit 81, nat_lit 82, nat_lit 83, nat_lit 85, nat_lit 86, nat_lit 88, nat_lit 89, nat_lit 90, nat_lit 97, nat_lit 98, nat_lit 99, nat_lit 100, nat_lit 103, nat_lit 105, nat_lit 106, nat_lit 108, nat_lit 109, nat_lit 110, nat_lit 112, nat_lit 113, nat_lit 115, nat_lit 116, nat_lit 117, nat_lit 119, nat_lit 120, nat_lit 122, nat_lit 123, nat_lit 124, nat_lit 127, nat_lit 128, nat_lit 129, nat_lit 131, nat_lit 132, nat_lit 134, nat_lit 135, nat_lit 136, nat_lit 139, nat_lit 140, nat_lit 141, nat_lit 143, nat_lit 144, nat_lit 146, nat_lit 147, nat_lit 148, nat_lit 150, nat_lit 151, nat_lit 153, nat_lit 154, nat_lit 155, nat_lit 157, nat_lit 158, nat_lit 160, nat_lit 161, nat_lit 162, nat_lit 164, nat_lit 165, nat_lit 167, nat_lit 168, nat_lit 169, nat_lit 171, nat_lit 172, nat_lit 174, nat_lit 175, nat_lit 176, nat_lit 179, nat_lit 180, nat_lit 181, nat_lit 183, nat_lit 184, nat_lit 186, nat_lit 187, nat_lit 195, nat_lit 197, nat_lit 198, nat_lit 200, nat_lit 201, nat_lit 202, nat_lit 203, nat_lit 204, nat_lit 205, nat_lit 206, nat_lit 209, nat_lit 211, nat_lit 212, nat_lit 214, nat_lit 215, nat_lit 216, nat_lit 218, nat_lit 219, nat_lit 221, nat_lit 222, nat_lit 223, nat_lit 225, nat_lit 226, nat_lit 228, nat_lit 229, nat_lit 230, nat_lit 232, nat_lit 233, nat_lit 235, nat_lit 236, nat_lit 237, nat_lit 240, nat_lit 241, nat_lit 242, nat_lit 244, nat_lit 245, nat_lit 247, nat_lit 248, nat_lit 249, nat_lit 252, nat_lit 253, nat_lit 254, nat_lit 257, nat_lit 258, nat_lit 259, nat_lit 261, nat_lit 262, nat_lit 264, nat_lit 265, nat_lit 266, nat_lit 268, nat_lit 269, nat_lit 271, nat_lit 272, nat_lit 273, nat_lit 275, nat_lit 276, nat_lit 278, nat_lit 279, nat_lit 280, nat_lit 282, nat_lit 283, nat_lit 285, nat_lit 286, nat_lit 287, nat_lit 289, nat_lit 290, nat_lit 292, nat_lit 293, nat_lit 294, nat_lit 296, nat_lit 297, nat_lit 299, nat_lit 300, nat_lit 301, nat_lit 303, nat_lit 304, nat_lit 306, nat_lit 307, nat_lit 308, nat_lit 310, nat_lit 311, nat_lit 313, nat_lit 314, nat_lit 315, nat_lit 317, nat_lit 318, nat_lit 320, nat_lit 321, nat_lit 322, nat_lit 324, nat_lit 325, nat_lit 327, nat_lit 328, nat_lit 329, nat_lit 331, nat_lit 332, nat_lit 334, nat_lit 335, nat_lit 336, nat_lit 338, nat_lit 339, nat_lit 341, nat_lit 342, nat_lit 343, nat_lit 345, nat_lit 346, nat_lit 348, nat_lit 349, nat_lit 350, nat_lit 352, nat_lit 353, nat_lit 355, nat_lit 356, nat_lit 357, nat_lit 359, nat_lit 360, nat_lit 362, nat_lit 363]
-- steps 2043
def qv : Program := { PySem.Challenge.pw_packedsets_s03_join with main := { PySem.Challenge.pw_packedsets_s03_join.main with body := [top 1, top 2, top 3, top 4, top 5, top 7, top 8, top 9, top 10, top 11, top 12, top 13, top 14, top 15, top 16, top 17, top 18, top 19, top 20, top 22, top 23, top 24, top 25, top 26, top 27, top 28, top 29, top 30, top 31, top 32, top 33, top 34, top 35, top 37, top 38, top 39, top 40, top 41, top 42, top 43, top 44, top 45, top 46, top 47, top 48, top 49, top 50, top 51, top 52, top 53, top 54, top 55, top 57, top 58, top 59, top 60, top 61, top 62, top 63, top 64, top 65, top 66] } }
open PySem.W PyProof.Rows
theorem kA : ∀ P, KA = (KH P).map (·.1) := fun _ => rfl
def HK : Hook := kHook KH KA kA
def XT (s : Shared) : Bool := xlAt qv [] s && recOk [] s
def sees (s : Shared) := openSeen qv [] (importedModules PySem.Challenge.pw_packedsets_s03_join.main.body) XT true s
def good_ := openGood qv []
def ran (w : World) : Option Shared := openEnds treeTable PySem.Challenge.pw_packedsets_s03_join w 4186
theorem map_pair {S A B : Type} {o : Option S} {f : S → A × B} {a : A × B} (h1 : (o.map fun s => (f s).1) = some a.1) (h2 : (o.map fun s => (f s).2) = some a.2) : o.map f = some a := by
  cases o with
  | none => cases h1
  | some s =>
    have e1 : (f s).1 = a.1 := Option.some.inj h1
    have e2 : (f s).2 = a.2 := Option.some.inj h2
    exact congrArg some (Prod.ext e1 e2)
theorem hl_obs (w : World) : ((ran w).map fun s => HK.obs s) = some (HK.val w) := by kernel_rfl
theorem hl_1 (w : World) : ((ran w).map fun s => (sees s).1) = some good_.1 := by kernel_rfl
theorem hl_2 (w : World) : ((ran w).map fun s => (sees s).2.1) = some good_.2.1 := by kernel_rfl
theorem hl_3 (w : World) : ((ran w).map fun s => (sees s).2.2) = some good_.2.2 := by kernel_rfl
theorem hl : LeftO PySem.Challenge.pw_packedsets_s03_join qv [] XT HK.obs HK.val 4186 := fun w => map_pair (f := fun s => (sees s, HK.obs s)) (a := (good_, HK.val w)) (map_pair (hl_1 w) (map_pair (f := fun s => (sees s).2) (a := good_.2) (hl_2 w) (hl_3 w))) (hl_obs w)
end PK
set_option Elab.async false
set_option linter.all false
set_option maxRecDepth 100000
namespace L2
open PySem PySem.Spec PyProof.Rows
abbrev Key := Sum Int Str
def keyIs : Key → Value → Bool
  | .inl k, v => Value.isInt k v
  | .inr x, v => Value.isStrOf x v
def keyH (w : World) : Key → Int
  | .inl k => hashInt k
  | .inr x => hashStr w x
theorem keyIs_shape : ∀ {k : Key} {v : Value}, keyIs k v = true → (∃ i t, k = Sum.inl i ∧ v = Value.int i t) ∨ (∃ x t, k = Sum.inr x ∧ v = Value.str x t)
  | .inl i, v, h => by
    obtain ⟨t, e⟩ := Value.isInt_shape (k := i) (v := v) h
    exact .inl ⟨i, t, rfl, e⟩
  | .inr x, v, h => by
    obtain ⟨t, e⟩ := Value.isStrOf_shape (x := x) (v := v) h
    exact .inr ⟨x, t, rfl, e⟩
theorem key_ll (a b : Int) : decide ((Sum.inl a : Key) = Sum.inl b) = (a == b) := by
  by_cases e : a = b
  · subst e; simp
  · have h : ¬ (Sum.inl a : Key) = Sum.inl b := fun q => e (Sum.inl.inj q)
    rw [decide_eq_false h]
    exact (beq_eq_false_iff_ne.mpr e).symm
theorem key_rr (a b : Str) : decide ((Sum.inr a : Key) = Sum.inr b) = decide (a = b) := by
  by_cases e : a = b
  · subst e; simp
  · have h : ¬ (Sum.inr a : Key) = Sum.inr b := fun q => e (Sum.inr.inj q)
    rw [decide_eq_false h, decide_eq_false e]
theorem key_lr (a : Int) (b : Str) : decide ((Sum.inl a : Key) = Sum.inr b) = false := decide_eq_false (fun q => nomatch q)
theorem key_rl (a : Str) (b : Int) : decide ((Sum.inr a : Key) = Sum.inl b) = false := decide_eq_false (fun q => nomatch q)
def mixKind (prog : Program) (w : World) : PySem.KeyKind prog w Key where
  is := keyIs
  hash := keyH w
  inj := fun v a b ha hb => by
    rcases keyIs_shape ha with ⟨i, t, rfl, rfl⟩ | ⟨x, t, rfl, rfl⟩
    · rcases keyIs_shape hb with ⟨j, u, rfl, e⟩ | ⟨y, u, rfl, e⟩
      · injection e with e1 _; rw [e1]
      · exact nomatch e
    · rcases keyIs_shape hb with ⟨j, u, rfl, e⟩ | ⟨y, u, rfl, e⟩
      · exact nomatch e
      · injection e with e1 _; rw [e1]
  byValue := fun k v h => by
    rcases keyIs_shape h with ⟨i, t, rfl, rfl⟩ | ⟨x, t, rfl, rfl⟩ <;> rfl
  pyHash := fun hv h => by
    rcases keyIs_shape hv with ⟨i, t, rfl, rfl⟩ | ⟨x, t, rfl, rfl⟩
    · exact wpAny_pyHash_int h
    · exact wpAny_pyHash_str h
  eqBool := fun hu hv h => by
    rcases keyIs_shape hu with ⟨i, t, rfl, rfl⟩ | ⟨x, t, rfl, rfl⟩
    · rcases keyIs_shape hv with ⟨j, u, rfl, rfl⟩ | ⟨y, u, rfl, rfl⟩
      · rw [key_ll] at h; exact wpAny_eqBool_int h
      · rw [key_lr] at h; exact SeqAt.EqAt.int_str i t y u _ _ _ _ h
    · rcases keyIs_shape hv with ⟨j, u, rfl, rfl⟩ | ⟨y, u, rfl, rfl⟩
      · rw [key_rl] at h; exact SeqAt.EqAt.str_int x t j u _ _ _ _ h
      · rw [key_rr] at h; exact wpAny_eqBool_str h
  «strs» := fun k x t v h => by
    rcases keyIs_shape h with ⟨i, u, rfl, e⟩ | ⟨y, u, rfl, e⟩
    · exact nomatch e
    · injection e with e1 _
      subst e1
      cases v <;> rfl
end L2
namespace L2
open PySem PySem.Spec PyProof.Rows
inductive V where
  | non | bl (b : Bool) | int (i : Int) | str (x : Str) | byt (b : Array UInt8) | flt (b : UInt64) | ref (a : Addr) | ty (n : String)
  deriving DecidableEq
def RelV : V → Value → Prop
  | .non, u => u = Value.none
  | .bl b, u => u = Value.bool b
  | .int i, u => ∃ t, u = Value.int i t
  | .str x, u => ∃ t, u = Value.str x t
  | .byt b, u => ∃ t, u = Value.bytes b t
  | .flt b, u => ∃ t, u = Value.float b t
  | .ref a, u => u = Value.ref a
  | .ty n, u => u = Value.type n
abbrev Vals : List V → List Value → Prop := Paired RelV
theorem Vals.length {xs : List V} {us : List Value} (r : Vals xs us) : xs.length = us.length := Paired.length r
theorem Vals.get : ∀ {xs : List V} {us : List Value} {i : Nat} {x : V}, Vals xs us → xs[i]? = some x → ∃ u, us[i]? = some u ∧ RelV x u
  | _, _, _, _, .nil, e => by simp at e
  | _, _, 0, _, .cons r _, e => by simp at e; subst e; exact ⟨_, rfl, r⟩
  | _, _, i + 1, x, .cons _ t, e => by
    obtain ⟨u, h1, h2⟩ := Vals.get (i := i) (x := x) t (by simpa using e)
    exact ⟨u, by simpa using h1, h2⟩
theorem Vals.set {x : V} {u : Value} (r : RelV x u) : ∀ {xs : List V} {us : List Value} (i : Nat), Vals xs us → Vals (xs.set i x) (us.set i u)
  | _, _, _, .nil => .nil
  | _, _, 0, .cons _ t => .cons r t
  | _, _, i + 1, .cons q t => .cons q (Vals.set r i t)
theorem Vals.append : ∀ {xs ys : List V} {us ws : List Value}, Vals xs us → Vals ys ws → Vals (xs ++ ys) (us ++ ws)
  | _, _, _, _, .nil, s => s
  | _, _, _, _, .cons r t, s => .cons r (Vals.append t s)
theorem Vals.take : ∀ {xs : List V} {us : List Value} (n : Nat), Vals xs us → Vals (xs.take n) (us.take n)
  | _, _, 0, _ => .nil
  | _, _, _ + 1, .nil => .nil
  | _, _, n + 1, .cons r t => .cons r (Vals.take n t)
theorem Vals.drop : ∀ {xs : List V} {us : List Value} (n : Nat), Vals xs us → Vals (xs.drop n) (us.drop n)
  | _, _, 0, r => r
  | _, _, _ + 1, .nil => .nil
  | _, _, n + 1, .cons _ t => Vals.drop n t
def RelO : Option V → Option Value → Prop
  | some v, some u => RelV v u
  | none, none => True
  | _, _ => False
def KV {κ : Type} : List (κ × V) → List (κ × Value) → Prop := Paired fun (p : κ × V) (q : κ × Value) => p.1 = q.1 ∧ RelV p.2 q.2
def kV : Key → V
  | .inl i => .int i
  | .inr x => .str x
inductive HO where
  | lst (xs : List V)
  | tup (xs : List V)
  | dK (kvs : List (Key × V)) | dT (kvs : List (List Key × V))
  | set (S : Int → Bool) (n : Nat)
  | ins (C dx : Addr) (fs : List (Str × V))
  | own (x : Addr)
  | xd (fs : List (Str × V))
  | met (f x : Addr)
  | rng (lo hi : Int)
  | frz (o : Obj) (u : HO)
  | tbl (ps : Array Value)
  | ext (φ : Heap → Prop)
abbrev Hp := Addr → Option HO
def upd (H : Hp) (a : Addr) (o : HO) : Hp := fun b => if b = a then some o else H b
theorem upd_same {H : Hp} {a : Addr} {o : HO} : upd H a o a = some o := by unfold upd; rw [if_pos rfl]
theorem upd_ne {H : Hp} {a b : Addr} {o : HO} (h : b ≠ a) : upd H a o b = H b := by unfold upd; rw [if_neg h]
theorem upd_upd {H : Hp} {a : Addr} {o u : HO} : upd (upd H a o) a u = upd H a u := by
  funext b; unfold upd; split <;> rfl
theorem ne_of {H : Hp} {a b : Addr} {o u : HO} (h : H a = some o) (h' : H b = some u) (d : o ≠ u) : a ≠ b := by
  intro e; subst e; rw [h] at h'; exact d (Option.some.inj h')
theorem ne_of_none {H : Hp} {a b : Addr} {o : HO} (h : H a = some o) (h' : H b = none) : a ≠ b := by
  intro e; subst e; rw [h] at h'; cases h'
section
variable (P : Program) (w : World)
def ObjOk (H : Hp) (h : Heap) (a : Addr) : HO → Prop
  | .lst xs => xs.length ≤ sizeLine ∧ ∃ (its : List Value) (n : Nat), Vals xs its ∧ h.get? a = some { cls := .type "list", data := .seq its.toArray n }
  | .tup xs => xs.length ≤ sizeLine ∧ ∃ its : List Value, Vals xs its ∧ IsTup h a its.toArray
  | .dK kvs => kvs.length ≤ sizeLine ∧ (a == sysModules) = false ∧ ∃ vs, KV kvs vs ∧ h.DictOf (mixKind P w) a vs
  | .dT kvs => kvs.length ≤ sizeLine ∧ (a == sysModules) = false ∧ ∃ xs : List (List Key × Addr × Value),
      Paired (fun (p : List Key × V) (q : List Key × Addr × Value) => p.1 = q.1 ∧ H q.2.1 = some (.tup (p.1.map kV)) ∧ RelV p.2 q.2.2) kvs xs ∧
      ∃ o es ep, h.get? a = some o ∧ o.ExactDict ∧ o.data = .dict es ep ∧ es.toList = xs.map (entryOfKey (tupleKind (mixKind P w))) ∧ (xs.map (·.1)).Nodup
  | .set S n => h.SetOf (intKind P w) a S n
  | .ins C dx fs => H dx = some (.own a) ∧ fs.length ≤ 1000 ∧ dx ≠ a ∧ h.get? a = some (PySem.W.instObj C dx) ∧
      ∃ mA, h.Ns1 dx mA ∧ (∀ f, RelO (fs.lookup f) (mA f)) ∧ PySem.Within mA (fs.map (·.1))
  | .own _ => ∃ o, h.get? a = some o
  | .xd fs => ∃ mA, h.Ns1 a mA ∧ ∀ f, RelO (fs.lookup f) (mA f)
  | .rng lo hi => ∃ t u v, h.get? a = some { cls := .type "range", data := .fields #[.int lo t, .int hi u, .int 1 v] }
  | .frz o u => h.get? a = some o ∧ ObjOk H h a u
  | .tbl ps => h.get? a = some { cls := .none, data := .fields ps }
  | .met f x => h.get? a = some (PySem.W.methodObj (.ref f) (.ref x))
  | .ext φ => φ h ∧ (∃ o, h.get? a = some o) ∧ ∀ h1 h2 : Heap, φ h1 → (∀ o, h1.get? a = some o → h2.get? a = some o) → φ h2
def HOk (H : Hp) (h : Heap) : Prop := ∀ a o, H a = some o → ObjOk P w H h a o
end
section
variable {P : Program} {w : World} {H H' : Hp} {h h' : Heap} {a : Addr} {o : HO}
theorem ObjOk.lt (x : ObjOk P w H h a o) : a < h.objs.size := by
  cases o with
  | lst xs => obtain ⟨_, _, _, _, e⟩ := x; exact Heap.lt_size e
  | tup xs => obtain ⟨_, _, _, p⟩ := x; exact p.lt
  | dK kvs => obtain ⟨_, _, _, _, o, _, _, e, _⟩ := x; exact Heap.lt_size e
  | dT kvs => obtain ⟨_, _, _, _, o, _, _, e, _⟩ := x; exact Heap.lt_size e
  | set S n => obtain ⟨o, _, _, _, e, _⟩ := x; exact Heap.lt_size e
  | ins C dx fs => obtain ⟨_, _, _, e, _⟩ := x; exact Heap.lt_size e
  | own y => obtain ⟨_, e⟩ := x; exact Heap.lt_size e
  | xd fs => obtain ⟨_, ⟨_, _, _, e, _⟩, _⟩ := x; exact Heap.lt_size e
  | rng lo hi => obtain ⟨_, _, _, e⟩ := x; exact Heap.lt_size e
  | frz ob u => obtain ⟨e, _⟩ := x; exact Heap.lt_size e
  | tbl ps => exact Heap.lt_size (show h.get? a = some _ from x)
  | met f y => exact Heap.lt_size (show h.get? a = some _ from x)
  | ext φ => obtain ⟨_, ⟨_, e⟩, _⟩ := x; exact Heap.lt_size e
theorem Paired.mapP {α β : Type} {F G : α → β → Prop} : ∀ {l₁ : List α} {l₂ : List β}, Paired F l₁ l₂ → (∀ a b, F a b → G a b) → Paired G l₁ l₂
  | _, _, .nil, _ => .nil
  | _, _, .cons r t, f => .cons (f _ _ r) (Paired.mapP t f)
theorem ObjOk.stay (x : ObjOk P w H h a o) (k : ∀ b u, (b = a ∨ H b = some (.own a)) → h.get? b = some u → h'.get? b = some u)
    (ho : ∀ b, H b = some (.own a) → H' b = some (.own a)) (ht : ∀ b xs, H b = some (.tup xs) → H' b = some (.tup xs)) : ObjOk P w H' h' a o := by
  induction o with
  | lst xs => obtain ⟨z, its, n, r, e⟩ := x; exact ⟨z, its, n, r, k _ _ (.inl rfl) e⟩
  | tup xs => obtain ⟨z, its, r, ob, e, c⟩ := x; exact ⟨z, its, r, ob, k _ _ (.inl rfl) e, c⟩
  | dK kvs => obtain ⟨z, y, vs, r, ob, es, ep, e, c⟩ := x; exact ⟨z, y, vs, r, ob, es, ep, k _ _ (.inl rfl) e, c⟩
  | dT kvs =>
    obtain ⟨z, y, xs, r, ob, es, ep, e, c⟩ := x
    exact ⟨z, y, xs, Paired.mapP r fun p q z => ⟨z.1, ht _ _ z.2.1, z.2.2⟩, ob, es, ep, k _ _ (.inl rfl) e, c⟩
  | set S n => obtain ⟨ob, es, ep, t, e, c⟩ := x; exact ⟨ob, es, ep, t, k _ _ (.inl rfl) e, c⟩
  | ins C dx fs =>
    obtain ⟨d, z, ne, e, mA, ⟨od, es, ep, e2, c⟩, r⟩ := x
    exact ⟨ho _ d, z, ne, k _ _ (.inl rfl) e, mA, ⟨od, es, ep, k _ _ (.inr d) e2, c⟩, r⟩
  | own y => obtain ⟨ob, e⟩ := x; exact ⟨ob, k _ _ (.inl rfl) e⟩
  | xd fs => obtain ⟨mA, ⟨od, es, ep, e, c⟩, r⟩ := x; exact ⟨mA, ⟨od, es, ep, k _ _ (.inl rfl) e, c⟩, r⟩
  | rng lo hi => obtain ⟨t, u, v, e⟩ := x; exact ⟨t, u, v, k _ _ (.inl rfl) e⟩
  | frz ob u ih => obtain ⟨e, q⟩ := x; exact ⟨k _ _ (.inl rfl) e, ih q⟩
  | tbl ps =>
    have e : h.get? a = some { cls := .none, data := .fields ps } := x
    show h'.get? a = some { cls := .none, data := .fields ps }
    exact k a _ (.inl rfl) e
  | met f y =>
    have e : h.get? a = some (PySem.W.methodObj (.ref f) (.ref y)) := x
    show h'.get? a = some (PySem.W.methodObj (.ref f) (.ref y))
    exact k a _ (.inl rfl) e
  | ext φ => obtain ⟨p, ⟨o, e⟩, st⟩ := x; exact ⟨st _ _ p fun o q => k _ _ (.inl rfl) q, ⟨o, k _ _ (.inl rfl) e⟩, st⟩
theorem HOk.lt (x : HOk P w H h) (e : H a = some o) : a < h.objs.size := (x a o e).lt
theorem HOk.fresh (x : HOk P w H h) (e : h.objs.size ≤ a) : H a = none := by
  cases q : H a with
  | none => rfl
  | some u => exact absurd (Nat.lt_of_lt_of_le (x.lt q) e) (Nat.lt_irrefl _)
theorem HOk.kept (x : HOk P w H h) (k : ∀ b u, h.get? b = some u → h'.get? b = some u) : HOk P w H h' := fun a o e =>
  (x a o e).stay (fun b u _ q => k b u q) (fun _ q => q) fun _ _ q => q
theorem HOk.laid (x : HOk P w H h) (k : ∀ b u, h.get? b = some u → h'.get? b = some u) (hp : h.objs.size ≤ a) (new : ObjOk P w (upd H a o) h' a o) : HOk P w (upd H a o) h' := fun b u e => by
  have hn := x.fresh hp
  by_cases hb : b = a
  · subst hb; rw [upd_same] at e; cases e; exact new
  · rw [upd_ne hb] at e
    exact (x b u e).stay (fun c v _ q => k c v q) (fun c q => by rw [upd_ne (ne_of_none q hn)]; exact q) fun c xs q => by rw [upd_ne (ne_of_none q hn)]; exact q
end
def Rd (H : Hp) (a : Addr) (u : HO) : Prop := H a = some u ∨ ∃ o, H a = some (.frz o u)
theorem Rd.ok {P : Program} {w : World} {H : Hp} {h : Heap} {a : Addr} {u : HO} (r : Rd H a u) (x : HOk P w H h) : ObjOk P w H h a u := by
  rcases r with r | ⟨o, r⟩
  · exact x a u r
  · obtain ⟨_, q⟩ := x a _ r
    exact q
def Mut : Option HO → Prop
  | some (.lst _) => True
  | some (.dK _) => True
  | some (.dT _) => True
  | some (.set _ _) => True
  | some (.ins _ _ _) => True
  | some (.ext _) => True
  | _ => False
section
variable {P : Program} {w : World} {H : Hp} {h h' : Heap} {x e : Addr} {o' : HO}
theorem HOk.write (ok : HOk P w H h) (mu : Mut (H x)) (he : e = x ∨ H e = some (.own x)) (k : ∀ b u, b ≠ e → h.get? b = some u → h'.get? b = some u) (heo : ∃ u, h'.get? e = some u)
    (new : ObjOk P w (upd H x o') h' x o') : HOk P w (upd H x o') h' := fun b u q => by
  have nown : ∀ c y, H c = some (.own y) → c ≠ x := fun c y r z => by subst z; rw [r] at mu; exact mu
  have ntup : ∀ c xs, H c = some (.tup xs) → c ≠ x := fun c xs r z => by subst z; rw [r] at mu; exact mu
  by_cases hb : b = x
  · subst hb; rw [upd_same] at q; cases q; exact new
  · rw [upd_ne hb] at q
    by_cases hbe : b = e
    · have q' : H b = some (.own x) := by
        rcases he with z | z
        · exact absurd (hbe.trans z) hb
        · rw [hbe]; exact z
      rw [q] at q'; cases q'
      obtain ⟨v, hv⟩ := heo
      exact ⟨v, by rw [hbe]; exact hv⟩
    · refine (ok b u q).stay (fun c v hc r => k c v ?_ r) (fun c r => by rw [upd_ne (nown c b r)]; exact r) fun c xs r => by rw [upd_ne (ntup c xs r)]; exact r
      rcases hc with rfl | hc
      · exact hbe
      · rintro rfl
        rcases he with z | z
        · exact nown c b hc z
        · rw [hc] at z; cases z; exact hb rfl
end
structure Un (fs ex : List Addr) (H H' : Hp) (h h' : Heap) : Prop where
  keep : ∀ b o, h.get? b = some o → H b = none → b ∉ fs → b ∉ ex → h'.get? b = some o
  slot : ∀ b o, h.get? b = some o → H b = none → b ∈ fs → b ∉ ex → ∃ sl, h'.get? b = some { o with slots := sl }
  free : ∀ b o, h.get? b = some o → H b = none → b ∉ ex → H' b = none
  there : ∀ b o, h.get? b = some o → b ∉ ex → ∃ o', h'.get? b = some o'
  tups : ∀ b xs, H b = some (.tup xs) → H' b = some (.tup xs)
  frzs : ∀ b o u, H b = some (.frz o u) → H' b = some (.frz o u)
  tbls : ∀ b ps, H b = some (.tbl ps) → ∃ more, H' b = some (.tbl (ps ++ more))
section
variable {fs fs' ex ex' : List Addr} {H H1 H2 : Hp} {h h1 h2 h' : Heap} {a x e : Addr} {o : HO}
theorem Un.any (u : Un fs ex H H1 h h1) {b : Addr} {ob : Obj} (q : h.get? b = some ob) (n : H b = none) (hx : b ∉ ex) : ∃ sl, h1.get? b = some { ob with slots := sl } := by
  by_cases hb : b ∈ fs
  · exact u.slot b ob q n hb hx
  · exact ⟨ob.slots, u.keep b ob q n hb hx⟩
theorem Un.kept (k : ∀ b u, h.get? b = some u → h'.get? b = some u) : Un fs ex H H h h' :=
  ⟨fun b ob q _ _ _ => k b ob q, fun b ob q _ _ _ => ⟨ob.slots, k b ob q⟩, fun _ _ _ n _ => n, fun b ob q _ => ⟨ob, k b ob q⟩, fun _ _ q => q, fun _ _ _ q => q, fun _ ps q => ⟨#[], by rw [q]; simp⟩⟩
theorem Un.refl : Un fs ex H H h h := Un.kept fun _ _ q => q
theorem Un.laid (k : ∀ b u, h.get? b = some u → h'.get? b = some u) (hp : h.objs.size ≤ a) (hn : H a = none) : Un fs ex H (upd H a o) h h' where
  keep := fun b u q _ _ _ => k b u q
  slot := fun b u q _ _ _ => ⟨u.slots, k b u q⟩
  free := fun b u q n _ => by rw [upd_ne (Nat.ne_of_lt (Nat.lt_of_lt_of_le (Heap.lt_size q) hp))]; exact n
  there := fun b u q _ => ⟨u, k b u q⟩
  tups := fun b xs q => by rw [upd_ne (ne_of_none q hn)]; exact q
  frzs := fun b u xs q => by rw [upd_ne (ne_of_none q hn)]; exact q
  tbls := fun b ps q => ⟨#[], by rw [upd_ne (ne_of_none q hn), q]; simp⟩
theorem Un.write (mu : Mut (H x)) (he : e = x ∨ H e = some (.own x)) (k : ∀ b u, b ≠ e → h.get? b = some u → h'.get? b = some u) (heo : ∃ u, h'.get? e = some u) : Un fs ex H (upd H x o) h h' := by
  have hx : ∀ b, H b = none → b ≠ x := fun b n z => by subst z; rw [n] at mu; exact mu
  have hb : ∀ b, H b = none → b ≠ e := fun b n z => by
    subst z
    rcases he with r | r
    · exact hx b n r
    · rw [n] at r; cases r
  have hm : ∀ b u, H b = some u → ¬ Mut (some u) → b ≠ x := fun b u q nm z => by subst z; rw [q] at mu; exact nm mu
  refine ⟨fun b u q n _ _ => k b u (hb b n) q, fun b u q n _ _ => ⟨u.slots, k b u (hb b n) q⟩, fun b u q n _ => by rw [upd_ne (hx b n)]; exact n, fun b u q _ => ?_,
    fun b xs q => by rw [upd_ne (hm b _ q fun z => z)]; exact q, fun b u xs q => by rw [upd_ne (hm b _ q fun z => z)]; exact q, fun b ps q => ⟨#[], by rw [upd_ne (hm b _ q fun z => z), q]; simp⟩⟩
  by_cases hbe : b = e
  · subst hbe; exact heo
  · exact ⟨u, k b u hbe q⟩
end
def trk (h : Heap) (H : Hp) : List Addr := (List.range h.objs.size).filter fun a => (H a).isSome
def hidT (h : Heap) (H : Hp) : Heap := PySem.W.hideAll h (trk h H)
theorem hidT_size (h : Heap) (H : Hp) : (hidT h H).objs.size = h.objs.size := PySem.W.hideAll_size _ _
theorem hidT_get {h : Heap} {H : Hp} {b : Addr} {o : Obj} (e : h.get? b = some o) (n : H b = none) : (hidT h H).get? b = some o :=
  PySem.W.hideAll_get _ e fun hm => by
    have q : (H b).isSome = true := (List.mem_filter.mp hm).2
    rw [n] at q; simp at q
theorem of_hidT {h : Heap} {H : Hp} {b : Addr} {o : Obj} (e : (hidT h H).get? b = some o) : h.get? b = some o ∧ H b = none := by
  have e' : h.get? b = some o := PySem.W.of_hideAll (trk h H) e
  refine ⟨e', ?_⟩
  cases q : H b with
  | none => rfl
  | some x =>
    have hm : b ∈ trk h H := List.mem_filter.mpr ⟨List.mem_range.mpr (Heap.lt_size e'), by simp [q]⟩
    have z : (hidT h H).get? b = none := PySem.W.hideAll_none (trk h H) hm
    rw [z] at e; cases e
def allNews (g h : Heap) (L : Addr) : List (Addr × Obj) := (List.range h.objs.size).filterMap fun a => if a = L ∨ (g.get? a).isSome = true then none else (h.get? a).map fun o => (a, o)
def rest (g h : Heap) (L d : Addr) : List (Addr × Obj) := (allNews g h L).filter fun p => decide (p.1 ≠ d)
end L2
namespace L2
open PySem PySem.Spec PyProof.Rows
structure Mod (K : PySem.W.Frag) (mg : Str → Option Value) (base : Heap) : Prop where
  kin : K.In base
  glob : base.Ns mainGlobals mg
  blt : ∃ mb, base.Ns builtinsNs mb ∧ ∀ x : Str, x ≠ "__name__" → mb x = bootBuiltins x
  nolimit : base.NoLimit
/-- the context: a def's body (or a comprehension's block) running. base: fixed through the whole law; s₀, H₀: the entry; outer: the frames whose slots others may change (a def's callers); stack: all frames that run;
   ex: iterators that were made ahead of the entry and are walked here (a comprehension's); fn: the names whose cells were made at the entry (a def: all; a comprehension's block: its own); calm: not within an except suite; pn: pins that every state bears; xe: what is wanted of an exception that leaves the code -/
structure Cx where
  prog : Program
  w : World
  K : PySem.W.Frag
  mg : Str → Option Value
  base : Heap
  A : Around
  N : List Str
  s_0 : Shared
  H_0 : Hp
  env : Env
  outer : List Env
  stack : List Env
  ex : List Addr
  fn : Str → Bool
  calm : Bool
  pn : List (Addr × Obj)
  xe : Value → Shared → Prop
def frs (l : List Env) : List Addr := l.filterMap (·.frame)
abbrev Cx.fs (X : Cx) : List Addr := frs X.outer
def Vis (sc : Scope) (x : Str) : Prop := sc.names.lookup x = some .local ∨ sc.names.lookup x = some .cell ∨ sc.names.lookup x = some .free
def Loc (sc : Scope) (x : Str) : Prop := sc.names.lookup x = some .local ∨ sc.names.lookup x = some .cell
def Look (env : Env) (h : Heap) (m : Str → Option Value) (x : Str) (u : Value) : Prop :=
  (env.kindOf x = some .local ∧ m x = some u) ∨ ((env.kindOf x = some .cell ∨ env.kindOf x = some .free) ∧ ∃ c, env.cells.lookup x = some c ∧ h.IsCell c (some u))
structure Cx.Ok (X : Cx) : Prop where
  mod : Mod X.K X.mg X.base
  kind : X.env.scope.kind = .function
  glob : X.env.globals = mainGlobals
  blt : X.env.builtins = builtinsNs
  above : X.s_0.heap.objs.size ≤ X.env.locals
  inj : ∀ x y c, X.env.cells.lookup x = some c → X.env.cells.lookup y = some c → x = y
  has : ∀ x, (X.env.kindOf x = some .cell ∨ X.env.kindOf x = some .free) → ∃ c, X.env.cells.lookup x = some c
  cab : ∀ x c, X.fn x = true → X.env.cells.lookup x = some c → X.s_0.heap.objs.size ≤ c
  hd : X.calm = true → X.A.handled = none
  frames : X.A.frames = some X.stack
  stk : X.stack = X.outer ∨ (X.stack = X.env :: X.outer ∧ X.env.frame = some X.env.locals)
  exf : ∀ b ∈ X.ex, b ≠ X.env.locals ∧ ∀ x c, X.env.cells.lookup x = some c → c ≠ b
  bs : ∀ b o, X.base.get? b = some o → X.s_0.heap.get? b = some o ∧ X.H_0 b = none
  bsz : X.base.objs.size ≤ X.s_0.heap.objs.size
  noex : ∀ b o, X.base.get? b = some o → b ∉ X.ex
  exfs : ∀ b ∈ X.ex, b ∉ X.fs
  funs : X.s_0.heap.FunFrames X.base X.outer
  frf : ∀ b ∈ X.fs, X.H_0 b = none
structure Inv (X : Cx) (pins : List (Addr × Obj)) (σ : List (Option V)) (H : Hp) (s : Shared) : Prop where
  ok : X.Ok
  os : s.os = X.s_0.os
  bare : AllBare s.gens
  base : Un X.fs X.ex X.H_0 H X.s_0.heap s.heap
  loc : ∃ m, s.heap.Ns X.env.locals m ∧ ∀ (i : Nat) (x : Str) (v : V), X.N[i]? = some x → σ[i]? = some (some v) → Vis X.env.scope x → ∃ u, RelV v u ∧ Look X.env s.heap m x u
  cell : ∀ x c, X.env.cells.lookup x = some c → ∃ v, s.heap.IsCell c v
  free : H X.env.locals = none
  freeC : ∀ x c, X.env.cells.lookup x = some c → H c = none
  pin : ∀ p ∈ X.pn ++ pins, s.heap.get? p.1 = some p.2 ∧ H p.1 = none ∧ p.1 ≠ X.env.locals ∧ p.1 ∉ X.fs ∧ ∀ v, p.2.data ≠ .cell v
  hok : HOk X.prog X.w H s.heap
  len : σ.length = X.N.length
section
variable {X : Cx} {pins : List (Addr × Obj)} {σ : List (Option V)} {H H' : Hp} {s : Shared} {h' : Heap}
theorem Cx.Ok.nofr (ok : X.Ok) {b : Addr} {o : Obj} (e : X.base.get? b = some o) : b ∉ X.fs := fun hb => by
  have := (ok.funs.mem hb).1
  rw [e] at this; cases this
theorem Inv.bs (I : Inv X pins σ H s) : ∀ b o, X.base.get? b = some o → s.heap.get? b = some o ∧ H b = none := fun b o e =>
  ⟨I.base.keep b o (I.ok.bs b o e).1 (I.ok.bs b o e).2 (I.ok.nofr e) (I.ok.noex b o e), I.base.free b o (I.ok.bs b o e).1 (I.ok.bs b o e).2 (I.ok.noex b o e)⟩
theorem Inv.bk (I : Inv X pins σ H s) : ∀ b o, X.base.get? b = some o → s.heap.get? b = some o := fun b o e => (I.bs b o e).1
theorem Inv.mod (I : Inv X pins σ H s) : Mod X.K X.mg X.base := I.ok.mod
theorem Inv.kIn (I : Inv X pins σ H s) : X.K.In s.heap := I.ok.mod.kin.keeps I.bk
theorem Inv.lt (I : Inv X pins σ H s) : X.env.locals < s.heap.objs.size := let ⟨_, hn, _⟩ := I.loc; hn.lt
theorem Inv.sz (I : Inv X pins σ H s) : X.s_0.heap.objs.size ≤ s.heap.objs.size := Nat.le_trans I.ok.above (Nat.le_of_lt I.lt)
theorem Inv.nofs (I : Inv X pins σ H s) {a : Addr} (h : s.heap.objs.size ≤ a) : a ∉ X.fs := fun hb => by
  obtain ⟨_, o, ho, _⟩ := I.ok.funs.mem hb
  exact absurd (Nat.lt_of_lt_of_le (Heap.lt_size ho) (Nat.le_trans I.sz h)) (Nat.lt_irrefl _)
theorem Inv.cne (I : Inv X pins σ H s) : ∀ x c, X.env.cells.lookup x = some c → c ≠ X.env.locals := fun x c e z => by
  obtain ⟨v, o, ho, hd⟩ := I.cell x c e
  obtain ⟨m, ⟨o', es, ep, ho', hd', _⟩, _⟩ := I.loc
  rw [z, ho'] at ho; cases ho; rw [hd'] at hd; cases hd
theorem Inv.funs (I : Inv X pins σ H s) : s.heap.FunFrames X.base X.outer := by
  have all : ∀ (l : List Env), (∀ b ∈ frs l, b ∈ X.fs) → X.s_0.heap.FunFrames X.base l → s.heap.FunFrames X.base l := by
    intro l
    induction l with
    | nil => intro _ _; trivial
    | cons env r ih =>
      intro hs hl
      obtain ⟨hk, ⟨L, o, hf, hn, ho, hd⟩, hr⟩ := hl
      have hL : L ∈ X.fs := hs L (by unfold frs; rw [List.filterMap_cons, hf]; exact List.mem_cons_self)
      obtain ⟨sl, e⟩ := I.base.slot L o ho (I.ok.frf L hL) hL fun z => I.ok.exfs L z hL
      exact ⟨hk, ⟨L, _, hf, hn, e, hd⟩, ih (fun b hb => hs b (by unfold frs; rw [List.filterMap_cons, hf]; exact List.mem_cons_of_mem _ hb)) hr⟩
  exact all X.outer (fun _ hb => hb) I.ok.funs
theorem Inv.stack (I : Inv X pins σ H s) : s.heap.FunFrames X.base X.stack := by
  rcases I.ok.stk with e | ⟨e, hf⟩
  · rw [e]; exact I.funs
  · rw [e]
    obtain ⟨m, hn, _⟩ := I.loc
    refine .cons (by rw [I.ok.kind]; decide) hf hn ?_ I.funs
    exact Heap.get?_none_of_le (Nat.le_trans I.ok.bsz I.ok.above)
theorem Inv.stkSub (I : Inv X pins σ H s) : ∀ b ∈ frs X.stack, b ∈ X.env.locals :: X.fs := fun b hb => by
  rcases I.ok.stk with e | ⟨e, hf⟩
  · rw [e] at hb; exact List.mem_cons_of_mem _ hb
  · rw [e] at hb
    unfold frs at hb
    rw [List.filterMap_cons, hf] at hb
    exact hb
theorem Inv.stkFree (I : Inv X pins σ H s) : ∀ b ∈ frs X.stack, H b = none := fun b hb => by
  rcases List.mem_cons.mp (I.stkSub b hb) with e | hb
  · rw [e]; exact I.free
  · obtain ⟨_, o, ho, _⟩ := I.ok.funs.mem hb
    exact I.base.free b o ho (I.ok.frf b hb) fun z => I.ok.exfs b z hb
theorem Inv.step {g' : Array GenState} {t' : Nat} {d' : Drawn} {ch : List Addr} (I : Inv X pins σ H s)
    (hch : ∀ b ∈ ch, (b ∈ X.ex ∨ X.s_0.heap.objs.size ≤ b) ∧ b ≠ X.env.locals ∧ (∀ x c, X.env.cells.lookup x = some c → c ≠ b) ∧ ∀ p ∈ X.pn ++ pins, p.1 ≠ b)
    (keep : ∀ b o, b ≠ X.env.locals → b ∉ X.fs → b ∉ ch → s.heap.get? b = some o → H b = none → h'.get? b = some o)
    (slot : ∀ b o, b ≠ X.env.locals → b ∈ X.fs → b ∉ ch → s.heap.get? b = some o → H b = none → ∃ sl, h'.get? b = some { o with slots := sl }) (free : ∀ b o, b ∉ ch → s.heap.get? b = some o → H b = none → H' b = none)
    (there : ∀ b o, b ∉ ch → s.heap.get? b = some o → ∃ o', h'.get? b = some o')
    (tups : ∀ b xs, H b = some (.tup xs) → H' b = some (.tup xs)) (frzs : ∀ b o u, H b = some (.frz o u) → H' b = some (.frz o u)) (tbls : ∀ b ps, H b = some (.tbl ps) → ∃ more, H' b = some (.tbl (ps ++ more)))
    (ns : ∀ m, s.heap.Ns X.env.locals m → h'.Ns X.env.locals m) (hok : HOk X.prog X.w H' h') (hg : AllBare g') :
    Inv X pins σ H' { s with heap := h', gens := g', drawn := d', toks := t' } := by
  have neL : ∀ b o, X.s_0.heap.get? b = some o → b ≠ X.env.locals := fun b o e => Nat.ne_of_lt (Nat.lt_of_lt_of_le (Heap.lt_size e) I.ok.above)
  have neC : ∀ b o, X.s_0.heap.get? b = some o → b ∉ X.ex → b ∉ ch := fun b o e hx hb => by
    rcases (hch b hb).1 with z | z
    · exact hx z
    · exact absurd (Nat.lt_of_lt_of_le (Heap.lt_size e) z) (Nat.lt_irrefl _)
  have cellK : ∀ x c, X.env.cells.lookup x = some c → ∀ v, s.heap.IsCell c v → h'.IsCell c v := fun x c e v ⟨o, ho, hd⟩ => by
    have nch : c ∉ ch := fun z => (hch c z).2.2.1 x c e rfl
    by_cases hc : c ∈ X.fs
    · obtain ⟨sl, q⟩ := slot c o (I.cne x c e) hc nch ho (I.freeC x c e)
      exact ⟨_, q, hd⟩
    · exact ⟨o, keep c o (I.cne x c e) hc nch ho (I.freeC x c e), hd⟩
  refine ⟨I.ok, I.os, hg, ⟨fun b o e n hb hx => ?_, fun b o e n hb hx => ?_, fun b o e n hx => ?_, fun b o e hx => ?_, fun b xs e => tups b xs (I.base.tups b xs e), fun b o xs e => frzs b o xs (I.base.frzs b o xs e), fun b ps e => ?_⟩, ?_, fun x c e => ?_, ?_, fun x c e => ?_, fun p hp => ?_, hok, I.len⟩
  · exact keep b o (neL b o e) hb (neC b o e hx) (I.base.keep b o e n hb hx) (I.base.free b o e n hx)
  · obtain ⟨sl, e1⟩ := I.base.slot b o e n hb hx
    obtain ⟨sl', e2⟩ := slot b _ (neL b o e) hb (neC b o e hx) e1 (I.base.free b o e n hx)
    exact ⟨sl', e2⟩
  · obtain ⟨o', e1⟩ := I.base.there b o e hx
    exact free b o' (neC b o e hx) e1 (I.base.free b o e n hx)
  · obtain ⟨o', e1⟩ := I.base.there b o e hx
    exact there b o' (neC b o e hx) e1
  · obtain ⟨m1, e1⟩ := I.base.tbls b ps e
    obtain ⟨m2, e2⟩ := tbls b _ e1
    exact ⟨m1 ++ m2, by rw [e2, Array.append_assoc]⟩
  · obtain ⟨m, hn, hl⟩ := I.loc
    refine ⟨m, ns m hn, fun i x v e1 e2 e3 => ?_⟩
    obtain ⟨u, r, l⟩ := hl i x v e1 e2 e3
    refine ⟨u, r, ?_⟩
    rcases l with l | ⟨k, c, e, z⟩
    · exact .inl l
    · exact .inr ⟨k, c, e, cellK x c e _ z⟩
  · obtain ⟨v, z⟩ := I.cell x c e
    exact ⟨v, cellK x c e v z⟩
  · obtain ⟨m, ⟨o, _, _, ho, _⟩, _⟩ := I.loc
    exact free _ o (fun z => (hch _ z).2.1 rfl) ho I.free
  · obtain ⟨v, o, ho, hd⟩ := I.cell x c e
    exact free c o (fun z => (hch c z).2.2.1 x c e rfl) ho (I.freeC x c e)
  · obtain ⟨e, n, ne, nf, d⟩ := I.pin p hp
    have nch : p.1 ∉ ch := fun z => (hch p.1 z).2.2.2 p hp rfl
    exact ⟨keep p.1 p.2 ne nf nch e n, free p.1 p.2 nch e n, ne, nf, d⟩
theorem Inv.un {t' : Nat} (I : Inv X pins σ H s) (u : Un X.fs [] H H' s.heap h') (hok : HOk X.prog X.w H' h') : Inv X pins σ H' { s with heap := h', toks := t' } := by
  obtain ⟨m, ⟨o, es, ep, ho, r⟩, _⟩ := id I.loc
  obtain ⟨sl, hL⟩ := u.any ho I.free (by simp)
  exact I.step (g' := s.gens) (d' := s.drawn) (ch := []) (fun _ z => nomatch z) (fun b o _ hb _ e n => u.keep b o e n hb (by simp)) (fun b o _ hb _ e n => u.slot b o e n hb (by simp)) (fun b o _ e n => u.free b o e n (by simp)) (fun b o _ e => u.there b o e (by simp)) u.tups u.frzs u.tbls (fun m' hm => by
    obtain ⟨o', es', ep', ho', r'⟩ := hm
    rw [ho] at ho'; cases ho'
    exact ⟨_, es', ep', hL, r'⟩) hok I.bare
theorem Inv.call {g' : Array GenState} {t' : Nat} {d' : Drawn} {ch : List Addr} (I : Inv X pins σ H s) (u : Un (frs X.stack) ch H H' s.heap h') (hok : HOk X.prog X.w H' h') (hg : AllBare g')
    (hch : ∀ b ∈ ch, (b ∈ X.ex ∨ X.s_0.heap.objs.size ≤ b) ∧ b ≠ X.env.locals ∧ (∀ x c, X.env.cells.lookup x = some c → c ≠ b) ∧ ∀ p ∈ X.pn ++ pins, p.1 ≠ b) :
    Inv X pins σ H' { s with heap := h', gens := g', drawn := d', toks := t' } := by
  obtain ⟨m, ⟨o, es, ep, ho, r⟩, _⟩ := id I.loc
  obtain ⟨sl, hL⟩ := u.any ho I.free fun z => (hch _ z).2.1 rfl
  exact I.step (ch := ch) hch (fun b o hL hb hc e n => u.keep b o e n (fun z => (List.mem_cons.mp (I.stkSub b z)).elim hL hb) hc) (fun b o _ _ hc e n => u.any e n hc) (fun b o hc e n => u.free b o e n hc) (fun b o hc e => u.there b o e hc) u.tups u.frzs u.tbls (fun m' hm => by
    obtain ⟨o', es', ep', ho', r'⟩ := hm
    rw [ho] at ho'; cases ho'
    exact ⟨_, es', ep', hL, r'⟩) hok hg
theorem Inv.turned {t' : Nat} {it : Addr} (I : Inv X pins σ H s) (k : ∀ b o, b ≠ it → s.heap.get? b = some o → h'.get? b = some o) (hn : H it = none) (hL : it ≠ X.env.locals)
    (h1 : it ∈ X.ex ∨ X.s_0.heap.objs.size ≤ it) (h2 : ∀ x c, X.env.cells.lookup x = some c → c ≠ it) (h3 : ∀ p ∈ X.pn ++ pins, p.1 ≠ it) : Inv X pins σ H { s with heap := h', toks := t' } := by
  have nit : ∀ b u, H b = some u → b ≠ it := fun b u e z => by rw [z, hn] at e; cases e
  refine I.step (g' := s.gens) (d' := s.drawn) (ch := [it]) (fun b hb => ?_) (fun b o _ _ hc e _ => k b o (fun z => hc (by simp [z])) e) (fun b o _ _ hc e _ => ⟨o.slots, k b o (fun z => hc (by simp [z])) e⟩) (fun _ _ _ _ n => n)
    (fun b o hc e => ⟨o, k b o (fun z => hc (by simp [z])) e⟩) (fun _ _ e => e) (fun _ _ _ e => e) (fun b ps e => ⟨#[], by rw [e]; simp⟩) (fun m hm => ?_) (fun b u e => ?_) I.bare
  · have e : b = it := by simpa using hb
    subst e
    exact ⟨h1, hL, h2, h3⟩
  · obtain ⟨o, es, ep, ho, r⟩ := hm
    exact ⟨o, es, ep, k _ o (Ne.symm hL) ho, r⟩
  · refine (I.hok b u e).stay (fun c v hc q => k c v ?_ q) (fun _ q => q) fun _ _ q => q
    rcases hc with z | z
    · rw [z]; exact nit b u e
    · exact nit c _ z
theorem Inv.tok (I : Inv X pins σ H s) (t : Nat) : Inv X pins σ H { s with toks := t } := I.un (h' := s.heap) (t' := t) Un.refl I.hok
theorem Inv.kept {t' : Nat} (I : Inv X pins σ H s) (k : ∀ b u, s.heap.get? b = some u → h'.get? b = some u) : Inv X pins σ H { s with heap := h', toks := t' } := I.un (Un.kept k) (I.hok.kept k)
theorem Inv.laid {a : Addr} {o : HO} {t' : Nat} (I : Inv X pins σ H s) (k : ∀ b u, s.heap.get? b = some u → h'.get? b = some u) (hp : s.heap.objs.size ≤ a) (new : ObjOk X.prog X.w (upd H a o) h' a o) :
    Inv X pins σ (upd H a o) { s with heap := h', toks := t' } := I.un (Un.laid k hp (I.hok.fresh hp)) (I.hok.laid k hp new)
theorem Inv.write {x e : Addr} {o : HO} {t' : Nat} (I : Inv X pins σ H s) (mu : Mut (H x)) (he : e = x ∨ H e = some (.own x)) (k : ∀ b u, b ≠ e → s.heap.get? b = some u → h'.get? b = some u) (heo : ∃ u, h'.get? e = some u)
    (new : ObjOk X.prog X.w (upd H x o) h' x o) : Inv X pins σ (upd H x o) { s with heap := h', toks := t' } := I.un (Un.write mu he k heo) (I.hok.write mu he k heo new)
theorem Inv.weak {σ' : List (Option V)} (I : Inv X pins σ H s) (hl : σ'.length = σ.length) (w : ∀ (i : Nat) v, σ'[i]? = some (some v) → σ[i]? = some (some v)) : Inv X pins σ' H s :=
  ⟨I.ok, I.os, I.bare, I.base, let ⟨m, hn, hl'⟩ := I.loc; ⟨m, hn, fun i x v e1 e2 e3 => hl' i x v e1 (w i v e2) e3⟩, I.cell, I.free, I.freeC, I.pin, I.hok, hl.trans I.len⟩
theorem Inv.pins_of {pins' : List (Addr × Obj)} (I : Inv X pins σ H s) (h : ∀ p ∈ pins', s.heap.get? p.1 = some p.2 ∧ H p.1 = none ∧ p.1 ≠ X.env.locals ∧ p.1 ∉ X.fs ∧ ∀ v, p.2.data ≠ .cell v) : Inv X pins' σ H s :=
  ⟨I.ok, I.os, I.bare, I.base, I.loc, I.cell, I.free, I.freeC, fun p hp => (List.mem_append.mp hp).elim (fun z => I.pin p (List.mem_append_left _ z)) (h p), I.hok, I.len⟩
theorem nodup_ix {N : List Str} (hN : N.Nodup) {i j : Nat} {x : Str} (a : N[i]? = some x) (b : N[j]? = some x) : i = j := by
  obtain ⟨h1, e1⟩ := List.getElem?_eq_some_iff.mp a
  obtain ⟨h2, e2⟩ := List.getElem?_eq_some_iff.mp b
  exact (List.getElem_inj hN).mp (e1.trans e2.symm)
theorem store_ok2 {M : Model} {A : Around} {E : Value → Shared → Prop} {i : Nat} {x : Str} {v : V} {u : Value} {Q : Unit → Shared → Prop} (I : Inv X pins σ H s) (hN : X.N.Nodup) (hi : X.N[i]? = some x) (hx : Loc X.env.scope x) (r : RelV v u)
    (h : ∀ s', Inv X pins (σ.set i (some v)) H s' → (∃ a, Heap.SameBut a s.heap s'.heap ∧ (a = X.env.locals ∨ X.env.cells.lookup x = some a)) → Q () s') (hf : X.fn x = true ∨ X.env.scope.names.lookup x = some .local := by first | exact .inl rfl | exact .inr rfl | assumption) : wpAny M A (storeName X.env x u) Q E s := by
  obtain ⟨m, hn, hl⟩ := id I.loc
  have hcls : (X.env.scope.kind == .class || (X.env.scope.kind == .module && X.env.locals != X.env.globals)) = false := by rw [I.ok.kind]; rfl
  have hiσ : i < σ.length := by rw [I.len]; exact (List.getElem?_eq_some_iff.mp hi).1
  have cne := I.cne
  have tracked : ∀ {a : Addr} {h' : Heap}, (∃ o, s.heap.get? a = some o ∧ H a = none) → Heap.SameBut a s.heap h' → HOk X.prog X.w H h' := fun {a h'} ha hs b ob e => by
    obtain ⟨_, _, hfree⟩ := ha
    refine (I.hok b ob e).stay (fun c w' hc q => (hs.2 c ?_).trans q) (fun _ q => q) fun _ _ q => q
    rintro rfl
    rcases hc with rfl | hc
    · rw [hfree] at e; cases e
    · rw [hfree] at hc; cases hc
  rcases hx with hk | hk
  · refine wpAny_storeName_local hk hn (fun h' hn' hs => ?_) hcls
    obtain ⟨oL, _, _, hoL, _⟩ := id hn
    refine h _ ⟨I.ok, I.os, I.bare, ⟨fun b o e n hb hx => ?_, fun b o e n hb hx => ?_, I.base.free, fun b o e hx => ?_, I.base.tups, I.base.frzs, I.base.tbls⟩, ⟨_, hn', fun j y v' e1 e2 e3 => ?_⟩, fun y c e => ?_, I.free, I.freeC, fun p hp => ?_, tracked ⟨oL, hoL, I.free⟩ hs, by simpa using I.len⟩ ⟨_, hs, .inl rfl⟩
    · exact (hs.2 b (Nat.ne_of_lt (Nat.lt_of_lt_of_le (Heap.lt_size e) I.ok.above))).trans (I.base.keep b o e n hb hx)
    · obtain ⟨sl, e1⟩ := I.base.slot b o e n hb hx
      exact ⟨sl, (hs.2 b (Nat.ne_of_lt (Nat.lt_of_lt_of_le (Heap.lt_size e) I.ok.above))).trans e1⟩
    · obtain ⟨o', e1⟩ := I.base.there b o e hx
      exact ⟨o', (hs.2 b (Nat.ne_of_lt (Nat.lt_of_lt_of_le (Heap.lt_size e) I.ok.above))).trans e1⟩
    · by_cases hj : j = i
      · subst hj
        rw [hi] at e1; cases e1
        rw [List.getElem?_set_self hiσ] at e2
        cases e2
        exact ⟨u, r, .inl ⟨hk, by simp⟩⟩
      · rw [List.getElem?_set_ne (Ne.symm hj)] at e2
        obtain ⟨u', r', q⟩ := hl j y v' e1 e2 e3
        refine ⟨u', r', ?_⟩
        rcases q with ⟨k, e⟩ | ⟨k, c, e, z⟩
        · refine .inl ⟨k, ?_⟩
          have : y ≠ x := fun e => hj (nodup_ix hN e1 (e ▸ hi))
          simp [this, e]
        · exact .inr ⟨k, c, e, z.sameBut hs (cne y c e)⟩
    · obtain ⟨w', z⟩ := I.cell y c e
      exact ⟨w', z.sameBut hs (cne y c e)⟩
    · obtain ⟨e, n, ne, nf, d⟩ := I.pin p hp
      exact ⟨(hs.2 p.1 ne).trans e, n, ne, nf, d⟩
  · have hfn : X.fn x = true := by
      rcases hf with z | z
      · exact z
      · rw [z] at hk; cases hk
    obtain ⟨c, hc⟩ := I.ok.has x (.inl hk)
    obtain ⟨w', z⟩ := I.cell x c hc
    refine wpAny_storeName_cell I.ok.kind hk hc z (fun h' hc' hs => ?_)
    obtain ⟨oc, hoc, hocd⟩ := id z
    refine h { s with heap := h' } ⟨I.ok, I.os, I.bare, ⟨fun b o e n hb hx => ?_, fun b o e n hb hx => ?_, I.base.free, fun b o e hx => ?_, I.base.tups, I.base.frzs, I.base.tbls⟩, ⟨m, hn.sameBut hs (Ne.symm (cne x c hc)), fun j y v' e1 e2 e3 => ?_⟩, fun y c' e => ?_, I.free, I.freeC, fun p hp => ?_, tracked ⟨oc, hoc, I.freeC x c hc⟩ hs, by simpa using I.len⟩ ⟨c, hs, .inr hc⟩
    · exact (hs.2 b (Nat.ne_of_lt (Nat.lt_of_lt_of_le (Heap.lt_size e) (I.ok.cab x c hfn hc)))).trans (I.base.keep b o e n hb hx)
    · obtain ⟨sl, e1⟩ := I.base.slot b o e n hb hx
      exact ⟨sl, (hs.2 b (Nat.ne_of_lt (Nat.lt_of_lt_of_le (Heap.lt_size e) (I.ok.cab x c hfn hc)))).trans e1⟩
    · obtain ⟨o', e1⟩ := I.base.there b o e hx
      exact ⟨o', (hs.2 b (Nat.ne_of_lt (Nat.lt_of_lt_of_le (Heap.lt_size e) (I.ok.cab x c hfn hc)))).trans e1⟩
    · by_cases hj : j = i
      · subst hj
        rw [hi] at e1; cases e1
        rw [List.getElem?_set_self hiσ] at e2
        cases e2
        exact ⟨u, r, .inr ⟨.inl hk, c, hc, hc'⟩⟩
      · rw [List.getElem?_set_ne (Ne.symm hj)] at e2
        obtain ⟨u', r', q⟩ := hl j y v' e1 e2 e3
        refine ⟨u', r', ?_⟩
        rcases q with q | ⟨k, c', e, z'⟩
        · exact .inl q
        · refine .inr ⟨k, c', e, z'.sameBut hs ?_⟩
          rintro rfl
          exact hj (nodup_ix hN e1 (I.ok.inj _ _ _ e hc ▸ hi))
    · by_cases hcc : c' = c
      · subst hcc; exact ⟨_, hc'⟩
      · obtain ⟨w2, z2⟩ := I.cell y c' e
        exact ⟨w2, z2.sameBut hs hcc⟩
    · obtain ⟨e, n, ne, nf, d⟩ := I.pin p hp
      refine ⟨(hs.2 p.1 ?_).trans e, n, ne, nf, d⟩
      intro q
      rw [q, hoc] at e
      have q' : oc = p.2 := Option.some.inj e
      exact d w' (by rw [← q']; exact hocd)
theorem store_ok {M : Model} {A : Around} {E : Value → Shared → Prop} {i : Nat} {x : Str} {v : V} {u : Value} {Q : Unit → Shared → Prop} (I : Inv X pins σ H s) (hN : X.N.Nodup) (hi : X.N[i]? = some x) (hx : Loc X.env.scope x) (r : RelV v u)
    (h : ∀ s', Inv X pins (σ.set i (some v)) H s' → Q () s') (hf : X.fn x = true ∨ X.env.scope.names.lookup x = some .local := by first | exact .inl rfl | exact .inr rfl | assumption) : wpAny M A (storeName X.env x u) Q E s :=
  store_ok2 I hN hi hx r (fun s' I' _ => h s' I') hf
theorem Inv.call' {s' : Shared} {ch : List Addr} (I : Inv X pins σ H s) (ho : s'.os = s.os) (u : Un (frs X.stack) ch H H' s.heap s'.heap) (hok : HOk X.prog X.w H' s'.heap) (hg : AllBare s'.gens)
    (hch : ∀ b ∈ ch, (b ∈ X.ex ∨ X.s_0.heap.objs.size ≤ b) ∧ b ≠ X.env.locals ∧ (∀ x c, X.env.cells.lookup x = some c → c ≠ b) ∧ ∀ p ∈ X.pn ++ pins, p.1 ≠ b) : Inv X pins σ H' s' := by
  obtain ⟨h', g', d', t', o'⟩ := s'
  have e : o' = s.os := ho
  subst e
  exact I.call (g' := g') (t' := t') (d' := d') u hok hg hch
end
abbrev XK := Value → Option Addr → Hp → Prop
abbrev St := List (Option V)
abbrev VK := V → Hp → Prop
abbrev TE := St → Hp → VK → Prop
abbrev TT := St → Hp → (Bool → Hp → Prop) → Prop
abbrev TA := St → Hp → (List V → Hp → Prop) → Prop
structure Ends where
  nx : St → Hp → Prop
  rt : VK
  bk : St → Hp → Prop := fun _ _ => False
  ct : St → Hp → Prop := fun _ _ => False
abbrev TS := Ends → St → Hp → Prop
def EP (X : Cx) (pins : List (Addr × Obj)) (σ : St) (Q : VK) (u : Value) (s' : Shared) : Prop := ∃ v H', Inv X pins σ H' s' ∧ RelV v u ∧ Q v H'
def TP (X : Cx) (pins : List (Addr × Obj)) (σ : St) (Q : Bool → Hp → Prop) (b : Bool) (s' : Shared) : Prop := ∃ H', Inv X pins σ H' s' ∧ Q b H'
def AP (X : Cx) (pins : List (Addr × Obj)) (σ : St) (Q : List V → Hp → Prop) (us : List Value) (s' : Shared) : Prop := ∃ vs H', Inv X pins σ H' s' ∧ Vals vs us ∧ Q vs H'
def SP (X : Cx) (pins : List (Addr × Obj)) (D : Ends) (f : Flow) (s' : Shared) : Prop :=
  match f with
  | .next => ∃ σ' H', Inv X pins σ' H' s' ∧ D.nx σ' H'
  | .brk => ∃ σ' H', Inv X pins σ' H' s' ∧ D.bk σ' H'
  | .cont => ∃ σ' H', Inv X pins σ' H' s' ∧ D.ct σ' H'
  | .ret u => ∃ v σ' H', Inv X pins σ' H' s' ∧ RelV v u ∧ D.rt v H'
def PE (X : Cx) (e : Expr) (t : TE) : Prop :=
  ∀ (pins : List (Addr × Obj)) (s : Shared) (σ : St) (H : Hp) (Q : VK), Inv X pins σ H s → t σ H Q → wpAny (model X.prog X.w) X.A (eval e X.env) (EP X pins σ Q) X.xe s
def PT (X : Cx) (e : Expr) (t : TT) : Prop :=
  ∀ (pins : List (Addr × Obj)) (s : Shared) (σ : St) (H : Hp) (Q : Bool → Hp → Prop), Inv X pins σ H s → t σ H Q → wpAny (model X.prog X.w) X.A (isTrue e X.env (eval e X.env)) (TP X pins σ Q) X.xe s
def PW (X : Cx) (e : Expr) (t : TT) : Prop :=
  ∀ (whole : Sem Value) (pins : List (Addr × Obj)) (s : Shared) (σ : St) (H : Hp) (Q : Bool → Hp → Prop), Inv X pins σ H s → t σ H Q → wpAny (model X.prog X.w) X.A (isTrue e X.env whole) (TP X pins σ Q) X.xe s
theorem PW.pt {X : Cx} {e : Expr} {t : TT} (h : PW X e t) : PT X e t := h _
def PA (X : Cx) (es : List Expr) (t : TA) : Prop :=
  ∀ (pos : Pos) (pins : List (Addr × Obj)) (s : Shared) (σ : St) (H : Hp) (Q : List V → Hp → Prop), Inv X pins σ H s → t σ H Q → wpAny (model X.prog X.w) X.A (spliced (backTo pos (starEach es X.env))) (AP X pins σ Q) X.xe s
def PS (X : Cx) (st : Stmt) (t : TS) : Prop :=
  ∀ (pins : List (Addr × Obj)) (s : Shared) (σ : St) (H : Hp) (D : Ends), Inv X pins σ H s → t D σ H → wpAny (model X.prog X.w) X.A (exec st X.env) (SP X pins D) X.xe s
def PSs (X : Cx) (st : List Stmt) (t : TS) : Prop :=
  ∀ (pins : List (Addr × Obj)) (s : Shared) (σ : St) (H : Hp) (D : Ends), Inv X pins σ H s → t D σ H → wpAny (model X.prog X.w) X.A (execs st X.env) (SP X pins D) X.xe s
theorem thn {α : Type} {t : Sem α} {Q Q' : α → Shared → Prop} {M : Model} {A : Around} {E : Value → Shared → Prop} {s : Shared} (h : wpAny M A t Q E s) (hQ : ∀ a s, Q a s → Q' a s) : wpAny M A t Q' E s := wpAny_mono h hQ fun _ _ x => x
end L2
namespace L2
open PySem PySem.Spec PyProof.Rows
section
variable {X : Cx}
def tVar (i : Nat) : TE := fun σ H Q => ∃ v, σ[i]? = some (some v) ∧ Q v H
def tC (v : V) : TE := fun _ H Q => Q v H
theorem pe_var {i : Nat} {x : Str} {pos : Pos} (hN : X.N[i]? = some x) (hv : Vis X.env.scope x) (hd : (x == ("__debug__" : Str)) = false := by decide) (hcd : (x == ("__classdict__" : Str)) = false := by decide) : PE X (.Name x pos) (tVar i) := by
  intro pins s σ H Q I h
  obtain ⟨v, e, h⟩ := h
  obtain ⟨m, hn, hl⟩ := I.loc
  obtain ⟨u, r, l⟩ := hl i x v hN e hv
  have fin : EP X pins σ Q u s := ⟨v, H, I, r, h⟩
  rcases l with ⟨hk, hm⟩ | ⟨hk, c, hc, hcell⟩
  · exact wpAny_Name (wpAny_loadName_local I.ok.kind hk hn hm fin) hd
  · rcases hk with hk | hk
    · exact wpAny_Name (wpAny_loadName_cell I.ok.kind hk hc hcell fin) hd
    · exact wpAny_Name (wpAny_loadName_free I.ok.kind hk hc hcell fin hcd) hd
theorem pe_int {i j pos} : PE X (.Constant (.int i) j pos) (tC (.int i)) := fun _ _ _ H _ I h => wpAny_Constant_int ⟨.int i, H, I.tok _, ⟨_, rfl⟩, h⟩
theorem pe_bl {b j pos} : PE X (.Constant (.bool b) j pos) (tC (.bl b)) := fun _ _ _ H _ I h => Constant_bool ⟨.bl b, H, I, rfl, h⟩
def Gl (X : Cx) (x : Str) : Prop := X.env.kindOf x = some .globalImplicit
theorem ld_glob {E : Value → Shared → Prop} {pins : List (Addr × Obj)} {s : Shared} {σ : St} {H : Hp} {x : Str} {u : Value} {pos : Pos} {Q : Value → Shared → Prop} (I : Inv X pins σ H s) (hg : Gl X x) (hm : X.mg x = some u) (h : Q u s)
    (hd : (x == ("__debug__" : Str)) = false := by decide) : wpAny (model X.prog X.w) X.A (eval (.Name x pos) X.env) Q E s :=
  Calls.Name_function_global I.ok.kind hg (Calls.loadGlobal_global (by rw [I.ok.glob]; exact I.mod.glob.keeps I.bk) hm h) hd
theorem ld_blt {E : Value → Shared → Prop} {pins : List (Addr × Obj)} {s : Shared} {σ : St} {H : Hp} {x : Str} {u : Value} {pos : Pos} {Q : Value → Shared → Prop} (I : Inv X pins σ H s) (hg : Gl X x) (hm : X.mg x = none) (hv : bootBuiltins x = some u) (h : Q u s)
    (hn : x ≠ "__name__" := by decide) (hd : (x == ("__debug__" : Str)) = false := by decide) : wpAny (model X.prog X.w) X.A (eval (.Name x pos) X.env) Q E s := by
  obtain ⟨mb, h1, h2⟩ := I.mod.blt
  exact Calls.Name_function_global I.ok.kind hg (Calls.loadGlobal_builtin (by rw [I.ok.glob]; exact I.mod.glob.keeps I.bk) hm (by rw [I.ok.blt]; exact h1.keeps I.bk) ((h2 x hn).trans hv) h) hd
theorem pe_glob {x : Str} {v : V} {u : Value} {pos : Pos} (hg : Gl X x) (hm : X.mg x = some u) (r : RelV v u) (hd : (x == ("__debug__" : Str)) = false := by decide) : PE X (.Name x pos) (tC v) :=
  fun _ _ _ H _ I h => ld_glob I hg hm ⟨v, H, I, r, h⟩ hd
def t2I (ta tb : TE) (k : Int → Int → Hp → Prop) : St → Hp → Prop := fun σ H => ta σ H fun x H1 => tb σ H1 fun y H2 => ∃ i j, x = .int i ∧ y = .int j ∧ k i j H2
def tAdd (ta tb : TE) : TE := fun σ H Q => t2I ta tb (fun i j H2 => Q (.int (i + j)) H2) σ H
def tSub (ta tb : TE) : TE := fun σ H Q => t2I ta tb (fun i j H2 => Q (.int (i - j)) H2) σ H
def tMul (ta tb : TE) : TE := fun σ H Q => t2I ta tb (fun i j H2 => (-(2 ^ 64) < i ∧ i < 2 ^ 64) ∧ Q (.int (i * j)) H2) σ H
variable {a b : Expr} {ta tb : TE} {pos : Pos}
def PC (X : Cx) (op : CmpOp) (a b : Expr) (t : TE) : Prop :=
  ∀ (pins : List (Addr × Obj)) (s : Shared) (σ : St) (H : Hp) (Q : VK), Inv X pins σ H s → t σ H Q →
    wpAny (model X.prog X.w) X.A (eval a X.env) (fun v s₁ => wpAny (model X.prog X.w) X.A (eval b X.env) (fun u s₂ => wpAny (model X.prog X.w) X.A (compareOp op v u) (EP X pins σ Q) X.xe s₂) X.xe s₁) X.xe s
def tCmp (p : Int → Int → Bool) (ta tb : TE) : TE := fun σ H Q => t2I ta tb (fun i j H2 => Q (.bl (p i j)) H2) σ H
abbrev tLt : TE → TE → TE := tCmp fun i j => decide (i < j)
abbrev tLe : TE → TE → TE := tCmp fun i j => decide (i ≤ j)
abbrev tGt : TE → TE → TE := tCmp fun i j => decide (j < i)
abbrev tGe : TE → TE → TE := tCmp fun i j => decide (j ≤ i)
abbrev tEqI : TE → TE → TE := tCmp fun i j => decide (i = j)
abbrev tNeI : TE → TE → TE := tCmp fun i j => !decide (i = j)
def tIsN (ta : TE) : TE := fun σ H Q => ta σ H fun x H1 => Q (.bl (decide (x = .non))) H1
def tNotN (ta : TE) : TE := fun σ H Q => ta σ H fun x H1 => Q (.bl (!decide (x = .non))) H1
def tB (t : TE) : TT := fun σ H Q => t σ H fun x H1 => ∃ c, x = .bl c ∧ Q c H1
theorem pt_val {e : Expr} {t : TE} (h : PE X e t) (he : ∀ whole, isTrue e X.env whole = (do let v ← whole; standAt e.pos; holding [v] (truthy v)) := by intro _; rfl) : PT X e (tB t) := by
  intro pins s σ H Q I hw
  refine isTrue_plain (thn (h pins s σ H _ I hw) fun v s1 ⟨x, H1, I1, r1, q1⟩ => ?_) (he _)
  obtain ⟨d, rfl, q⟩ := q1
  cases r1
  exact wpAny_truthy_bool ⟨H1, I1, q⟩
variable {tA tB' : TT} {rest : List Expr}
def tAnd (t u : TT) : TT := fun σ H Q => t σ H fun c H1 => if c = true then u σ H1 Q else Q false H1
def tOr (t u : TT) : TT := fun σ H Q => t σ H fun c H1 => if c = true then Q true H1 else u σ H1 Q
def tNot (t : TT) : TT := fun σ H Q => t σ H fun c H1 => Q (!c) H1
theorem pw_and1 (ha : PT X a tA) : PW X (.BoolOp .And [a] pos) tA := by
  intro wh pins s σ H Q I h
  refine isTrue_and (thn (ha pins s σ H Q I h) fun c s1 e => ?_)
  cases c with
  | true => exact isTrue_and_nil e
  | false => exact e
theorem pw_or1 (ha : PT X a tA) : PW X (.BoolOp .Or [a] pos) tA := by
  intro wh pins s σ H Q I h
  refine isTrue_or (thn (ha pins s σ H Q I h) fun c s1 e => ?_)
  cases c with
  | false => exact isTrue_or_nil e
  | true => exact e
theorem pw_and (ha : PT X a tA) (hb : PW X (.BoolOp .And (b :: rest) pos) tB') : PW X (.BoolOp .And (a :: b :: rest) pos) (tAnd tA tB') := by
  intro wh pins s σ H Q I h
  refine isTrue_and (thn (ha pins s σ H _ I h) fun c s1 ⟨H1, I1, q1⟩ => ?_)
  cases c with
  | true => exact hb wh pins s1 σ H1 Q I1 q1
  | false => exact ⟨H1, I1, q1⟩
theorem pw_or (ha : PT X a tA) (hb : PW X (.BoolOp .Or (b :: rest) pos) tB') : PW X (.BoolOp .Or (a :: b :: rest) pos) (tOr tA tB') := by
  intro wh pins s σ H Q I h
  refine isTrue_or (thn (ha pins s σ H _ I h) fun c s1 ⟨H1, I1, q1⟩ => ?_)
  cases c with
  | true => exact ⟨H1, I1, q1⟩
  | false => exact hb wh pins s1 σ H1 Q I1 q1
theorem pt_not (ha : PT X a tA) : PT X (.UnaryOp .Not a pos) (tNot tA) := by
  intro pins s σ H Q I h
  exact isTrue_not (ha pins s σ H (fun c H1 => Q (!c) H1) I h)
def tAndV (ta tb : TE) : TE := fun σ H Q => ta σ H fun x H1 => ∃ c, x = .bl c ∧ if c = true then tb σ H1 Q else Q (.bl false) H1
def tOrV (ta tb : TE) : TE := fun σ H Q => ta σ H fun x H1 => ∃ c, x = .bl c ∧ if c = true then Q (.bl true) H1 else tb σ H1 Q
def tNotV (ta : TE) : TE := fun σ H Q => ta σ H fun x H1 => ∃ c, x = .bl c ∧ Q (.bl (!c)) H1
theorem pe_one {op} {t : TE} (h : PE X a t) : PE X (.BoolOp op [a] pos) t := fun pins s σ H Q I hw => BoolOp_one (h pins s σ H Q I hw)
theorem pe_and (ha : PE X a ta) (hb : PE X (.BoolOp .And (b :: rest) pos) tb) : PE X (.BoolOp .And (a :: b :: rest) pos) (tAndV ta tb) := by
  intro pins s σ H Q I h
  refine BoolOp_and (thn (ha pins s σ H _ I h) fun v s1 ⟨x, H1, I1, r1, q1⟩ => ?_)
  obtain ⟨c, rfl, q1⟩ := q1
  cases r1
  refine wpAny_truthy_bool ?_
  cases c with
  | true => exact hb pins s1 σ H1 Q I1 q1
  | false => exact ⟨.bl false, H1, I1, rfl, q1⟩
theorem pe_or (ha : PE X a ta) (hb : PE X (.BoolOp .Or (b :: rest) pos) tb) : PE X (.BoolOp .Or (a :: b :: rest) pos) (tOrV ta tb) := by
  intro pins s σ H Q I h
  refine BoolOp_or (thn (ha pins s σ H _ I h) fun v s1 ⟨x, H1, I1, r1, q1⟩ => ?_)
  obtain ⟨c, rfl, q1⟩ := q1
  cases r1
  refine wpAny_truthy_bool ?_
  cases c with
  | false => exact hb pins s1 σ H1 Q I1 q1
  | true => exact ⟨.bl true, H1, I1, rfl, q1⟩
theorem pe_not (ha : PE X a ta) : PE X (.UnaryOp .Not a pos) (tNotV ta) := by
  intro pins s σ H Q I h
  refine UnaryOp_ (thn (ha pins s σ H _ I h) fun v s1 ⟨x, H1, I1, r1, q1⟩ => ?_)
  obtain ⟨c, rfl, q1⟩ := q1
  cases r1
  exact not_of (wpAny_truthy_bool ⟨.bl (!c), H1, I1, rfl, q1⟩)
def tIf (t : TT) (ta tb : TE) : TE := fun σ H Q => t σ H fun c H1 => if c = true then ta σ H1 Q else tb σ H1 Q
theorem pe_ifExp {c : Expr} (hc : PT X c tA) (ha : PE X a ta) (hb : PE X b tb) : PE X (.IfExp c a b pos) (tIf tA ta tb) := by
  intro pins s σ H Q I h
  refine wpAny_IfExp (thn (hc pins s σ H _ I h) fun d s1 ⟨H1, I1, q1⟩ => ?_)
  cases d with
  | true => exact ha pins s1 σ H1 Q I1 q1
  | false => exact hb pins s1 σ H1 Q I1 q1
end
end L2
namespace L2
open PySem PySem.Spec PyProof.Rows
def SqL (K : PySem.W.Frag) (H : Hp) (a : Addr) (xs : List V) : Prop :=
  Rd H a (.lst xs) ∨
    ∃ (o : Obj) (its : Array Value) (n : Nat), K.lookup a = some o ∧ o.cls = .type "list" ∧ o.dict = none ∧ o.data = .seq its n ∧ its.size ≤ sizeLine ∧ Vals xs its.toList
def SqT (K : PySem.W.Frag) (H : Hp) (a : Addr) (xs : List V) : Prop :=
  Rd H a (.tup xs) ∨
    ∃ (o : Obj) (its : Array Value) (n : Nat), K.lookup a = some o ∧ o.cls = .type "tuple" ∧ o.data = .seq its n ∧ its.size ≤ sizeLine ∧ Vals xs its.toList
def absV : Value → Option V
  | .none => some .non
  | .bool b => some (.bl b)
  | .int i _ => some (.int i)
  | .str x _ => some (.str x)
  | .bytes b _ => some (.byt b)
  | .float b _ => some (.flt b)
  | .ref a => some (.ref a)
  | .type n => some (.ty n)
  | _ => none
theorem RelV.abs {x : V} {u : Value} (r : RelV x u) : absV u = some x := by
  cases x with
  | non => cases r; rfl
  | bl _ => cases r; rfl
  | int _ => obtain ⟨t, rfl⟩ := r; rfl
  | str _ => obtain ⟨t, rfl⟩ := r; rfl
  | byt _ => obtain ⟨t, rfl⟩ := r; rfl
  | flt _ => obtain ⟨t, rfl⟩ := r; rfl
  | ref _ => cases r; rfl
  | ty _ => cases r; rfl
theorem RelV.inj {x y : V} {u : Value} (r : RelV x u) (q : RelV y u) : x = y := Option.some.inj (r.abs.symm.trans q.abs)
theorem Vals.inj : ∀ {xs ys : List V} {us : List Value}, Vals xs us → Vals ys us → xs = ys
  | _, _, _, .nil, .nil => rfl
  | _, _, _, .cons r t, .cons r' t' => by rw [r.inj r', Vals.inj t t']
section
variable {X : Cx} {pins : List (Addr × Obj)} {σ : St} {H : Hp} {s : Shared} {a : Addr} {xs ys : List V}
theorem SqL.of {K : PySem.W.Frag} (h : H a = some (.lst xs)) : SqL K H a xs := .inl (.inl h)
theorem SqT.of {K : PySem.W.Frag} (h : H a = some (.tup xs)) : SqT K H a xs := .inl (.inl h)
theorem Inv.list (I : Inv X pins σ H s) (h : SqL X.K H a xs) : ∃ its : List Value, Vals xs its ∧ PlainL s.heap a its.toArray ∧ xs.length ≤ sizeLine := by
  rcases h with h | ⟨o, its, n, hk, hc, hd, hs, hz, r⟩
  · obtain ⟨z, its, n, r, e⟩ := h.ok I.hok
    exact ⟨its, r, ⟨_, n, e, rfl, rfl, rfl⟩, z⟩
  · refine ⟨its.toList, r, ⟨o, n, I.kIn a o hk, hc, hd, by simpa using hs⟩, ?_⟩
    have e := r.length
    simp only [Array.length_toList] at e
    omega
theorem Inv.tuple (I : Inv X pins σ H s) (h : SqT X.K H a xs) : ∃ its : List Value, Vals xs its ∧ IsTup s.heap a its.toArray ∧ xs.length ≤ sizeLine := by
  rcases h with h | ⟨o, its, n, hk, hc, hs, hz, r⟩
  · obtain ⟨z, its, r, p⟩ := h.ok I.hok
    exact ⟨its, r, p, z⟩
  · refine ⟨its.toList, r, ⟨o, I.kIn a o hk, hc, n, by simpa using hs⟩, ?_⟩
    have e := r.length
    simp only [Array.length_toList] at e
    omega
theorem Inv.list_inj (I : Inv X pins σ H s) (h : SqL X.K H a xs) (h' : SqL X.K H a ys) : xs = ys := by
  obtain ⟨its, r, ⟨o, n, e, _, _, d⟩, _⟩ := I.list h
  obtain ⟨its', r', ⟨o', n', e', _, _, d'⟩, _⟩ := I.list h'
  rw [e] at e'; cases e'
  rw [d] at d'
  injection d' with d1 _
  have : its = its' := by simpa using congrArg Array.toList d1
  subst this
  exact r.inj r'
end
abbrev Cx.wish (X : Cx) (E : Value → Shared → Prop) : Cx := { X with xe := E }
abbrev Cx.nox (X : Cx) : Cx := X.wish fun _ _ => False
theorem Cx.Ok.wish {X : Cx} (ok : X.Ok) (E : Value → Shared → Prop) : (X.wish E).Ok :=
  ⟨ok.mod, ok.kind, ok.glob, ok.blt, ok.above, ok.inj, ok.has, ok.cab, ok.hd, ok.frames, ok.stk, ok.exf, ok.bs, ok.bsz, ok.noex, ok.exfs, ok.funs, ok.frf⟩
theorem Cx.Ok.unwish {X : Cx} {E : Value → Shared → Prop} (ok : (X.wish E).Ok) : X.Ok :=
  ⟨ok.mod, ok.kind, ok.glob, ok.blt, ok.above, ok.inj, ok.has, ok.cab, ok.hd, ok.frames, ok.stk, ok.exf, ok.bs, ok.bsz, ok.noex, ok.exfs, ok.funs, ok.frf⟩
section
variable {X : Cx} {pins : List (Addr × Obj)} {σ : St} {H : Hp} {s : Shared} {E : Value → Shared → Prop}
theorem Inv.wish (I : Inv X pins σ H s) (E : Value → Shared → Prop) : Inv (X.wish E) pins σ H s := ⟨I.ok.wish E, I.os, I.bare, I.base, I.loc, I.cell, I.free, I.freeC, I.pin, I.hok, I.len⟩
theorem Inv.unwish (I : Inv (X.wish E) pins σ H s) : Inv X pins σ H s := ⟨I.ok.unwish, I.os, I.bare, I.base, I.loc, I.cell, I.free, I.freeC, I.pin, I.hok, I.len⟩
theorem SP.unwish {D : Ends} {f : Flow} {s' : Shared} (h : SP (X.wish E) pins D f s') : SP X pins D f s' := by
  cases f with
  | next => obtain ⟨σ', H', I, q⟩ := h; exact ⟨σ', H', I.unwish, q⟩
  | brk => obtain ⟨σ', H', I, q⟩ := h; exact ⟨σ', H', I.unwish, q⟩
  | cont => obtain ⟨σ', H', I, q⟩ := h; exact ⟨σ', H', I.unwish, q⟩
  | ret u => obtain ⟨v, σ', H', I, r, q⟩ := h; exact ⟨v, σ', H', I.unwish, r, q⟩
theorem PSs.nox {st : List Stmt} {t : TS} (h : PSs X.nox st t) : PSs X st t := fun pins s σ H D I hw =>
  wpAny_mono (h pins s σ H D (I.wish _) hw) (fun _ _ q => q.unwish) fun _ _ z => False.elim z
end
section
variable {X : Cx} {st : Stmt} {rest : List Stmt} {t u : TS} {e : Expr} {te : TE} {pos : Pos}
def tNext : TS := fun D σ H => D.nx σ H
def tSeq (t u : TS) : TS := fun D σ H => t { D with nx := u D } σ H
theorem pss_nil : PSs X [] tNext := fun _ _ σ H _ I h => wpAny_execs_nil ⟨σ, H, I, h⟩
theorem pss_cons (h1 : PS X st t) (h2 : PSs X rest u) : PSs X (st :: rest) (tSeq t u) := by
  intro pins s σ H D I h
  refine wpAny_execs_cons (thn (h1 pins s σ H { D with nx := u D } I h) fun f s1 q => ?_)
  cases f with
  | next =>
    obtain ⟨σ', H', I', q⟩ := q
    exact h2 pins s1 σ' H' D I' q
  | ret v => exact q
  | brk => exact q
  | cont => exact q
theorem pss_one (h1 : PS X st t) : PSs X [st] t := by
  intro pins s σ H D I h
  refine wpAny_execs_cons (thn (h1 pins s σ H D I h) fun f s1 q => ?_)
  cases f with
  | next => exact wpAny_execs_nil q
  | ret v => exact q
  | brk => exact q
  | cont => exact q
def tBreak : TS := fun D σ H => D.bk σ H
def tCont : TS := fun D σ H => D.ct σ H
theorem ps_continue : PS X (.Continue pos) tCont := fun _ _ σ H _ I h => wpAny_Continue ⟨σ, H, I, h⟩
theorem Inv.quiet {pins : List (Addr × Obj)} {σ : St} {H : Hp} {s : Shared} (I : Inv X pins σ H s) : interactive X.env = false := by simp [interactive, I.ok.kind]
def tDrop (te : TE) : TS := fun D σ H => te σ H fun _ H1 => D.nx σ H1
theorem ps_expr (he : PE X e te) (hs : swapsWith e none pos.line X.env = pure false := by rfl) : PS X (.Expr e pos) (tDrop te) := by
  intro pins s σ H D I h
  exact wpAny_Expr_any (thn (he pins s σ H _ I h) fun v s1 ⟨x, H1, I1, r1, q1⟩ => ⟨σ, H1, I1, q1⟩) I.quiet hs
def tRet (te : TE) : TS := fun D σ H => te σ H D.rt
theorem ps_ret (he : PE X e te) : PS X (.Return (some e) pos) (tRet te) := by
  intro pins s σ H D I h
  exact wpAny_Return_some (thn (he pins s σ H _ I h) fun v s1 ⟨x, H1, I1, r1, q1⟩ => ⟨x, σ, H1, I1, r1, q1⟩)
def tRetN : TS := fun D _ H => D.rt .non H
def tIfS (c : TT) (t u : TS) : TS := fun D σ H => c σ H fun b H1 => if b = true then t D σ H1 else u D σ H1
theorem ps_if {c : Expr} {a b : List Stmt} {tc : TT} (hc : PT X c tc) (ha : PSs X a t) (hb : PSs X b u) : PS X (.If c a b pos) (tIfS tc t u) := by
  intro pins s σ H D I h
  refine wpAny_If (thn (hc pins s σ H _ I h) fun d s1 ⟨H1, I1, q1⟩ => ?_)
  cases d with
  | true => exact ha pins s1 σ H1 D I1 q1
  | false => exact hb pins s1 σ H1 D I1 q1
def tNever : TS := fun _ _ _ => False
end
abbrev TG := V → St → Hp → (St → Hp → Prop) → Prop
abbrev TGs := List V → St → Hp → (St → Hp → Prop) → Prop
def PG (X : Cx) (target : Expr) (t : TG) : Prop :=
  ∀ (pins : List (Addr × Obj)) (s : Shared) (σ : St) (H : Hp) (v : V) (u : Value) (Q : St → Hp → Prop), Inv X pins σ H s → RelV v u → t v σ H Q →
    wpAny (model X.prog X.w) X.A (assign target X.env u) (fun _ s' => ∃ σ' H', Inv X pins σ' H' s' ∧ Q σ' H') X.xe s
def PGs (X : Cx) (ts : List Expr) (t : TGs) : Prop :=
  ∀ (pins : List (Addr × Obj)) (s : Shared) (σ : St) (H : Hp) (vs : List V) (us : List Value) (Q : St → Hp → Prop), Inv X pins σ H s → Vals vs us → t vs σ H Q →
    wpAny (model X.prog X.w) X.A (assignInOrder ((assignEach ts X.env).map (·.2)) us) (fun _ s' => ∃ σ' H', Inv X pins σ' H' s' ∧ Q σ' H') X.xe s
abbrev TSet := V → V → V → Hp → (Hp → Prop) → Prop
def PSet (X : Cx) (t : TSet) : Prop :=
  ∀ (pins : List (Addr × Obj)) (s : Shared) (σ : St) (H : Hp) (o i v : V) (ov iv u : Value) (Q : Hp → Prop), Inv X pins σ H s → RelV o ov → RelV i iv → RelV v u → t o i v H Q →
    wpAny (model X.prog X.w) X.A (setItem ov iv u) (fun _ s' => ∃ H', Inv X pins σ H' s' ∧ Q H') X.xe s
abbrev TIp := V → V → Hp → VK → Prop
def PIp (X : Cx) (op : Operator) (t : TIp) : Prop :=
  ∀ (pins : List (Addr × Obj)) (s : Shared) (σ : St) (H : Hp) (x y : V) (v u : Value) (Q : VK), Inv X pins σ H s → RelV x v → RelV y u → t x y H Q →
    wpAny (model X.prog X.w) X.A (inplaceOp op v u) (EP X pins σ Q) X.xe s
section
variable {X : Cx} {pos : Pos}
def gName (i : Nat) : TG := fun v σ H Q => Q (σ.set i (some v)) H
theorem pg_name {i : Nat} {x : Str} (hN : X.N.Nodup) (hi : X.N[i]? = some x) (hx : Loc X.env.scope x) (hf : X.fn x = true ∨ X.env.scope.names.lookup x = some .local := by first | exact .inl rfl | exact .inr rfl | assumption) : PG X (.Name x pos) (gName i) := by
  intro pins s σ H v u Q I r h
  exact wpAny_assign_Name (store_ok I hN hi hx r (fun s' I' => ⟨_, H, I', h⟩) hf)
def gNil : TGs := fun vs σ H Q => vs = [] ∧ Q σ H
def gCons (t : TG) (u : TGs) : TGs := fun vs σ H Q => ∃ v r, vs = v :: r ∧ t v σ H fun σ' H' => u r σ' H' Q
theorem pgs_nil : PGs X [] gNil := by
  intro pins s σ H vs us Q I r h
  obtain ⟨e, h⟩ := h
  subst e
  cases r
  exact assignInOrder_nil ⟨σ, H, I, h⟩
theorem pgs_cons {e : Expr} {es : List Expr} {t : TG} {u : TGs} (h1 : PG X e t) (h2 : PGs X es u)
    (hs : (assignEach (e :: es) X.env).map (·.2) = assign e X.env :: (assignEach es X.env).map (·.2) := by rfl) : PGs X (e :: es) (gCons t u) := by
  intro pins s σ H vs us Q I r h
  obtain ⟨v, vr, e1, h⟩ := h
  subst e1
  cases r with
  | cons r rr =>
    rw [hs]
    refine assignInOrder_cons (thn (h1 pins s σ H _ _ _ I r h) fun _ s1 ⟨σ1, H1, I1, q1⟩ => ?_)
    exact h2 pins s1 σ1 H1 _ _ Q I1 rr q1
def gTup (K : PySem.W.Frag) (n : Nat) (t : TGs) : TG := fun v σ H Q => ∃ a xs, v = .ref a ∧ SqT K H a xs ∧ xs.length = n ∧ t xs σ H Q
theorem pg_tup {es : List Expr} {k : Nat} {t : TGs} {n : Nat} (hc : X.calm = true) (h : PGs X es t)
    (hn : (assignEach es X.env).length = n := by rfl) (hst : (assignEach es X.env).findIdx? (·.1) = none := by rfl) : PG X (.Tuple es k pos) (gTup X.K n t) := by
  intro pins s σ H v u Q I r hw
  obtain ⟨a, xs, e1, hq, hl, hw⟩ := hw
  subst e1
  cases r
  obtain ⟨its, rv, ht, hz⟩ := I.tuple hq
  refine assign_Tuple_tuple (I.ok.hd hc) ht (by simp [hn, ← hl, rv.length]) hst fun h' hx => ?_
  have I1 : Inv X pins σ H { s with heap := h' } := I.kept (t' := s.toks) fun b o e => hx b o (Nat.ne_of_lt (Heap.lt_size e)) e
  exact h pins _ σ H xs _ Q I1 (by simpa using rv) hw
def gSub (to ti : TE) (t : TSet) : TG := fun v σ H Q => to σ H fun o H1 => ti σ H1 fun i H2 => t o i v H2 fun H3 => Q σ H3
theorem pg_sub {o i : Expr} {to ti : TE} {t : TSet} (ho : PE X o to) (hi : PE X i ti) (hs : PSet X t)
    (ha : ∀ v, assign (.Subscript o i pos) X.env v = (do
      let ov ← holding [v] (eval o X.env)
      let iv ← holding [v, ov] (eval i X.env)
      standAt pos
      holding [v, ov, iv] (setItem ov iv v)
      release [v, ov, iv] []) := by intro _; rfl) : PG X (.Subscript o i pos) (gSub to ti t) := by
  intro pins s σ H v u Q I r h
  rw [ha]
  refine wpAny_bind (wpAny_holding (thn (ho pins s σ H _ I h) fun ov s1 ⟨x, H1, I1, r1, q1⟩ => ?_))
  refine wpAny_bind (wpAny_holding (thn (hi pins s1 σ H1 _ I1 q1) fun iv s2 ⟨y, H2, I2, r2, q2⟩ => ?_))
  refine wpAny_bind (wpAny_standAt (wpAny_bind (wpAny_holding (thn (hs pins s2 σ H2 x y v ov iv u _ I2 r1 r2 r q2) fun _ s3 ⟨H3, I3, q3⟩ => ?_))))
  exact wpAny_release ⟨σ, H3, I3, q3⟩
def tAsg (te : TE) (g : TG) : TS := fun D σ H => te σ H fun x H1 => g x σ H1 D.nx
theorem ps_asg {tg e : Expr} {te : TE} {g : TG} (he : PE X e te) (hg : PG X tg g) (hs : swapsWithSole [tg] e pos.line X.env = pure false := by rfl) (hw : swappedStores [tg] e X.env = pure none := by rfl)
    (h1 : (assignEach [tg] X.env).map (·.2) = [assign tg X.env] := by rfl) : PS X (.Assign [tg] e pos) (tAsg te g) := by
  intro pins s σ H D I h
  refine wpAny_Assign_stores (thn (he pins s σ H _ I h) fun v s1 ⟨x, H1, I1, r1, q1⟩ => ?_) hs hw
  rw [h1]
  exact thn (hg pins s1 σ H1 x v _ I1 r1 q1) fun _ s2 q => q
theorem ps_set {i : Nat} {x : Str} {e : Expr} {te : TE} {pos' : Pos} (hN : X.N.Nodup) (hi : X.N[i]? = some x) (hx : Loc X.env.scope x) (he : PE X e te) (hs : swapsWith e (some (.Name x pos')) pos.line X.env = pure false := by rfl) (hf : X.fn x = true ∨ X.env.scope.names.lookup x = some .local := by first | exact .inl rfl | exact .inr rfl | assumption) :
    PS X (.Assign [.Name x pos'] e pos) (tAsg te (gName i)) := by
  intro pins s σ H D I h
  refine wpAny_Assign_Name (thn (he pins s σ H _ I h) fun v s1 ⟨y, H1, I1, r1, q1⟩ => ?_) hs
  exact store_ok I1 hN hi hx r1 (fun s2 I2 => ⟨_, H1, I2, q1⟩) hf
def tPar (i j : Nat) (ta : TA) : TS := fun D σ H => ta σ H fun vs H1 => ∃ v w, vs = [v, w] ∧ D.nx ((σ.set i (some v)).set j (some w)) H1
def tAug (i : Nat) (te : TE) (ti : TIp) : TS := fun D σ H => ∃ x, σ[i]? = some (some x) ∧ te σ H fun y H1 => ti x y H1 fun z H2 => D.nx (σ.set i (some z)) H2
theorem ps_aug {i : Nat} {x : Str} {e : Expr} {te : TE} {op : Operator} {ti : TIp} {pos' : Pos} (hN : X.N.Nodup) (hi : X.N[i]? = some x) (hx : Loc X.env.scope x) (he : PE X e te) (ho : PIp X op ti) (hf : X.fn x = true ∨ X.env.scope.names.lookup x = some .local := by first | exact .inl rfl | exact .inr rfl | assumption) :
    PS X (.AugAssign (.Name x pos') op e pos) (tAug i te ti) := by
  intro pins s σ H D I h
  obtain ⟨v, e1, h⟩ := h
  obtain ⟨m, hn, hl⟩ := I.loc
  have vis : Vis X.env.scope x := by rcases hx with k | k; exact .inl k; exact .inr (.inl k)
  obtain ⟨u, r, l⟩ := hl i x v hi e1 vis
  refine wpAny_AugAssign_Name ?_
  have go : wpAny (model X.prog X.w) X.A (eval e X.env) (fun w s₂ => wpAny (model X.prog X.w) X.A (inplaceOp op u w) (fun r s₃ => wpAny (model X.prog X.w) X.A (storeName X.env x r) (fun _ => SP X pins D .next) X.xe s₃) X.xe s₂) X.xe s := by
    refine thn (he pins s σ H _ I h) fun w s1 ⟨y, H1, I1, r1, q1⟩ => ?_
    refine thn (ho pins s1 σ H1 v y u w _ I1 r r1 q1) fun z s2 ⟨zv, H2, I2, r2, q2⟩ => ?_
    exact store_ok I2 hN hi hx r2 (fun s3 I3 => ⟨_, H2, I3, q2⟩) hf
  rcases l with ⟨hk, hm⟩ | ⟨hk, c, hc, hcell⟩
  · exact wpAny_loadName_local I.ok.kind hk hn hm go
  · rcases hk with hk | hk
    · exact wpAny_loadName_cell I.ok.kind hk hc hcell go
    · rcases hx with k | k
      · have : X.env.scope.names.lookup x = some .free := hk
        rw [k] at this; cases this
      · have : X.env.scope.names.lookup x = some .free := hk
        rw [k] at this; cases this
def tAugS (to ti te : TE) (tget : V → V → Hp → VK → Prop) (tip : TIp) (tset : TSet) : TS := fun D σ H => to σ H fun o H1 => ti σ H1 fun i H2 => tget o i H2 fun x H3 => te σ H3 fun y H4 => tip x y H4 fun z H5 => tset o i z H5 fun H6 => D.nx σ H6
def PGet (X : Cx) (t : V → V → Hp → VK → Prop) : Prop :=
  ∀ (pins : List (Addr × Obj)) (s : Shared) (σ : St) (H : Hp) (o i : V) (ov iv : Value) (Q : VK), Inv X pins σ H s → RelV o ov → RelV i iv → t o i H Q →
    wpAny (model X.prog X.w) X.A (getItem ov iv) (EP X pins σ Q) X.xe s
theorem ps_augS {o i e : Expr} {to ti te : TE} {tget : V → V → Hp → VK → Prop} {tip : TIp} {tset : TSet} {op : Operator} {tpos : Pos} (ho : PE X o to) (hi : PE X i ti) (hg : PGet X tget) (he : PE X e te) (hp : PIp X op tip) (hs : PSet X tset)
    (ha : ∀ ov iv new, augStore i ov iv new = (do holding [new, ov, iv] (setItem ov iv new); release [new, ov, iv] []; pure .next) := by intros; rfl) : PS X (.AugAssign (.Subscript o i tpos) op e pos) (tAugS to ti te tget tip tset) := by
  intro pins s σ H D I h
  refine wpAny_AugAssign_SubscriptAny (thn (ho pins s σ H _ I h) fun ov s1 ⟨x1, H1, I1, r1, q1⟩ => ?_) ha
  refine thn (hi pins s1 σ H1 _ I1 q1) fun iv s2 ⟨x2, H2, I2, r2, q2⟩ => ?_
  refine thn (hg pins s2 σ H2 x1 x2 ov iv _ I2 r1 r2 q2) fun old s3 ⟨x3, H3, I3, r3, q3⟩ => ?_
  refine thn (he pins s3 σ H3 _ I3 q3) fun v s4 ⟨x4, H4, I4, r4, q4⟩ => ?_
  refine thn (hp pins s4 σ H4 x3 x4 old v _ I4 r3 r4 q4) fun new s5 ⟨x5, H5, I5, r5, q5⟩ => ?_
  exact thn (hs pins s5 σ H5 x1 x2 x5 ov iv new _ I5 r1 r2 r5 q5) fun _ s6 ⟨H6, I6, q6⟩ => ⟨σ, H6, I6, q6⟩
def ipI (f : Int → Int → Int) : TIp := fun x y H Q => ∃ i j, x = .int i ∧ y = .int j ∧ Q (.int (f i j)) H
theorem ip_add : PIp X .Add (ipI fun i j => i + j) := by
  intro pins s σ H x y v u Q I r1 r2 h
  obtain ⟨i, j, e1, e2, q⟩ := h
  subst e1; subst e2
  obtain ⟨t, rfl⟩ := r1
  obtain ⟨t', rfl⟩ := r2
  exact iadd_int ⟨.int _, H, I.tok _, ⟨_, rfl⟩, q⟩
end
section
variable {X : Cx} {pos : Pos}
def tWhile (c : TT) (tb : TS) : TS := fun D σ H => ∃ W : Nat → St → Hp → Prop, (∃ m, W m σ H) ∧ ∀ m σ H, W m σ H →
  c σ H fun b H1 => if b = true then ∃ N : St → Hp → Prop, (∀ σ' H', N σ' H' → ∃ m', m' < m ∧ W m' σ' H') ∧ tb { D with nx := N, ct := N, bk := D.nx } σ H1 else D.nx σ H1
theorem ps_while {c : Expr} {body : List Stmt} {tc : TT} {tb : TS} (hp : PassesOwn (model X.prog X.w) X.A X.env X.xe) (hc : PT X c tc) (hb : PSs X body tb) : PS X (.While c body [] pos) (tWhile tc tb) := by
  intro pins s σ H D I h
  obtain ⟨W, ⟨m0, w0⟩, turn⟩ := h
  refine wpAny_While (codeAny_whileLoop (fun n s' => ∃ σ' H', Inv X pins σ' H' s' ∧ W n σ' H') ?_ m0 ⟨σ, H, I, w0⟩)
  rintro n s1 ⟨σ1, H1, I1, w1⟩
  refine wpAny_passesOwn hp (thn (hc pins s1 σ1 H1 _ I1 (turn n σ1 H1 w1)) fun b s2 ⟨H2, I2, q2⟩ => ?_)
  cases b with
  | true =>
    obtain ⟨N, hN, q2⟩ := q2
    rw [if_pos rfl]
    refine wpAny_passesOwn hp (thn (hb pins s2 σ1 H2 _ I2 q2) fun f s3 q3 => ?_)
    cases f with
    | next =>
      obtain ⟨σ3, H3, I3, n3⟩ := q3
      obtain ⟨m', hm, w3⟩ := hN σ3 H3 n3
      exact ⟨m', hm, σ3, H3, I3, w3⟩
    | cont =>
      obtain ⟨σ3, H3, I3, n3⟩ := q3
      obtain ⟨m', hm, w3⟩ := hN σ3 H3 n3
      exact ⟨m', hm, σ3, H3, I3, w3⟩
    | brk => exact q3
    | ret v => exact q3
  | false =>
    rw [if_neg Bool.false_ne_true]
    exact wpAny_execs_nil ⟨σ1, H2, I2, q2⟩
end
structure It where
  go : Nat → Hp → Prop
  yld : Nat → Hp → V → Hp → Prop
  stop : Nat → Hp → Prop
def FpOk (X : Cx) (pins : List (Addr × Obj)) (H : Hp) (b : Addr) : Prop :=
  H b = none ∧ b ≠ X.env.locals ∧ b ∉ X.fs ∧ (b ∈ X.ex ∨ X.s_0.heap.objs.size ≤ b) ∧ (∀ x c, X.env.cells.lookup x = some c → c ≠ b) ∧ ∀ p ∈ X.pn ++ pins, p.1 ≠ b
theorem Inv.fpOk {X : Cx} {pins : List (Addr × Obj)} {σ : St} {H H' : Hp} {s : Shared} {b : Addr} (I : Inv X pins σ H s) (hb : s.heap.objs.size ≤ b) (hn : H' b = none) : FpOk X pins H' b := by
  refine ⟨hn, Nat.ne_of_gt (Nat.lt_of_lt_of_le I.lt hb), I.nofs hb, .inr (Nat.le_trans I.sz hb), fun x c e z => ?_, fun p hp z => ?_⟩
  · obtain ⟨v, q⟩ := I.cell x c e
    exact absurd (Nat.lt_of_lt_of_le q.lt (by rw [z]; exact hb)) (Nat.lt_irrefl _)
  · exact absurd (Nat.lt_of_lt_of_le (Heap.lt_size (I.pin p hp).1) (by rw [z]; exact hb)) (Nat.lt_irrefl _)
structure Turn (P : Program) (w : World) (K : PySem.W.Frag) (tg : Expr) (J : It) (fp : List Addr) (it : Addr) (tn : Nat → Heap → Prop) : Prop where
  mem : it ∈ fp
  obj : ∀ i h, tn i h → ∀ b ∈ fp, ∃ o, h.get? b = some o ∧ ∀ v, o.data ≠ .cell v
  keep : ∀ i h h', tn i h → (∀ b ∈ fp, ∀ o, h.get? b = some o → h'.get? b = some o) → tn i h'
  item : ∀ (X : Cx), X.prog = P → X.w = w → X.K = K → X.calm = true → ∀ (i : Nat) (pins : List (Addr × Obj)) (s : Shared) (σ : St) (H : Hp) (E : Value → Shared → Prop), Inv X pins σ H s → (∀ b ∈ fp, FpOk X pins H b) → tn i s.heap → J.go i H →
    wpAny (model P w) X.A (pyNext (.ref it)) (fun r s1 => ∃ u, r = some u ∧
      wpAny (model P w) X.A (letOwnedTupleGo tg (.ref it) u) (fun _ s2 => ∃ x H', Inv X pins σ H' s2 ∧ RelV x u ∧ J.yld i H x H' ∧ tn (i + 1) s2.heap ∧ ∀ b ∈ fp, H' b = none) E s1) E s
  done : ∀ (X : Cx), X.prog = P → X.w = w → X.K = K → X.calm = true → ∀ (i : Nat) (pins : List (Addr × Obj)) (s : Shared) (σ : St) (H : Hp) (E : Value → Shared → Prop), Inv X pins σ H s → (∀ b ∈ fp, FpOk X pins H b) → tn i s.heap → J.stop i H →
    wpAny (model P w) X.A (pyNext (.ref it)) (fun r s1 => r = none ∧ Inv X pins σ H s1) E s
  self : ∀ (A : Around) (i : Nat) (s : Shared) (Q : Value → Shared → Prop) (E : Value → Shared → Prop), tn i s.heap → Q (.ref it) s → wpAny (model P w) A (pyIter (.ref it)) Q E s
abbrev TI := St → Hp → (It → Hp → Prop) → Prop
def PIE (X : Cx) (pins : List (Addr × Obj)) (σ : St) (tg : Expr) (R : It → Hp → Prop) (itv : Value) (s2 : Shared) : Prop :=
  ∃ (it : Addr) (fp : List Addr) (tn : Nat → Heap → Prop) (J : It) (H' : Hp), itv = .ref it ∧ Inv X pins σ H' s2 ∧ Turn X.prog X.w X.K tg J fp it tn ∧ tn 0 s2.heap ∧ (∀ b ∈ fp, FpOk X pins H' b) ∧ R J H'
def PI (X : Cx) (tg iter : Expr) (wi : TI) : Prop :=
  ∀ (pins : List (Addr × Obj)) (s : Shared) (σ : St) (H : Hp) (R : It → Hp → Prop), Inv X pins σ H s → wi σ H R →
    wpAny (model X.prog X.w) X.A (eval iter X.env) (fun v s1 => wpAny (model X.prog X.w) X.A (pyIter v) (PIE X pins σ tg R) X.xe s1) X.xe s
theorem go_of {M : Model} {A : Around} {E : Value → Shared → Prop} {s : Shared} {tg : Expr} {it : Addr} {u : Value} {o : Obj} {n : String} {vs : Array Value} {Q : Unit → Shared → Prop} (ho : s.heap.get? it = some o) (hc : o.cls = .type n) (hd : o.data = .fields vs)
    (hn : ["enumerate", "zip", "dict_itemiterator", "dict_reverseitemiterator", "odict_iterator", "itertools.zip_longest", "itertools.pairwise"].contains n = false) (hQ : Q () s) : wpAny M A (letOwnedTupleGo tg (.ref it) u) Q E s := by
  unfold letOwnedTupleGo
  cases tg <;> first
    | exact wpAny_pure hQ
    | (cases u <;> first
        | exact wpAny_pure hQ
        | (refine wpAny_bind (wpAny_load ho ?_)
           rw [hc, hd]
           show wpAny M A (if (["enumerate", "zip", "dict_itemiterator", "dict_reverseitemiterator", "odict_iterator", "itertools.zip_longest", "itertools.pairwise"].contains n && vs[0]? == some (rawInt _)) = true then _ else _) Q E s
           rw [if_neg (by intro h; rw [hn, Bool.false_and] at h; cases h)]
           exact wpAny_pure hQ))
def Itl (K : PySem.W.Frag) (a : Addr) : It :=
  ⟨fun i H => ∃ xs x, SqL K H a xs ∧ xs[i]? = some x, fun i H x H' => H' = H ∧ ∀ xs, SqL K H a xs → xs[i]? = some x, fun i H => ∃ xs, SqL K H a xs ∧ xs.length ≤ i⟩
def Itt (K : PySem.W.Frag) (a : Addr) : It :=
  ⟨fun i H => ∃ xs x, SqT K H a xs ∧ xs[i]? = some x, fun i H x H' => H' = H ∧ ∀ xs, SqT K H a xs → xs[i]? = some x, fun i H => ∃ xs, SqT K H a xs ∧ xs.length ≤ i⟩
def Itr (lo : Int) (n : Nat) : It := ⟨fun i _ => i < n, fun i H x H' => H' = H ∧ x = .int (lo + i), fun i _ => n ≤ i⟩
theorem turn_list {P : Program} {w : World} {K : PySem.W.Frag} {tg : Expr} (a it : Addr) : Turn P w K tg (Itl K a) [it] it (fun i h => h.IsListIter it a i) where
  mem := by simp
  obj := fun i h st b hb => by
    have e : b = it := by simpa using hb
    subst e
    obtain ⟨o, e, c, d⟩ := st
    exact ⟨o, e, fun v z => by rw [d] at z; cases z⟩
  keep := fun i h h' st k => st.at fun o e => k it (by simp) o e
  item := by
    intro X hP hw hK hc i pins s σ H E I hf st hg
    subst hP hw hK
    obtain ⟨xs, x, hq, hx⟩ := hg
    obtain ⟨its, rv, p, hz⟩ := I.list hq
    obtain ⟨u, hu, ru⟩ := rv.get hx
    obtain ⟨f0, f1, f2, f3, f4, f5⟩ := hf it (by simp)
    refine wpAny_pyNext_list_item st p.isList (x := u) (by simpa using hu) fun h' st' sb => ?_
    have I1 : Inv X pins σ H { s with heap := h' } := I.turned (t' := s.toks) (fun b o hb e => (sb.2 b hb).trans e) f0 f1 f3 f4 f5
    obtain ⟨o, e, c, d⟩ := id st'
    exact ⟨u, rfl, go_of (s := { s with heap := h' }) e c d (by decide) ⟨x, H, I1, ru, ⟨rfl, fun ys hy => by rw [I.list_inj hy hq]; exact hx⟩, st', fun b hb => (hf b hb).1⟩⟩
  done := by
    intro X hP hw hK hc i pins s σ H E I hf st hg
    subst hP hw hK
    obtain ⟨xs, hq, hx⟩ := hg
    obtain ⟨its, rv, p, hz⟩ := I.list hq
    obtain ⟨f0, f1, f2, f3, f4, f5⟩ := hf it (by simp)
    have hl := rv.length
    exact wpAny_pyNext_list_end (I.ok.hd hc) st p.isList (by simp; omega) fun h' eb => ⟨rfl, I.turned (t' := s.toks) (fun b o hb e => eb b o hb e) f0 f1 f3 f4 f5⟩
  self := fun _ _ _ _ _ st h => wpAny_pyIter_listiter st h
theorem turn_range {P : Program} {w : World} {K : PySem.W.Frag} {tg : Expr} (it : Addr) (lo : Int) (n : Nat) : Turn P w K tg (Itr lo n) [it] it (fun i h => IsRangeIter h it (lo + (i : Nat) * 1) ((n : Int) - (i : Nat)) 1) where
  mem := by simp
  obj := fun i h st b hb => by
    have e : b = it := by simpa using hb
    subst e
    exact ⟨_, st, fun v z => by
      have z' : Data.fields _ = Data.cell v := z
      cases z'⟩
  keep := fun i h h' st k => k it (by simp) _ st
  item := by
    intro X hP hw hK hc i pins s σ H E I hf st hg
    subst hP hw hK
    obtain ⟨f0, f1, f2, f3, f4, f5⟩ := hf it (by simp)
    have W := Walks.range (prog := X.prog) (w := X.w) (I.ok.hd hc) it lo 1 n
    refine W.item i s _ _ hg st fun v h' tk hv st' kk => ?_
    obtain ⟨t, rfl⟩ := hv
    have I1 : Inv X pins σ H { s with heap := h', toks := tk } := I.turned (fun b o hb e => kk b o (by simpa using hb) e) f0 f1 f3 f4 f5
    refine ⟨_, rfl, go_of (s := { s with heap := h', toks := tk }) (n := "range_iterator") st' rfl rfl (by decide) ⟨.int (lo + i), H, I1, ⟨t, ?_⟩, ⟨rfl, rfl⟩, st', fun b hb => (hf b hb).1⟩⟩
    rw [Int.mul_one]
  done := by
    intro X hP hw hK hc i pins s σ H E I hf st hg
    subst hP hw hK
    obtain ⟨f0, f1, f2, f3, f4, f5⟩ := hf it (by simp)
    exact wpAny_pyNext_range_end (I.ok.hd hc) st (by have : n ≤ i := hg; omega) fun h' eb => ⟨rfl, I.turned (t' := s.toks) (fun b o hb e => eb b o hb e) f0 f1 f3 f4 f5⟩
  self := fun _ _ _ _ _ st h => wpAny_pyIter_rangeiter st h
end L2
namespace L2
open PySem PySem.Spec PyProof.Rows
section
variable {X : Cx} {tg : Expr}
def iList (K : PySem.W.Frag) (tl : TE) : TI := fun σ H R => tl σ H fun x H1 => ∃ a, x = .ref a ∧ (∃ xs, SqL K H1 a xs) ∧ R (Itl K a) H1
def iTup (K : PySem.W.Frag) (tl : TE) : TI := fun σ H R => tl σ H fun x H1 => ∃ a, x = .ref a ∧ (∃ xs, SqT K H1 a xs) ∧ R (Itt K a) H1
theorem pi_list {l : Expr} {tl : TE} (hl : PE X l tl) : PI X tg l (iList X.K tl) := by
  intro pins s σ H R I h
  refine thn (hl pins s σ H _ I h) fun v s1 ⟨x, H1, I1, r1, q1⟩ => ?_
  obtain ⟨a, e, ⟨xs, hq⟩, q⟩ := q1
  subst e
  cases r1
  obtain ⟨its, rv, p, hz⟩ := I1.list hq
  refine wpAny_pyIter_list p.isList ?_
  refine ⟨s1.heap.objs.size, [s1.heap.objs.size], _, _, H1, rfl, I1.kept (t' := s1.toks) fun b o e => Heap.get?_push_of_some _ e, turn_list a _, ⟨_, Heap.get?_push_size _ rfl, rfl, rfl⟩, fun b hb => ?_, q⟩
  have e : b = s1.heap.objs.size := by simpa using hb
  subst e
  exact I1.fpOk (Nat.le_refl _) (I1.hok.fresh (Nat.le_refl _))
theorem range_it {pins : List (Addr × Obj)} {σ : St} {H : Hp} {s : Shared} {R : It → Hp → Prop} {E : Value → Shared → Prop} {lo hi : Int} {t u v : Tok} {tk : Nat} (I : Inv X pins σ H s) (h1 : -(2 ^ 62) ≤ lo) (h2 : lo < 2 ^ 62) (h3 : -(2 ^ 62) ≤ hi) (h4 : hi < 2 ^ 62)
    (q : R (Itr lo (hi - lo).toNat) H) : wpAny (model X.prog X.w) X.A (pyIter (.ref s.heap.objs.size)) (PIE X pins σ tg R) E { s with heap := s.heap.push { cls := .type "range", data := .fields #[.int lo t, .int hi u, .int 1 v] }, toks := tk } := by
  refine wpAny_pyIter_range (IsRange.new ..) (small_one h1 h2 h3 h4) ?_
  have I1 : Inv X pins σ H { s with heap := s.heap.push { cls := .type "range", data := .fields #[.int lo t, .int hi u, .int 1 v] }, toks := tk } := I.kept fun b o e => Heap.get?_push_of_some _ e
  refine ⟨(s.heap.push { cls := .type "range", data := .fields #[.int lo t, .int hi u, .int 1 v] }).objs.size, [(s.heap.push { cls := .type "range", data := .fields #[.int lo t, .int hi u, .int 1 v] }).objs.size], _, _, H, rfl,
    I1.kept (t' := tk) fun b o e => Heap.get?_push_of_some _ e, turn_range _ lo (hi - lo).toNat, ?_, fun b hb => ?_, q⟩
  · have e1 : lo + ((0 : Nat) : Int) * 1 = lo := by simp
    have e2 : (((hi - lo).toNat : Nat) : Int) - ((0 : Nat) : Int) = Builtin.Range.rangeSize lo hi 1 := by rw [rangeSize_one]; split <;> omega
    show IsRangeIter _ _ (lo + ((0 : Nat) : Int) * 1) ((((hi - lo).toNat : Nat) : Int) - ((0 : Nat) : Int)) 1
    rw [e1, e2]
    exact Heap.get?_push_size _ rfl
  · have e : b = (s.heap.push { cls := .type "range", data := .fields #[.int lo t, .int hi u, .int 1 v] }).objs.size := by simpa using hb
    subst e
    exact I1.fpOk (Nat.le_refl _) (I1.hok.fresh (Nat.le_refl _))
def iRng1 (ta : TA) : TI := fun σ H R => ta σ H fun vs H1 => ∃ j : Int, vs = [.int j] ∧ -(2 ^ 62) ≤ j ∧ j < 2 ^ 62 ∧ R (Itr 0 j.toNat) H1
def iRng2 (ta : TA) : TI := fun σ H R => ta σ H fun vs H1 => ∃ i j : Int, vs = [.int i, .int j] ∧ (-(2 ^ 62) ≤ i ∧ i < 2 ^ 62 ∧ -(2 ^ 62) ≤ j ∧ j < 2 ^ 62) ∧ R (Itr i (j - i).toNat) H1
theorem pi_range1 {a : Expr} {ta : TA} {p pos : Pos} (hg : Gl X "range") (hm : X.mg "range" = none) (ha : PA X [a] ta) (hs : starEach [a] X.env = [(false, eval a X.env)] := by rfl) : PI X tg (.Call (.Name "range" p) [a] [] pos) (iRng1 ta) := by
  intro pins s σ H R I h
  refine Call_ (ld_blt I hg hm boot_range (PyProof.Rows.callWith_type1 (thn (ha pos pins s σ H _ I h) fun us s1 ⟨vs, H1, I1, r1, q1⟩ => ?_) hs rfl))
  obtain ⟨j, e, q1, q2, q⟩ := q1
  subst e
  cases r1 with
  | cons r rr =>
    cases rr
    obtain ⟨t, rfl⟩ := r
    exact call_range_1 (range_it I1 (by omega) (by omega) q1 q2 (by simpa using q))
theorem pi_range2 {a b : Expr} {ta : TA} {p pos : Pos} (hg : Gl X "range") (hm : X.mg "range" = none) (ha : PA X [a, b] ta) (hs : starEach [a, b] X.env = [(false, eval a X.env), (false, eval b X.env)] := by rfl) (hs2 : starEach [b] X.env = [(false, eval b X.env)] := by rfl) :
    PI X tg (.Call (.Name "range" p) [a, b] [] pos) (iRng2 ta) := by
  intro pins s σ H R I h
  refine Call_ (ld_blt I hg hm boot_range (PyProof.Rows.callWith_type1 (thn (ha pos pins s σ H _ I h) fun us s1 ⟨vs, H1, I1, r1, q1⟩ => ?_) (by rw [hs, hs2]) (by rw [hs2]; rfl)))
  obtain ⟨i, j, e, ⟨q1, q2, q3, q4⟩, q⟩ := q1
  subst e
  cases r1 with
  | cons r rr =>
    cases rr with
    | cons r' rr =>
      cases rr
      obtain ⟨t, rfl⟩ := r
      obtain ⟨t', rfl⟩ := r'
      exact call_range_2 (range_it I1 q1 q2 q3 q4 q)
def tFor (wi : TI) (g : TG) (tb : TS) : TS := fun D σ H => wi σ H fun J H1 => ∃ W : Nat → Nat → St → Hp → Prop, (∃ m, W 0 m σ H1) ∧ ∀ i m σ H, W i m σ H →
  (J.stop i H ∧ D.nx σ H) ∨ (J.go i H ∧ ∃ N : St → Hp → Prop, (∀ σ' H', N σ' H' → ∃ m', m' < m ∧ W (i + 1) m' σ' H') ∧ ∀ x H', J.yld i H x H' → g x σ H' fun σ2 H2 => tb { D with nx := N, ct := N, bk := D.nx } σ2 H2)
def pinsAt (fp : List Addr) (h : Heap) : List (Addr × Obj) := fp.filterMap fun b => (h.get? b).map fun o => (b, o)
theorem mem_pinsAt {fp : List Addr} {h : Heap} {b : Addr} {o : Obj} (hb : b ∈ fp) (e : h.get? b = some o) : (b, o) ∈ pinsAt fp h := List.mem_filterMap.mpr ⟨b, hb, by rw [e]; rfl⟩
theorem of_pinsAt {fp : List Addr} {h : Heap} {p : Addr × Obj} (hp : p ∈ pinsAt fp h) : p.1 ∈ fp ∧ h.get? p.1 = some p.2 := by
  obtain ⟨b, hb, e⟩ := List.mem_filterMap.mp hp
  cases q : h.get? b with
  | none => rw [q] at e; cases e
  | some o =>
    rw [q] at e
    have e' : (b, o) = p := Option.some.inj e
    subst e'
    exact ⟨hb, q⟩
theorem Inv.pinned {pins : List (Addr × Obj)} {σ : St} {H : Hp} {s : Shared} {fp : List Addr} (I : Inv X pins σ H s) (hf : ∀ b ∈ fp, FpOk X pins H b) (ho : ∀ b ∈ fp, ∃ o, s.heap.get? b = some o ∧ ∀ v, o.data ≠ .cell v) : Inv X (pins ++ pinsAt fp s.heap) σ H s :=
  I.pins_of fun p hp => (List.mem_append.mp hp).elim (fun z => I.pin p (List.mem_append_right _ z)) fun z => by
    obtain ⟨hb, e⟩ := of_pinsAt z
    obtain ⟨f0, f1, f2, _⟩ := hf p.1 hb
    obtain ⟨o, e', d⟩ := ho p.1 hb
    rw [e] at e'; cases e'
    exact ⟨e, f0, f1, f2, d⟩
theorem Inv.unpinned {pins pl : List (Addr × Obj)} {σ : St} {H : Hp} {s : Shared} (I : Inv X (pins ++ pl) σ H s) : Inv X pins σ H s := I.pins_of fun p hp => I.pin p (List.mem_append_right _ (List.mem_append_left _ hp))
theorem ps_for {iter : Expr} {body : List Stmt} {wi : TI} {g : TG} {tb : TS} {pos : Pos} (hp : PassesOwn (model X.prog X.w) X.A X.env X.xe) (hc : X.calm = true) (hi : PI X tg iter wi) (hg : PG X tg g) (hb : PSs X body tb)
    (hs : ∀ x, foldedSetIterable iter X.env x = pure x := by intro _; rfl) : PS X (.For tg iter body [] pos) (tFor wi g tb) := by
  intro pins s σ H D I h
  refine wpAny_For (thn (hi pins s σ H _ I h) fun v s1 h1 => thn h1 fun itv s2 h2 => ?_) hs
  obtain ⟨it, fp, tn, J, H2, e, I2, T, st2, f2, W, ⟨m0, w0⟩, turn⟩ := h2
  subst e
  -- what stays true of the iterator's objects through the loop
  have stat : ∀ {H' : Hp}, (∀ b ∈ fp, H' b = none) → ∀ b ∈ fp, FpOk X pins H' b := fun hn b hb => ⟨hn b hb, (f2 b hb).2⟩
  refine codeAny_forLoop_any (fun n s' => ∃ i σ' H', Inv X pins σ' H' s' ∧ tn i s'.heap ∧ (∀ b ∈ fp, H' b = none) ∧ W i n σ' H') ?_ m0 ⟨0, σ, H2, I2, st2, fun b hb => (f2 b hb).1, w0⟩
  rintro n s3 ⟨i, σ3, H3, I3, st3, fr3, w3⟩
  rcases turn i n σ3 H3 w3 with ⟨stop, qn⟩ | ⟨go, N, hN, step⟩
  · refine wpAny_passesOwn hp (thn (T.done X rfl rfl rfl hc i pins s3 σ3 H3 X.xe I3 (stat fr3) st3 stop) fun r s4 ⟨hr, I4⟩ => ?_)
    subst hr
    exact wpAny_execs_nil ⟨σ3, H3, I4, qn⟩
  · refine wpAny_passesOwn hp (thn (T.item X rfl rfl rfl hc i pins s3 σ3 H3 X.xe I3 (stat fr3) st3 go) fun r s4 ⟨u, hr, h4⟩ => ?_)
    subst hr
    refine wpAny_passesOwn hp (thn h4 fun _ s5 ⟨x, H5, I5, r5, y5, st5, fr5⟩ => ?_)
    have I5' := I5.pinned (stat fr5) (T.obj _ _ st5)
    refine wpAny_passesOwn hp (thn (hg _ s5 σ3 H5 x u _ I5' r5 (step x H5 y5)) fun _ s6 ⟨σ6, H6, I6, q6⟩ => ?_)
    refine wpAny_passesOwn hp (thn (hb _ s6 σ6 H6 _ I6 q6) fun f s7 q7 => ?_)
    have again : ∀ {σ7 : St} {H7 : Hp}, Inv X (pins ++ pinsAt fp s5.heap) σ7 H7 s7 → N σ7 H7 → ∃ m, m < n ∧ ∃ i σ' H', Inv X pins σ' H' s7 ∧ tn i s7.heap ∧ (∀ b ∈ fp, H' b = none) ∧ W i m σ' H' := fun {σ7 H7} I7 n7 => by
      obtain ⟨m', hm, w7⟩ := hN σ7 H7 n7
      refine ⟨m', hm, i + 1, σ7, H7, I7.unpinned, T.keep _ _ _ st5 fun b hb o e => (I7.pin (b, o) (List.mem_append_right _ (List.mem_append_right _ (mem_pinsAt hb e)))).1, fun b hb => ?_, w7⟩
      obtain ⟨o, e, d⟩ := T.obj _ _ st5 b hb
      exact (I7.pin (b, o) (List.mem_append_right _ (List.mem_append_right _ (mem_pinsAt hb e)))).2.1
    cases f with
    | next => obtain ⟨σ7, H7, I7, n7⟩ := q7; exact again I7 n7
    | cont => obtain ⟨σ7, H7, I7, n7⟩ := q7; exact again I7 n7
    | brk => obtain ⟨σ7, H7, I7, q7⟩ := q7; exact ⟨σ7, H7, I7.unpinned, q7⟩
    | ret v => obtain ⟨x7, σ7, H7, I7, r7, q7⟩ := q7; exact ⟨x7, σ7, H7, I7.unpinned, r7, q7⟩
end
theorem for_list {K : PySem.W.Frag} {a : Addr} {xs : List V} {g : TG} {tb : TS} {D : Ends} {σ : St} {H : Hp} (Pv : Nat → St → Hp → Prop) (h0 : Pv 0 σ H) (hl : ∀ i σ H, i ≤ xs.length → Pv i σ H → SqL K H a xs)
    (hs : ∀ i x σ H, xs[i]? = some x → Pv i σ H → g x σ H fun σ2 H2 => tb { D with nx := Pv (i + 1), ct := Pv (i + 1), bk := D.nx } σ2 H2) (hd : ∀ σ H, Pv xs.length σ H → D.nx σ H) :
    ∃ W : Nat → Nat → St → Hp → Prop, (∃ m, W 0 m σ H) ∧ ∀ i m σ H, W i m σ H →
      ((Itl K a).stop i H ∧ D.nx σ H) ∨ ((Itl K a).go i H ∧ ∃ N : St → Hp → Prop, (∀ σ' H', N σ' H' → ∃ m', m' < m ∧ W (i + 1) m' σ' H') ∧ ∀ x H', (Itl K a).yld i H x H' → g x σ H' fun σ2 H2 => tb { D with nx := N, ct := N, bk := D.nx } σ2 H2) := by
  refine ⟨fun i m σ H => m = xs.length - i ∧ i ≤ xs.length ∧ Pv i σ H, ⟨xs.length, by simp, Nat.zero_le _, h0⟩, ?_⟩
  rintro i m σ H ⟨rfl, hi, p⟩
  have q := hl i σ H hi p
  by_cases hlt : i < xs.length
  · refine .inr ⟨⟨xs, xs[i], q, by simp [hlt]⟩, Pv (i + 1), fun σ' H' p' => ⟨xs.length - (i + 1), by omega, rfl, hlt, p'⟩, fun x H' y => ?_⟩
    obtain ⟨e, y⟩ := y
    subst e
    exact hs i x σ _ (y xs q) p
  · have e : i = xs.length := by omega
    subst e
    exact .inl ⟨⟨xs, q, Nat.le_refl _⟩, hd σ H p⟩
theorem for_range {lo : Int} {n : Nat} {g : TG} {tb : TS} {D : Ends} {σ : St} {H : Hp} (Pv : Nat → St → Hp → Prop) (h0 : Pv 0 σ H)
    (hs : ∀ i σ H, i < n → Pv i σ H → g (.int (lo + i)) σ H fun σ2 H2 => tb { D with nx := Pv (i + 1), ct := Pv (i + 1), bk := D.nx } σ2 H2) (hd : ∀ σ H, Pv n σ H → D.nx σ H) :
    ∃ W : Nat → Nat → St → Hp → Prop, (∃ m, W 0 m σ H) ∧ ∀ i m σ H, W i m σ H →
      ((Itr lo n).stop i H ∧ D.nx σ H) ∨ ((Itr lo n).go i H ∧ ∃ N : St → Hp → Prop, (∀ σ' H', N σ' H' → ∃ m', m' < m ∧ W (i + 1) m' σ' H') ∧ ∀ x H', (Itr lo n).yld i H x H' → g x σ H' fun σ2 H2 => tb { D with nx := N, ct := N, bk := D.nx } σ2 H2) := by
  refine ⟨fun i m σ H => m = n - i ∧ i ≤ n ∧ Pv i σ H, ⟨n, by simp, Nat.zero_le _, h0⟩, ?_⟩
  rintro i m σ H ⟨rfl, hi, p⟩
  by_cases hlt : i < n
  · refine .inr ⟨hlt, Pv (i + 1), fun σ' H' p' => ⟨n - (i + 1), by omega, rfl, hlt, p'⟩, fun x H' y => ?_⟩
    obtain ⟨e, y⟩ := y
    subst e y
    exact hs i σ _ hlt p
  · have e : i = n := by omega
    subst e
    exact .inl ⟨Nat.le_refl _, hd σ H p⟩
theorem while_by {c : TT} {tb : TS} {D : Ends} {σ : St} {H : Hp} (Pv : St → Hp → Prop) (μ : St → Hp → Nat) (h0 : Pv σ H)
    (hs : ∀ σ H, Pv σ H → c σ H fun b H1 => if b = true then tb { D with nx := fun σ' H' => Pv σ' H' ∧ μ σ' H' < μ σ H, ct := fun σ' H' => Pv σ' H' ∧ μ σ' H' < μ σ H, bk := D.nx } σ H1 else D.nx σ H1)
    (mono : ∀ σ H Q Q', (∀ b H1, Q b H1 → Q' b H1) → c σ H Q → c σ H Q') : tWhile c tb D σ H := by
  refine ⟨fun m σ H => m = μ σ H ∧ Pv σ H, ⟨_, rfl, h0⟩, ?_⟩
  rintro m σ H ⟨rfl, p⟩
  refine mono σ H _ _ (fun b H1 q => ?_) (hs σ H p)
  cases b with
  | true => exact ⟨_, fun σ' H' ⟨p', l⟩ => ⟨_, l, rfl, p'⟩, q⟩
  | false => exact q
end L2
namespace L2
open PySem PySem.Spec PyProof.Rows
abbrev R2 := V → V → Hp → VK → Prop
def OpR (X : Cx) (f : Value → Value → Sem Value) (r : R2) : Prop :=
  ∀ (pins : List (Addr × Obj)) (s : Shared) (σ : St) (H : Hp) (x y : V) (v u : Value) (Q : VK), Inv X pins σ H s → RelV x v → RelV y u → r x y H Q →
    wpAny (model X.prog X.w) X.A (f v u) (EP X pins σ Q) X.xe s
def UnR (X : Cx) (f : Value → Sem Value) (r : V → Hp → VK → Prop) : Prop :=
  ∀ (pins : List (Addr × Obj)) (s : Shared) (σ : St) (H : Hp) (x : V) (v : Value) (Q : VK), Inv X pins σ H s → RelV x v → r x H Q →
    wpAny (model X.prog X.w) X.A (f v) (EP X pins σ Q) X.xe s
def CallR (X : Cx) (f : Value) (r : List V → Hp → VK → Prop) : Prop :=
  ∀ (pins : List (Addr × Obj)) (s : Shared) (σ : St) (H : Hp) (xs : List V) (us : List Value) (Q : VK), Inv X pins σ H s → Vals xs us → r xs H Q →
    wpAny (model X.prog X.w) X.A (call f us) (EP X pins σ Q) X.xe s
def TruR (X : Cx) (r : V → Hp → (Bool → Hp → Prop) → Prop) : Prop :=
  ∀ (pins : List (Addr × Obj)) (s : Shared) (σ : St) (H : Hp) (x : V) (v : Value) (Q : Bool → Hp → Prop), Inv X pins σ H s → RelV x v → r x H Q →
    wpAny (model X.prog X.w) X.A (truthy v) (TP X pins σ Q) X.xe s
def tOp (r : R2) (ta tb : TE) : TE := fun σ H Q => ta σ H fun x H1 => tb σ H1 fun y H2 => r x y H2 Q
def tUn (r : V → Hp → VK → Prop) (ta : TE) : TE := fun σ H Q => ta σ H fun x H1 => r x H1 Q
def rI (C : Int → Int → Prop) (g : Int → Int → V) : R2 := fun x y H Q => ∃ i j, x = .int i ∧ y = .int j ∧ C i j ∧ Q (g i j) H
def rI0 (g : Int → Int → V) : R2 := fun x y H Q => ∃ i j, x = .int i ∧ y = .int j ∧ Q (g i j) H
def rU (g : Int → V) : V → Hp → VK → Prop := fun x H Q => ∃ i, x = .int i ∧ Q (g i) H
section
variable {X : Cx} {a b c : Expr} {ta tb tc : TE} {pos : Pos}
theorem binT (ha : PE X a ta) (hb : PE X b tb) {pins : List (Addr × Obj)} {s : Shared} {σ : St} {H : Hp} {R : V → V → Hp → Prop} (I : Inv X pins σ H s)
    (h : ta σ H fun x H1 => tb σ H1 fun y H2 => R x y H2) {Q : Value → Shared → Prop} {f : Value → Value → Sem Value}
    (hf : ∀ v u s2 x y H2, Inv X pins σ H2 s2 → RelV x v → RelV y u → R x y H2 → wpAny (model X.prog X.w) X.A (f v u) Q X.xe s2) :
    wpAny (model X.prog X.w) X.A (eval a X.env) (fun v s₁ => wpAny (model X.prog X.w) X.A (eval b X.env) (fun u s₂ => wpAny (model X.prog X.w) X.A (f v u) Q X.xe s₂) X.xe s₁) X.xe s := by
  refine thn (ha pins s σ H _ I h) fun v s1 ⟨x, H1, I1, r1, q1⟩ => ?_
  refine thn (hb pins s1 σ H1 _ I1 q1) fun u s2 ⟨y, H2, I2, r2, q2⟩ => ?_
  exact hf v u s2 x y H2 I2 r1 r2 q2
theorem pe_op {op : Operator} {r : R2} (ho : OpR X (binaryOp op) r) (ha : PE X a ta) (hb : PE X b tb) : PE X (.BinOp a op b pos) (tOp r ta tb) := by
  intro pins s σ H Q I h
  exact wpAny_BinOp (binT ha hb I h fun v u s2 x y H2 I2 rx ry q => ho pins s2 σ H2 x y v u Q I2 rx ry q)
theorem pe_un {op : UnaryOp} {r : V → Hp → VK → Prop} (ho : UnR X (unaryOp op) r) (ha : PE X a ta) : PE X (.UnaryOp op a pos) (tUn r ta) := by
  intro pins s σ H Q I h
  exact UnaryOp_ (thn (ha pins s σ H _ I h) fun v s1 ⟨x, H1, I1, r1, q1⟩ => ho pins s1 σ H1 x v Q I1 r1 q1)
theorem opI {f : Value → Value → Sem Value} {C : Int → Int → Prop} {g : Int → Int → Int}
    (rule : ∀ (i j : Int) (t u : Tok) (s : Shared) (Q : Value → Shared → Prop) (E : Value → Shared → Prop), C i j → Q (.int (g i j) s.toks) { s with toks := s.toks + 1 } → wpAny (model X.prog X.w) X.A (f (.int i t) (.int j u)) Q E s) :
    OpR X f (rI C fun i j => .int (g i j)) := by
  intro pins s σ H x y v u Q I rx ry h
  obtain ⟨i, j, rfl, rfl, hc, q⟩ := h
  obtain ⟨t, rfl⟩ := rx
  obtain ⟨t', rfl⟩ := ry
  exact rule i j t t' s _ _ hc ⟨.int (g i j), H, I.tok _, ⟨_, rfl⟩, q⟩
theorem opI0 {f : Value → Value → Sem Value} {g : Int → Int → Int}
    (rule : ∀ (i j : Int) (t u : Tok) (s : Shared) (Q : Value → Shared → Prop) (E : Value → Shared → Prop), Q (.int (g i j) s.toks) { s with toks := s.toks + 1 } → wpAny (model X.prog X.w) X.A (f (.int i t) (.int j u)) Q E s) :
    OpR X f (rI0 fun i j => .int (g i j)) := by
  intro pins s σ H x y v u Q I rx ry h
  obtain ⟨i, j, rfl, rfl, q⟩ := h
  obtain ⟨t, rfl⟩ := rx
  obtain ⟨t', rfl⟩ := ry
  exact rule i j t t' s _ _ ⟨.int (g i j), H, I.tok _, ⟨_, rfl⟩, q⟩
theorem opB0 {f : Value → Value → Sem Value} {g : Int → Int → Bool}
    (rule : ∀ (i j : Int) (t u : Tok) (s : Shared) (Q : Value → Shared → Prop) (E : Value → Shared → Prop), Q (.bool (g i j)) s → wpAny (model X.prog X.w) X.A (f (.int i t) (.int j u)) Q E s) :
    OpR X f (rI0 fun i j => .bl (g i j)) := by
  intro pins s σ H x y v u Q I rx ry h
  obtain ⟨i, j, rfl, rfl, q⟩ := h
  obtain ⟨t, rfl⟩ := rx
  obtain ⟨t', rfl⟩ := ry
  exact rule i j t t' s _ _ ⟨.bl (g i j), H, I, rfl, q⟩
def CDiv (i j : Int) : Prop := 0 < j ∧ j < 1073741824
def CDivN (i j : Int) : Prop := j ≠ 0 ∧ j.natAbs < 1073741824
def CPow (i j : Int) : Prop := 0 ≤ j ∧ j ≤ 1000000 ∧ i.natAbs < 2 ^ 64
def CMul (i j : Int) : Prop := (-(2 ^ 64) < i ∧ i < 2 ^ 64) ∨ (-(2 ^ 64) < j ∧ j < 2 ^ 64)
theorem CMul.ok {i j : Int} (h : CMul i j) : IntMulOk i j := by
  rcases h with ⟨h1, h2⟩ | ⟨h1, h2⟩
  · exact .of_left (intBits_le_64 h1 h2)
  · exact .of_right (intBits_le_64 h1 h2)
theorem two_pow_nn (k : Nat) : (0 : Int) ≤ 2 ^ k := by
  rw [two_pow_cast]
  exact Int.natCast_nonneg _
theorem op_add : OpR X (binaryOp .Add) (rI0 fun i j => .int (i + j)) := opI0 fun _ _ _ _ _ _ _ q => add_int q
theorem op_sub : OpR X (binaryOp .Sub) (rI0 fun i j => .int (i - j)) := opI0 fun _ _ _ _ _ _ _ q => sub_int q
theorem op_mul : OpR X (binaryOp .Mult) (rI CMul fun i j => .int (i * j)) := opI fun _ _ _ _ _ _ _ hc q => mul_int q hc.ok
theorem op_fdiv : OpR X (binaryOp .FloorDiv) (rI CDiv fun i j => .int (i / j)) := opI fun i j _ _ _ _ _ hc q => by
  have h1 : (0 : Int) < j := hc.1
  have h2 : j < 1073741824 := hc.2
  exact floordiv_int (by omega) (by rw [Int.fdiv_eq_ediv_of_nonneg i (by omega)]; exact q) (.inl (PyProof.noPylong_small (by omega)))
theorem op_mod : OpR X (binaryOp .Mod) (rI (fun _ j => 0 < j) fun i j => .int (i % j)) := opI fun i j _ _ _ _ _ hc q => by
  have h1 : (0 : Int) < j := hc
  exact mod_int' (by omega) (by rw [Int.fmod_eq_emod_of_nonneg i (by omega)]; exact q)
theorem op_shl : OpR X (binaryOp .LShift) (rI CPow fun i j => .int (i * 2 ^ j.toNat)) := opI fun _ _ _ _ _ _ _ hc q => lshift_int_small hc.1 hc.2.1 hc.2.2 q
theorem op_shr : OpR X (binaryOp .RShift) (rI (fun _ j => 0 ≤ j) fun i j => .int (i / 2 ^ j.toNat)) := opI fun i j _ _ _ _ _ hc q =>
  rshift_int hc (by rw [Int.fdiv_eq_ediv_of_nonneg i (two_pow_nn _)]; exact q)
theorem op_and : OpR X (binaryOp .BitAnd) (rI0 fun i j => .int (Builtin.bitAnd i j)) := opI0 fun _ _ _ _ _ _ _ q => and_int q
theorem unI {f : Value → Sem Value} {g : Int → Int}
    (rule : ∀ (i : Int) (t : Tok) (s : Shared) (Q : Value → Shared → Prop) (E : Value → Shared → Prop), Q (.int (g i) s.toks) { s with toks := s.toks + 1 } → wpAny (model X.prog X.w) X.A (f (.int i t)) Q E s) :
    UnR X f (rU fun i => .int (g i)) := by
  intro pins s σ H x v Q I rx h
  obtain ⟨i, rfl, q⟩ := h
  obtain ⟨t, rfl⟩ := rx
  exact rule i t s _ _ ⟨.int (g i), H, I.tok _, ⟨_, rfl⟩, q⟩
theorem un_neg : UnR X (unaryOp .USub) (rU fun i => .int (-i)) := unI fun _ _ _ _ _ q => neg_int q
end
def scal : V → V → Bool
  | .non, .non => true | .non, .int _ => true | .int _, .non => true | .non, .bl _ => true | .bl _, .non => true | .non, .str _ => true | .str _, .non => true
  | .int _, .int _ => true | .bl _, .bl _ => true | .str _, .str _ => true | .byt _, .byt _ => true
  | .int _, .str _ => true | .str _, .int _ => true | .bl _, .str _ => true | .str _, .bl _ => true
  | _, _ => false
def rEq : R2 := fun x y H Q => scal x y = true ∧ Q (.bl (decide (x = y))) H
def rNe : R2 := fun x y H Q => scal x y = true ∧ Q (.bl (!decide (x = y))) H
theorem dec_int {i j : Int} : decide (V.int i = V.int j) = (i == j) := by
  rw [Bool.eq_iff_iff]
  simp
theorem dec_bl {i j : Bool} : decide (V.bl i = V.bl j) = (i == j) := by
  rw [Bool.eq_iff_iff]
  simp
theorem dec_str {i j : Str} : decide (V.str i = V.str j) = (i == j) := by
  rw [Bool.eq_iff_iff]
  simp
theorem dec_byt {i j : Array UInt8} : decide (V.byt i = V.byt j) = (i.toList == j.toList) := by
  rw [Bool.eq_iff_iff]
  cases i
  cases j
  simp
section
variable {X : Cx} {a b c : Expr} {ta tb tc : TE} {pos : Pos}
theorem fin_bl {pins : List (Addr × Obj)} {σ : St} {H : Hp} {s : Shared} {Q : VK} {k k' : Bool} (I : Inv X pins σ H s) (q : Q (.bl k) H) (e : k = k') : EP X pins σ Q (.bool k') s := by
  subst e
  exact ⟨.bl k, H, I, rfl, q⟩
theorem op_eq : OpR X (compareOp .Eq) rEq := by
  intro pins s σ H x y v u Q I rx ry h
  obtain ⟨hs, q⟩ := h
  cases x with
  | non =>
    cases rx
    cases y with
    | non => cases ry; exact PySem.EqNone.eq_none_none (fin_bl I q (by simp))
    | bl j => cases ry; exact PySem.EqNone.eq_none_bool (fin_bl I q (by simp))
    | int j => obtain ⟨t', rfl⟩ := ry; exact PySem.EqNone.eq_none_int (fin_bl I q (by simp))
    | str j => obtain ⟨t', rfl⟩ := ry; exact PySem.EqNone.eq_none_str (fin_bl I q (by simp))
    | _ => exact absurd (show false = true from hs) Bool.false_ne_true
  | bl i =>
    cases rx
    cases y with
    | non => cases ry; exact PySem.EqNone.eq_bool_none (fin_bl I q (by simp))
    | bl j => cases ry; exact eq_bool (fin_bl I q dec_bl)
    | str j => obtain ⟨t', rfl⟩ := ry; exact PySem.EqMixed.eq_bool_str (fin_bl I q (by simp))
    | _ => exact absurd (show false = true from hs) Bool.false_ne_true
  | int i =>
    obtain ⟨t, rfl⟩ := rx
    cases y with
    | non => cases ry; exact PySem.EqNone.eq_int_none (fin_bl I q (by simp))
    | int j => obtain ⟨t', rfl⟩ := ry; exact eq_int (fin_bl I q dec_int)
    | str j => obtain ⟨t', rfl⟩ := ry; exact PySem.EqMixed.eq_int_str (fin_bl I q (by simp))
    | _ => exact absurd (show false = true from hs) Bool.false_ne_true
  | str i =>
    obtain ⟨t, rfl⟩ := rx
    cases y with
    | non => cases ry; exact PySem.EqNone.eq_str_none (fin_bl I q (by simp))
    | bl j => cases ry; exact PySem.EqMixed.eq_str_bool (fin_bl I q (by simp))
    | int j => obtain ⟨t', rfl⟩ := ry; exact PySem.EqMixed.eq_str_int (fin_bl I q (by simp))
    | str j => obtain ⟨t', rfl⟩ := ry; exact eq_str (fin_bl I q dec_str)
    | _ => exact absurd (show false = true from hs) Bool.false_ne_true
  | byt i =>
    obtain ⟨t, rfl⟩ := rx
    cases y with
    | byt j => obtain ⟨t', rfl⟩ := ry; exact PySem.W.eq_bytes (fin_bl I q dec_byt)
    | _ => exact absurd (show false = true from hs) Bool.false_ne_true
  | _ => cases y <;> exact absurd (show false = true from hs) Bool.false_ne_true
theorem op_ne : OpR X (compareOp .NotEq) rNe := by
  intro pins s σ H x y v u Q I rx ry h
  obtain ⟨hs, q⟩ := h
  cases x with
  | non =>
    cases rx
    cases y with
    | non => cases ry; exact PySem.EqNone.ne_none_none (fin_bl I q (by simp))
    | bl j => cases ry; exact PySem.EqNone.ne_none_bool (fin_bl I q (by simp))
    | int j => obtain ⟨t', rfl⟩ := ry; exact PySem.EqNone.ne_none_int (fin_bl I q (by simp))
    | str j => obtain ⟨t', rfl⟩ := ry; exact PySem.EqNone.ne_none_str (fin_bl I q (by simp))
    | _ => exact absurd (show false = true from hs) Bool.false_ne_true
  | bl i =>
    cases rx
    cases y with
    | non => cases ry; exact PySem.EqNone.ne_bool_none (fin_bl I q (by simp))
    | bl j => cases ry; exact ne_bool (fin_bl I q (congrArg not dec_bl))
    | str j => obtain ⟨t', rfl⟩ := ry; exact PySem.EqMixed.ne_bool_str (fin_bl I q (by simp))
    | _ => exact absurd (show false = true from hs) Bool.false_ne_true
  | int i =>
    obtain ⟨t, rfl⟩ := rx
    cases y with
    | non => cases ry; exact PySem.EqNone.ne_int_none (fin_bl I q (by simp))
    | int j => obtain ⟨t', rfl⟩ := ry; exact ne_int (fin_bl I q (congrArg not dec_int))
    | str j => obtain ⟨t', rfl⟩ := ry; exact PySem.EqMixed.ne_int_str (fin_bl I q (by simp))
    | _ => exact absurd (show false = true from hs) Bool.false_ne_true
  | str i =>
    obtain ⟨t, rfl⟩ := rx
    cases y with
    | non => cases ry; exact PySem.EqNone.ne_str_none (fin_bl I q (by simp))
    | bl j => cases ry; exact PySem.EqMixed.ne_str_bool (fin_bl I q (by simp))
    | int j => obtain ⟨t', rfl⟩ := ry; exact PySem.EqMixed.ne_str_int (fin_bl I q (by simp))
    | str j => obtain ⟨t', rfl⟩ := ry; exact ne_str (fin_bl I q (congrArg not dec_str))
    | _ => exact absurd (show false = true from hs) Bool.false_ne_true
  | byt i =>
    obtain ⟨t, rfl⟩ := rx
    cases y with
    | byt j => obtain ⟨t', rfl⟩ := ry; exact PySem.W.ne_bytes (fin_bl I q (congrArg not dec_byt))
    | _ => exact absurd (show false = true from hs) Bool.false_ne_true
  | _ => cases y <;> exact absurd (show false = true from hs) Bool.false_ne_true
theorem op_lt : OpR X (compareOp .Lt) (rI0 fun i j => .bl (decide (i < j))) := opB0 fun _ _ _ _ _ _ _ q => lt_int q
theorem op_le : OpR X (compareOp .LtE) (rI0 fun i j => .bl (decide (i ≤ j))) := opB0 fun _ _ _ _ _ _ _ q => le_int q
theorem op_gt : OpR X (compareOp .Gt) (rI0 fun i j => .bl (decide (j < i))) := opB0 fun _ _ _ _ _ _ _ q => gt_int q
theorem op_ge : OpR X (compareOp .GtE) (rI0 fun i j => .bl (decide (j ≤ i))) := opB0 fun _ _ _ _ _ _ _ q => ge_int q
def isObj : HO → Bool
  | .lst _ => true
  | .ins _ _ _ => true
  | _ => false
theorem nomark (b : Expr) {op : CmpOp} (h : op ≠ .In := by decide) (h2 : op ≠ .NotIn := by decide) : behindInMarks op b = false := by
  have e1 : (op == CmpOp.In) = false := by cases op <;> first | rfl | exact absurd rfl h
  have e2 : (op == CmpOp.NotIn) = false := by cases op <;> first | rfl | exact absurd rfl h2
  cases b <;> simp [behindInMarks, e1, e2]
theorem pe_cmpR {op : CmpOp} {r : R2} (ho : OpR X (compareOp op) r) (ha : PE X a ta) (hb : PE X b tb) (hm : behindInMarks op b = false) : PE X (.Compare a [op] [b] pos) (tOp r ta tb) := by
  intro pins s σ H Q I h
  exact wpAny_Compare1 (binT ha hb I h fun v u s2 x y H2 I2 rx ry q => ho pins s2 σ H2 x y v u Q I2 rx ry q) hm
def tTest (t : TE) : TT := fun σ H Q => t σ H fun x H' => ∃ k, x = .bl k ∧ Q k H'
theorem pt_cmpR {op : CmpOp} {r : R2} (ho : OpR X (compareOp op) r) (ha : PE X a ta) (hb : PE X b tb) (hm : behindInMarks op b = false) : PT X (.Compare a [op] [b] pos) (tTest (tOp r ta tb)) := by
  intro pins s σ H Q I h
  refine wpAny_isTrue_Compare1 (thn (ha pins s σ H _ I h) fun v s1 ⟨x, H1, I1, r1, q1⟩ => thn (hb pins s1 σ H1 _ I1 q1) fun u s2 ⟨y, H2, I2, r2, q2⟩ =>
    thn (ho pins s2 σ H2 x y v u _ I2 r1 r2 q2) fun c s3 ⟨z, H3, I3, r3, k, e, q3⟩ => ?_) hm
  subst e
  cases r3
  exact wpAny_truthy_bool ⟨H3, I3, q3⟩
def tChain (r r' : R2) (ta tb tc : TE) : TE := fun σ H Q => ta σ H fun x H1 => tb σ H1 fun y H2 => r x y H2 fun z H3 => ∃ k, z = .bl k ∧
  (if k = true then tc σ H3 fun w' H4 => r' y w' H4 Q else Q (.bl false) H3)
theorem pe_chain {op op' : CmpOp} {r r' : R2} (ho : OpR X (compareOp op) r) (ho' : OpR X (compareOp op') r') (ha : PE X a ta) (hb : PE X b tb) (hc : PE X c tc)
    (hm : lastMarks [op, op'] [b, c] = false := by with_unfolding_all rfl) : PE X (.Compare a [op, op'] [b, c] pos) (tChain r r' ta tb tc) := by
  intro pins s σ H Q I h
  refine Compare_chain (thn (ha pins s σ H _ I h) fun v s1 ⟨x, H1, I1, r1, q1⟩ => chain_link (thn (hb pins s1 σ H1 _ I1 q1) fun u s2 ⟨y, H2, I2, r2, q2⟩ =>
    thn (ho pins s2 σ H2 x y v u _ I2 r1 r2 q2) fun d s3 ⟨z, H3, I3, r3, k, e, q3⟩ => ?_)) hm
  subst e
  cases r3
  refine wpAny_truthy_bool ?_
  cases k with
  | false => exact ite_ff ⟨.bl false, H3, I3, rfl, q3⟩
  | true => exact ite_tt (chain_last (thn (hc pins s3 σ H3 _ I3 q3) fun w' s4 ⟨z', H4, I4, r4, q4⟩ => ho' pins s4 σ H4 y z' u w' Q I4 r2 r4 q4))
def TruV (K : PySem.W.Frag) (x : V) (H : Hp) (k : Bool) : Prop :=
  match x with
  | .non => k = false
  | .bl b => k = b
  | .int i => k = (i != 0)
  | .str y => y.length ≤ sizeLine ∧ k = ((y.length : Int) != 0)
  | .byt y => y.size ≤ sizeLine ∧ k = ((y.size : Int) != 0)
  | .ref p => (∃ xs, SqL K H p xs ∧ k = !xs.isEmpty) ∨ (∃ xs, SqT K H p xs ∧ k = !xs.isEmpty) ∨ ∃ kvs, H p = some (.dK kvs) ∧ k = !kvs.isEmpty
  | _ => False
theorem line63 : (sizeLine : Nat) < 2 ^ 63 := by rw [sizeLine_eq]; decide
def PlainIxT (b : Expr) : Prop := ∀ o i, subscripted b false o i = operate [o, i] (getItem o i)
theorem vals1 {x : V} {us : List Value} (r : Vals [x] us) : ∃ u, us = [u] ∧ RelV x u := by
  cases r with
  | cons r1 r2 => cases r2; exact ⟨_, rfl, r1⟩
theorem vals2 {x y : V} {us : List Value} (r : Vals [x, y] us) : ∃ u w', us = [u, w'] ∧ RelV x u ∧ RelV y w' := by
  cases r with
  | cons r1 r2 =>
    cases r2 with
    | cons r3 r4 => cases r4; exact ⟨_, _, rfl, r1, r3⟩
theorem call_max2 (hc : X.calm = true) : CallR X (.builtin "max") (fun xs H Q => ∃ i j, xs = [.int i, .int j] ∧ Q (.int (if j > i then j else i)) H) := by
  intro pins s σ H xs us Q I r h
  obtain ⟨i, j, rfl, q⟩ := h
  obtain ⟨u, w', rfl, ⟨t, rfl⟩, ⟨t', rfl⟩⟩ := vals2 r
  refine max_two_ints (I.ok.hd hc) fun h' tk k => ⟨_, H, I.kept k, ?_, q⟩
  by_cases hj : j > i
  · rw [if_pos hj, if_pos hj]; exact ⟨_, rfl⟩
  · rw [if_neg hj, if_neg hj]; exact ⟨_, rfl⟩
theorem call_min2 (hc : X.calm = true) : CallR X (.builtin "min") (fun xs H Q => ∃ i j, xs = [.int i, .int j] ∧ Q (.int (if j < i then j else i)) H) := by
  intro pins s σ H xs us Q I r h
  obtain ⟨i, j, rfl, q⟩ := h
  obtain ⟨u, w', rfl, ⟨t, rfl⟩, ⟨t', rfl⟩⟩ := vals2 r
  refine min_two_ints (I.ok.hd hc) fun h' tk k => ⟨_, H, I.kept k, ?_, q⟩
  by_cases hj : j < i
  · rw [if_pos hj, if_pos hj]; exact ⟨_, rfl⟩
  · rw [if_neg hj, if_neg hj]; exact ⟨_, rfl⟩
def LenV (K : PySem.W.Frag) (x : V) (H : Hp) (n : Nat) : Prop :=
  match x with
  | .str y => y.length ≤ sizeLine ∧ n = y.length
  | .byt y => y.size ≤ sizeLine ∧ n = y.size
  | .ref p => (∃ xs, SqL K H p xs ∧ n = xs.length) ∨ ∃ xs, SqT K H p xs ∧ n = xs.length
  | _ => False
end
end L2
namespace L2
open PySem PySem.Spec PyProof.Rows
structure ObjM (h : Heap) (x dx C : Addr) (mA : Str → Option Value) : Prop where
  obj : h.get? x = some (PySem.W.instObj C dx)
  ns : h.Ns1 dx mA
  ne : dx ≠ x
theorem lookIn_ns {h : Heap} {dx : Addr} {mA : Str → Option Value} (n : h.Ns1 dx mA) : ∃ od, h.get? dx = some od ∧ ∀ name, PySem.W.lookIn name od = some (mA name) := by
  obtain ⟨o, es, ep, ho, hd, hk, _, hm⟩ := n
  refine ⟨o, ho, fun name => ?_⟩
  have e := hm name
  unfold nsFind findBy at e
  rw [← Array.find?_toList] at e
  unfold PySem.W.lookIn
  rw [hd]
  dsimp only
  split
  · rename_i y q
    rw [q] at e
    exact congrArg some e
  · rename_i q
    rw [q] at e
    have a : es.toList.any (·.refKey) = false := by
      rw [List.any_eq_false]
      intro y hy
      obtain ⟨z, t, hkey⟩ := hk y (Array.mem_toList_iff.mp hy)
      simp [DictEntry.refKey, hkey]
    have a' : ¬ es.toList.any (·.refKey) = true := by rw [a]; exact Bool.false_ne_true
    rw [if_neg a']
    exact congrArg some e
theorem ObjM.look {h : Heap} {x dx C : Addr} {mA : Str → Option Value} (I : ObjM h x dx C mA) : ∃ od, PySem.W.InstAt h x (PySem.W.instObj C dx) C (some od) ∧ ∀ name, PySem.W.lookIn name od = some (mA name) :=
  let ⟨od, ho, hl⟩ := lookIn_ns I.ns
  ⟨od, ⟨I.obj, rfl, rfl, ho⟩, hl⟩
section
variable {prog : Program} {w : World} {A : Around} {E : Value → Shared → Prop} {s : Shared} {K : PySem.W.Frag} {x dx C f : Addr} {mA : Str → Option Value} {name : Str} {v : Value}
theorem get_map {expr : Bool} {Q : Value → Shared → Prop} (X : K.In s.heap) (I : ObjM s.heap x dx C mA) (hg : PySem.W.plainGet K C name = true) (hh : PySem.W.hasDictIn K C = true)
    (ha : PySem.W.findIn K (.ref C) name = some none) (hv : mA name = some v) (hv' : PySem.W.handedIn v = true) (h : Q v { s with toks := s.toks + 1 }) :
    wpAny (model prog w) A (getAttr (.ref x) name expr) Q E s := by
  obtain ⟨od, J, hl⟩ := I.look
  exact PySem.W.get_value X J (PySem.W.plainGet_of hg).1 (PySem.W.findObj_own hh ha rfl (by rw [hl, hv])) hv' h
theorem set_map {ns : List Str} {Q : Unit → Shared → Prop} (X : K.In s.heap) (I : ObjM s.heap x dx C mA)
    (hs : PySem.W.findIn K (.ref C) "__setattr__" = some (some (.builtin "object.__setattr__"))) (hp : PySem.W.plainOver K C = true) (ht : PySem.W.takerIn K C name = some none) (hh : PySem.W.hasDictIn K C = true)
    (hw : PySem.Within mA ns) (hsz : ns.length ≤ sizeLine)
    (h : ∀ h', ObjM h' x dx C (fun y => if y = name then some v else mA y) → Heap.SameBut dx s.heap h' → Q () { s with heap := h', toks := s.toks + 2 }) :
    wpAny (model prog w) A (setAttr (.ref x) name v) Q E s := by
  obtain ⟨od, J, hl⟩ := I.look
  refine PySem.W.set_plain X J hs (PySem.W.osa_open (s := { s with toks := s.toks + 1 }) (r := none) X J hp ht fun b => ?_)
  obtain ⟨cd, hc, hd'⟩ := PySem.W.any_some hh
  have hx : s.heap.get? x = some ⟨.ref C, some dx, .plain, #[]⟩ := I.obj
  refine wpAny_bind (wpAny_pure (wpAny_bind (wpAny_bind (wpAny_loadPart hx (wpAny_bind (PySem.W.Looks.here (s := { s with toks := s.toks + 1 }) (PySem.W.looks_clsIn X hc) ?_))))))
  rw [hd']
  refine wpAny_pure (a := some dx) (wpAny_bind (wpAny_pure (wpAny_bind ?_)))
  refine wpAny_nsSet1 (s := { s with toks := s.toks + 1 }) I.ns fun h' hn2 hs2 => ?_
  obtain ⟨oD, esD, epD, hoD, hdD, hcD⟩ := hn2.count (PySem.Within.cons name v hw)
  refine wpAny_bind (wpAny_lookBehind hoD (by rw [hdD]; exact pastItsLine_dict (Nat.le_trans hcD (by rw [List.length_cons]; omega))) ?_)
  exact wpAny_pure (h _ ⟨(hs2.2 _ (Ne.symm I.ne)).trans I.obj, hn2, I.ne⟩ hs2)
theorem make_map {R : Result → Shared → Prop} {vs : List Value} {kw : List (Str × Value)} (X : K.In s.heap) (hm : PySem.W.makesIn K C = true)
    (hi : PySem.W.findIn K (.ref C) "__init__" = some (some (.ref f))) (hf : PySem.W.typeIn K (.ref f) = some (.type "function"))
    (h : codeAny (model prog w) (A.under (.builtin "type.__call__" ⟨.ref C :: vs, kw⟩)) (.call (.ref f) ⟨.ref (s.heap.objs.size + 1) :: vs, kw⟩) (PySem.W.InitBack (s.heap.objs.size + 1) R)
      { s with heap := (s.heap.push PySem.W.emptyDict).push (PySem.W.instObj C s.heap.objs.size) }) :
    codeAny (model prog w) A (.call (.ref C) ⟨vs, kw⟩) R s := by
  obtain ⟨hh, g, d, t, os⟩ := s
  exact PySem.W.make_core (PySem.W.makes_of X hm) (PySem.W.looks_findIn X hi) (fun self => PySem.W.bind_fn X self hf) (.inl rfl) h
end
def putF (f : Str) (v : V) : List (Str × V) → List (Str × V)
  | [] => [(f, v)]
  | (g, x) :: r => if g = f then (g, v) :: r else (g, x) :: putF f v r
theorem lookup_putF (f g : Str) (v : V) : ∀ fs : List (Str × V), (putF f v fs).lookup g = if g = f then some v else fs.lookup g
  | [] => by
    show List.lookup g [(f, v)] = _
    by_cases h : g = f
    · have hb : (g == f) = true := beq_iff_eq.mpr h
      simp only [List.lookup, hb, if_pos h]
    · have hb : (g == f) = false := beq_eq_false_iff_ne.mpr h
      simp only [List.lookup, hb, if_neg h]
  | (k, x) :: r => by
    have ih := lookup_putF f g v r
    rw [show putF f v ((k, x) :: r) = (if k = f then (k, v) :: r else (k, x) :: putF f v r) from rfl]
    by_cases hk : k = f
    · rw [if_pos hk]
      by_cases h : g = k
      · have hb : (g == k) = true := beq_iff_eq.mpr h
        simp only [List.lookup, hb, if_pos (h.trans hk)]
      · have hb : (g == k) = false := beq_eq_false_iff_ne.mpr h
        simp only [List.lookup, hb, if_neg (fun e : g = f => h (e.trans hk.symm))]
    · rw [if_neg hk]
      by_cases h : g = k
      · have hb : (g == k) = true := beq_iff_eq.mpr h
        simp only [List.lookup, hb, if_neg (fun e : g = f => hk (h.symm.trans e))]
      · have hb : (g == k) = false := beq_eq_false_iff_ne.mpr h
        simp only [List.lookup, hb]
        exact ih
theorem keys_putF (f : Str) (v : V) : ∀ fs : List (Str × V), f ∈ (putF f v fs).map (·.1) ∧ ∀ g, g ∈ fs.map (·.1) → g ∈ (putF f v fs).map (·.1)
  | [] => ⟨by simp [putF], fun g h => by simp at h⟩
  | (k, x) :: r => by
    obtain ⟨i1, i2⟩ := keys_putF f v r
    rw [show putF f v ((k, x) :: r) = (if k = f then (k, v) :: r else (k, x) :: putF f v r) from rfl]
    by_cases hk : k = f
    · rw [if_pos hk]
      subst hk
      exact ⟨by simp, fun g h => by simpa using h⟩
    · rw [if_neg hk]
      refine ⟨?_, fun g h => ?_⟩
      · rw [List.map_cons]
        exact List.mem_cons_of_mem _ i1
      · rw [List.map_cons] at h ⊢
        rcases List.mem_cons.mp h with e | e
        · exact List.mem_cons.mpr (.inl e)
        · exact List.mem_cons_of_mem _ (i2 g e)
theorem length_putF (f : Str) (v : V) : ∀ fs : List (Str × V), (putF f v fs).length ≤ fs.length + 1
  | [] => by simp [putF]
  | (k, x) :: r => by
    have ih := length_putF f v r
    rw [show putF f v ((k, x) :: r) = (if k = f then (k, v) :: r else (k, x) :: putF f v r) from rfl]
    by_cases hk : k = f
    · rw [if_pos hk, List.length_cons, List.length_cons]; omega
    · rw [if_neg hk, List.length_cons, List.length_cons]; omega
theorem RelO.some_of {v : V} {o : Option Value} (r : RelO (some v) o) : ∃ u, o = some u ∧ RelV v u := by
  cases o with
  | none => exact (show False from r).elim
  | some u => exact ⟨u, rfl, r⟩
theorem handed_of {v : V} {u : Value} (r : RelV v u) : PySem.W.handedIn u = true := by
  cases v with
  | non => cases (show u = Value.none from r); rfl
  | bl b => cases (show u = Value.bool b from r); rfl
  | int i => obtain ⟨t, e⟩ := (show ∃ t, u = Value.int i t from r); cases e; rfl
  | str x => obtain ⟨t, e⟩ := (show ∃ t, u = Value.str x t from r); cases e; rfl
  | byt b => obtain ⟨t, e⟩ := (show ∃ t, u = Value.bytes b t from r); cases e; rfl
  | flt b => obtain ⟨t, e⟩ := (show ∃ t, u = Value.float b t from r); cases e; rfl
  | ref a => cases (show u = Value.ref a from r); rfl
  | ty n => cases (show u = Value.type n from r); rfl
section
variable {P : Program} {w : World} {H H' : Hp} {h h' : Heap} {a C dx : Addr} {fs fs' : List (Str × V)}
theorem ins_get (hok : HOk P w H h) (e : H a = some (.ins C dx fs)) : ∃ mA, ObjM h a dx C mA ∧ (∀ f, RelO (fs.lookup f) (mA f)) ∧ PySem.Within mA (fs.map (·.1)) ∧ fs.length ≤ 1000 ∧ H dx = some (.own a) := by
  obtain ⟨d, z, ne, ob, mA, n, r, q⟩ := (show ObjOk P w H h a (.ins C dx fs) from hok a _ e)
  exact ⟨mA, ⟨ob, n, ne⟩, r, q, z, d⟩
end
structure Cls (K : PySem.W.Frag) (C : Addr) : Prop where
  pg : PySem.W.plainGet K C Str.empty = true
  hd : PySem.W.hasDictIn K C = true
  po : PySem.W.plainOver K C = true
  sa : PySem.W.findIn K (.ref C) "__setattr__" = some (some (.builtin "object.__setattr__"))
theorem Cls.get {K : PySem.W.Frag} {C : Addr} (c : Cls K C) (f : Str) : PySem.W.plainGet K C f = true := c.pg
def NoAttr (K : PySem.W.Frag) (C : Addr) (f : Str) : Prop := PySem.W.findIn K (.ref C) f = some none
theorem NoAttr.taker {K : PySem.W.Frag} {C : Addr} {f : Str} (n : NoAttr K C f) : PySem.W.takerIn K C f = some none := by
  unfold PySem.W.takerIn
  rw [show PySem.W.findIn K (.ref C) f = some none from n]
  rfl
structure Con (K : PySem.W.Frag) (C : Addr) (f : Str) (v : V) (u : Value) : Prop where
  at_ : PySem.W.findIn K (.ref C) f = some (some u)
  rel : RelV v u
  get : PySem.W.specialIn K u "__get__" = some none
  cp : PySem.W.copiedNames.contains f = false
structure Meth (K : PySem.W.Frag) (C : Addr) (m : Str) (f : Addr) : Prop where
  at_ : PySem.W.findIn K (.ref C) m = some (some (.ref f))
  fn : PySem.W.isFn K (.ref f) = true
  kp : PySem.W.keepIn K (.ref f) = true
section
variable {X : Cx} {pins : List (Addr × Obj)} {σ : St} {H : Hp} {s : Shared} {a C dx : Addr} {fs : List (Str × V)} {f : Str} {v : V} {A : Around} {E : Value → Shared → Prop}
theorem getattr_ok {b : Bool} {Q : Value → Shared → Prop} (I : Inv X pins σ H s) (e : H a = some (.ins C dx fs)) (c : Cls X.K C) (n : NoAttr X.K C f) (l : fs.lookup f = some v)
    (h : ∀ u s', Inv X pins σ H s' → RelV v u → Q u s') : wpAny (model X.prog X.w) A (getAttr (.ref a) f b) Q E s := by
  obtain ⟨mA, O, r, _, _, _⟩ := ins_get I.hok e
  obtain ⟨u, hu, ru⟩ := RelO.some_of (v := v) (o := mA f) (by rw [← l]; exact r f)
  exact get_map I.kIn O (c.get f) c.hd n hu (handed_of ru) (h u _ (I.tok _) ru)
theorem setattr_ok {y : V} {u : Value} {Q : Unit → Shared → Prop} (I : Inv X pins σ H s) (e : H a = some (.ins C dx fs)) (c : Cls X.K C) (n : NoAttr X.K C f) (hl : fs.length < 1000) (ry : RelV y u)
    (h : ∀ s', Inv X pins σ (upd H a (.ins C dx (putF f y fs))) s' → Q () s') : wpAny (model X.prog X.w) A (setAttr (.ref a) f u) Q E s := by
  obtain ⟨mA, O, r, wi, _, ho⟩ := ins_get I.hok e
  have hz : (fs.map (·.1)).length ≤ sizeLine := by rw [List.length_map, sizeLine_eq]; omega
  refine set_map I.kIn O c.sa c.po n.taker c.hd wi hz fun h' O' sb => h _ ?_
  have hd : ∃ o, h'.get? dx = some o := let ⟨o, _, _, e', _⟩ := O'.ns; ⟨o, e'⟩
  refine I.write (x := a) (e := dx) (by rw [e]; exact True.intro) (.inr ho) (fun b q hb z => (sb.2 b hb).trans z) hd ?_
  refine ⟨by rw [upd_ne O.ne]; exact ho, ?_, O.ne, O'.obj, _, O'.ns, fun g => ?_, fun g hg => ?_⟩
  · have := length_putF f y fs; omega
  · show RelO ((putF f y fs).lookup g) (if g = f then some u else mA g)
    rw [lookup_putF]
    by_cases q : g = f
    · rw [if_pos q, if_pos q]; exact ry
    · rw [if_neg q, if_neg q]; exact r g
  · by_cases q : g = f
    · rw [q]; exact (keys_putF f y fs).1
    · refine (keys_putF f y fs).2 g (wi g fun z => hg ?_)
      show (if g = f then some u else mA g) = none
      rw [if_neg q]; exact z
theorem Inv.made (I : Inv X pins σ H s) : Inv X pins σ (upd (upd H s.heap.objs.size (.own (s.heap.objs.size + 1))) (s.heap.objs.size + 1) (.ins C s.heap.objs.size []))
    { s with heap := (s.heap.push PySem.W.emptyDict).push (PySem.W.instObj C s.heap.objs.size) } := by
  have e1 : (s.heap.push PySem.W.emptyDict).get? s.heap.objs.size = some PySem.W.emptyDict := Heap.get?_push_size s.heap rfl
  have e2 : ((s.heap.push PySem.W.emptyDict).push (PySem.W.instObj C s.heap.objs.size)).get? (s.heap.objs.size + 1) = some (PySem.W.instObj C s.heap.objs.size) := by
    have := Heap.get?_push_size (s.heap.push PySem.W.emptyDict) (o := PySem.W.instObj C s.heap.objs.size) rfl
    rwa [Heap.size_push] at this
  have e3 : (s.heap.push PySem.W.emptyDict).Ns s.heap.objs.size (fun _ => none) := ⟨PySem.W.emptyDict, #[], _, e1, rfl, (fun e he => absurd he (by simp)), fun _ => rfl⟩
  have I1 := I.laid (a := s.heap.objs.size) (o := .own (s.heap.objs.size + 1)) (h' := s.heap.push PySem.W.emptyDict) (t' := s.toks) (fun b u q => Heap.get?_push_of_some _ q) (Nat.le_refl _) ⟨_, e1⟩
  refine I1.laid (a := s.heap.objs.size + 1) (o := .ins C s.heap.objs.size []) (t' := s.toks) (fun b u q => Heap.get?_push_of_some _ q) (Nat.le_of_eq (Heap.size_push _ _)) ?_
  have ne : s.heap.objs.size ≠ s.heap.objs.size + 1 := Nat.ne_of_lt (Nat.lt_succ_self _)
  refine ⟨by rw [upd_ne ne, upd_same], Nat.zero_le _, ne, e2, fun _ => none, (Heap.Ns1.of_empty e3).at fun o q => Heap.get?_push_of_some _ q, fun _ => True.intro, fun y hy => absurd rfl hy⟩
theorem attr_of {prog : Program} {w : World} {env : Env} {e : Expr} {f : Str} {pos : Pos} {s : Shared} {Q : Value → Shared → Prop} (hb : attributeBase e f env (eval e env) = eval e env)
    (h : wpAny (model prog w) A (eval e env) (fun o s₁ => wpAny (model prog w) A (getAttr o f true) Q E s₁) E s) : wpAny (model prog w) A (eval (.Attribute e f pos) env) Q E s :=
  Attribute_any_ h (by rw [arm_eval_Attribute, hb])
end
def tFld (K : PySem.W.Frag) (ta : TE) (f : Str) : TE := fun σ H Q => ta σ H fun x H1 => ∃ a C dx fs v, x = .ref a ∧ H1 a = some (.ins C dx fs) ∧ Cls K C ∧ NoAttr K C f ∧ fs.lookup f = some v ∧ Q v H1
def tCon (K : PySem.W.Frag) (ta : TE) (f : Str) : TE := fun σ H Q => ta σ H fun x H1 => ∃ a C dx fs v u, x = .ref a ∧ H1 a = some (.ins C dx fs) ∧ Cls K C ∧ Con K C f v u ∧ fs.lookup f = none ∧ Q v H1
def sFld (K : PySem.W.Frag) (ta tv : TE) (f : Str) : TS := fun D σ H => tv σ H fun y H1 => ta σ H1 fun x H2 => ∃ a C dx fs, x = .ref a ∧ H2 a = some (.ins C dx fs) ∧ Cls K C ∧ NoAttr K C f ∧ fs.length < 1000 ∧
  D.nx σ (upd H2 a (.ins C dx (putF f y fs)))
def InOp (X : Cx) (op : Operator) (rd : V → V → Hp → VK → Prop) : Prop :=
  ∀ (pins : List (Addr × Obj)) (s : Shared) (σ : St) (H : Hp) (x y : V) (u v : Value) (Q : VK), Inv X pins σ H s → RelV x u → RelV y v → rd x y H Q → wpAny (model X.prog X.w) X.A (inplaceOp op u v) (EP X pins σ Q) X.xe s
def sFldAug (K : PySem.W.Frag) (ta tv : TE) (rd : V → V → Hp → VK → Prop) (f : Str) : TS := fun D σ H => ta σ H fun x H1 => ∃ a C dx fs v, x = .ref a ∧ H1 a = some (.ins C dx fs) ∧ Cls K C ∧ NoAttr K C f ∧ fs.lookup f = some v ∧
  tv σ H1 fun y H2 => rd v y H2 fun z H3 => ∃ dx' fs', H3 a = some (.ins C dx' fs') ∧ fs'.length < 1000 ∧ D.nx σ (upd H3 a (.ins C dx' (putF f z fs')))
section
variable {X : Cx} {o e value : Expr} {f : Str} {pos pos' tpos : Pos} {ta tv : TE}
theorem pe_fld (he : PE X e ta) (hb : attributeBase e f X.env (eval e X.env) = eval e X.env) : PE X (.Attribute e f pos) (tFld X.K ta f) := by
  intro pins s σ H Q I h
  refine attr_of hb (thn (he pins s σ H _ I h) fun u s1 ⟨x, H1, I1, rx, a, C, dx, fs, v, ex, ea, c, n, l, q⟩ => ?_)
  subst ex
  obtain rfl : u = Value.ref a := rx
  exact getattr_ok I1 ea c n l fun u' s2 I2 ru => ⟨v, H1, I2, ru, q⟩
theorem ps_fld (ha : PE X o ta) (hv : PE X value tv) (hs : swapsWith value (some (.Attribute o f pos')) pos.line X.env = pure false) : PS X (.Assign [.Attribute o f pos'] value pos) (sFld X.K ta tv f) := by
  intro pins s σ H D I h
  refine plainObj_wpAny_Assign_Attribute (thn (hv pins s σ H _ I h) fun u s1 ⟨y, H1, I1, ry, q⟩ => thn (ha pins s1 σ H1 _ I1 q) fun ov s2 ⟨x, H2, I2, rx, a, C, dx, fs, ex, ea, c, n, l, q2⟩ => ?_) hs
  subst ex
  obtain rfl : ov = Value.ref a := rx
  exact setattr_ok I2 ea c n l ry fun s3 I3 => ⟨σ, _, I3, q2⟩
def rAdd : V → V → Hp → VK → Prop := fun x y H Q => ∃ i j, x = .int i ∧ y = .int j ∧ Q (.int (i + j)) H
def rSub : V → V → Hp → VK → Prop := fun x y H Q => ∃ i j, x = .int i ∧ y = .int j ∧ Q (.int (i - j)) H
end
section
variable {X : Cx} {pins : List (Addr × Obj)} {σ : St} {H : Hp} {s : Shared} {A : Around} {E : Value → Shared → Prop} {Q : Value → Shared → Prop} {c : Value} {b : Bool}
inductive TyOf (K : PySem.W.Frag) (H : Hp) : V → Value → Prop where
  | non : TyOf K H .non (.type "NoneType")
  | bl (x : Bool) : TyOf K H (.bl x) (.type "bool")
  | int (i : Int) : TyOf K H (.int i) (.type "int")
  | str (x : Str) : TyOf K H (.str x) (.type "str")
  | flt (x : UInt64) : TyOf K H (.flt x) (.type "float")
  | lst {a : Addr} {xs : List V} (e : H a = some (.lst xs)) : TyOf K H (.ref a) (.type "list")
  | frz {a : Addr} {o : Obj} {xs : List V} (e : H a = some (.frz o (.lst xs))) : TyOf K H (.ref a) (.type "list")
  | tup {a : Addr} {xs : List V} (e : H a = some (.tup xs)) : TyOf K H (.ref a) (.type "tuple")
  | dK {a : Addr} {kvs : List (Key × V)} (e : H a = some (.dK kvs)) : TyOf K H (.ref a) (.type "dict")
  | dT {a : Addr} {kvs : List (List Key × V)} (e : H a = some (.dT kvs)) : TyOf K H (.ref a) (.type "dict")
  | ins {a C dx : Addr} {fs : List (Str × V)} (e : H a = some (.ins C dx fs)) (cl : Cls K C) (ha : PySem.W.findIn K (.ref C) "__class__" = some (some (.builtin "object.__class__")))
      (hn : PySem.W.specialIn K (.builtin "object.__class__") "__get__" = some (some (.builtin "getset_descriptor.__get__"))) (htk : PySem.W.takesIn K (.builtin "object.__class__") = some true)
      (hm : PySem.W.mroIn K C (.type "object") = some true) : TyOf K H (.ref a) (.ref C)
end
end L2
namespace L2
open PySem PySem.Spec PyProof.Rows
structure Room (k : Nat) (A : Around) : Prop where
  hd : A.handled = none
  dp : A.depth + 3 * k + 5 < recursionLimit
  un : A.units + 16 * k + 200 < cLine
theorem Room.mono {j k : Nat} {A : Around} (r : Room k A) (h : j ≤ k) : Room j A := ⟨r.hd, by have := r.dp; omega, by have := r.un; omega⟩
theorem Room.deeper {k : Nat} {A : Around} (r : Room (k + 1) A) (env : Env) : Room k (A.deeper env) :=
  ⟨r.hd, by have := r.dp; show A.depth + 1 + 3 * k + 5 < _; omega, by have := r.un; show A.units + 3 + 16 * k + 200 < _; omega⟩
theorem make_depth {A : Around} {C : Addr} {us : List Value} {kw : List (Str × Value)} : (A.under (.builtin "type.__call__" ⟨.ref C :: us, kw⟩)).depth = A.depth + 1 := by
  first | rfl | simp [Around.under, Code.weight, Code.isCreation, Code.isGuard, Code.isCaller, Code.frames, Code.isFrame, guardIds]
theorem make_units {A : Around} {C : Addr} {us : List Value} {kw : List (Str × Value)} : (A.under (.builtin "type.__call__" ⟨.ref C :: us, kw⟩)).units = A.units + 1 := by
  first | rfl | simp [Around.under, Code.cUnits, Code.frames, Code.isFrame]
theorem Room.make {k : Nat} {A : Around} (r : Room (k + 1) A) (C : Addr) (us : List Value) (kw : List (Str × Value)) : Room k (A.under (.builtin "type.__call__" ⟨.ref C :: us, kw⟩)) :=
  ⟨r.hd, by have := r.dp; rw [make_depth]; omega, by have := r.un; rw [make_units]; omega⟩
theorem Room.depth {k : Nat} {A : Around} (r : Room k A) : A.depth < recursionLimit := by have := r.dp; omega
def tNil : TA := fun _ H Q => Q [] H
def tCons (ta : TE) (tr : TA) : TA := fun σ H Q => ta σ H fun x H1 => tr σ H1 fun xs H2 => Q (x :: xs) H2
section
variable {X : Cx} {e : Expr} {es : List Expr} {te : TE} {t : TA} {pos : Pos}
theorem pa_nil : PA X [] tNil := fun _ _ _ _ H Q I h => Calls.spliced_nil ⟨[], H, I, .nil, h⟩
theorem pa_cons (ha : PE X e te) (hr : PA X es t) (hs : starEach (e :: es) X.env = (false, eval e X.env) :: starEach es X.env := by rfl) : PA X (e :: es) (tCons te t) := by
  intro pos pins s σ H Q I h
  rw [hs]
  show wpAny _ _ (spliced ((false, eval e X.env) :: backTo pos (starEach es X.env))) _ _ s
  refine Calls.spliced_cons (thn (ha pins s σ H _ I h) fun u s1 ⟨x, H1, I1, r1, q1⟩ => ?_)
  exact thn (hr pos pins s1 σ H1 _ I1 q1) fun us s2 ⟨xs, H2, I2, r2, q2⟩ => ⟨x :: xs, H2, I2, .cons r1 r2, q2⟩
def tTup (t : TA) : TE := fun σ H Q => t σ H fun xs H1 => xs.length ≤ sizeLine ∧ ∀ p, H1 p = none → Q (.ref p) (upd H1 p (.tup xs))
def tLst (t : TA) : TE := fun σ H Q => t σ H fun xs H1 => xs.length ≤ sizeLine ∧ ∀ p, H1 p = none → Q (.ref p) (upd H1 p (.lst xs))
theorem pe_lst (h : PA X es t) : PE X (.List es pos) (tLst t) := by
  intro pins s σ H Q I hq
  refine wpAny_List_spliced (thn (h pos pins s σ H _ I hq) fun us s1 ⟨xs, H1, I1, r, z, q⟩ => ⟨by rw [← r.length]; exact z, ?_⟩)
  have hf : H1 s1.heap.objs.size = none := I1.hok.fresh (Nat.le_refl _)
  refine ⟨.ref s1.heap.objs.size, upd H1 s1.heap.objs.size (.lst xs), I1.laid (t' := s1.toks) (fun b u e => Heap.get?_push_of_some _ e) (Nat.le_refl _) ?_, rfl, q _ hf⟩
  exact ⟨z, us, 0, r, Heap.get?_push_size _ rfl⟩
end
abbrev Sp := List V → Hp → VK → XK → Prop
abbrev CXT := List Env → Hp → Shared → XK → Value → Shared → Prop
structure Env0 (P : Program) (w : World) (K : PySem.W.Frag) (mg : Str → Option Value) (base : Heap) (A : Around) (outer : List Env) (s : Shared) (H : Hp) : Prop where
  frames : A.frames = some outer
  mod : Mod K mg base
  bs : ∀ b o, base.get? b = some o → s.heap.get? b = some o ∧ H b = none
  bsz : base.objs.size ≤ s.heap.objs.size
  funs : s.heap.FunFrames base outer
  frf : ∀ b ∈ frs outer, H b = none
  hok : HOk P w H s.heap
  bare : AllBare s.gens
def CE (outer : List Env) (P : Program) (w : World) (H : Hp) (s : Shared) (Q : VK) (u : Value) (s' : Shared) : Prop :=
  ∃ v H', s'.os = s.os ∧ AllBare s'.gens ∧ Un (frs outer) [] H H' s.heap s'.heap ∧ HOk P w H' s'.heap ∧ RelV v u ∧ Q v H'
def CR (CX : CXT) (outer : List Env) (P : Program) (w : World) (H : Hp) (s : Shared) (Q : VK) (E : XK) (r : Result) (s' : Shared) : Prop :=
  match r with
  | .ok (.ret u) => CE outer P w H s Q u s'
  | .ok _ => False
  | .error e => CX outer H s E e s'
structure FnOk (P : Program) (w : World) (K : PySem.W.Frag) (mg : Str → Option Value) (base : Heap) (CX : CXT) (k : Nat) (f : Addr) (fd : FuncData) (ps : List Str) (sp : Sp) : Prop where
  len : ∀ vs H Q E, sp vs H Q E → vs.length = ps.length
  run : ∀ (A : Around) (outer : List Env) (s : Shared) (H : Hp) (args : Args) (us : List Value) (vs : List V) (Q : VK) (E : XK), Room k A → Env0 P w K mg base A outer s H → BindsTo s fd args (ps.zip us) → Vals vs us → sp vs H Q E →
    codeAny (model P w) A (.call (.ref f) args) (CR CX outer P w H s Q E) s
theorem Env0.make {P : Program} {w : World} {K : PySem.W.Frag} {mg : Str → Option Value} {base : Heap} {A : Around} {outer : List Env} {s : Shared} {H : Hp} (e : Env0 P w K mg base A outer s H) (C : Addr) (us : List Value) (kw : List (Str × Value)) :
    Env0 P w K mg base (A.under (.builtin "type.__call__" ⟨.ref C :: us, kw⟩)) outer s H := ⟨by first | exact e.frames | (simpa [Around.under, Code.envs, Code.isFrame, pushEnvs] using e.frames), e.mod, e.bs, e.bsz, e.funs, e.frf, e.hok, e.bare⟩
section
variable {X : Cx} {pins : List (Addr × Obj)} {σ : St} {H : Hp} {s s' : Shared}
theorem Inv.env0 (I : Inv X pins σ H s) : Env0 X.prog X.w X.K X.mg X.base X.A X.stack s H :=
  ⟨I.ok.frames, I.ok.mod, I.bs, Nat.le_trans I.ok.bsz I.sz, I.stack, I.stkFree, I.hok, I.bare⟩
theorem Inv.after {Q : VK} {u : Value} (I : Inv X pins σ H s) (h : CE X.stack X.prog X.w H s Q u s') : EP X pins σ Q u s' := by
  obtain ⟨v, H', os, bare, un, hok, r, q⟩ := h
  obtain ⟨hh, g, d, t, os'⟩ := s'
  obtain rfl : os' = s.os := os
  exact ⟨v, H', I.call (h' := hh) (g' := g) (d' := d) (t' := t) (ch := []) un hok bare (fun b z => absurd z (by simp)), r, q⟩
end
def tCall (sp : Sp) (dvs : List V) (E : XK) (t : TA) : TE := fun σ H Q => t σ H fun vs H1 => sp (vs ++ dvs) H1 Q E
def tMeth (C : Addr) (m : Str) (sp : Sp) (dvs : List V) (E : XK) (ta : TE) (t : TA) : TE := fun σ H Q => ta σ H fun x H1 => ∃ a dx fs, x = .ref a ∧ H1 a = some (.ins C dx fs) ∧ fs.lookup m = none ∧
  t σ H1 fun vs H2 => sp (x :: (vs ++ dvs)) H2 Q E
def tMake (C : Addr) (sp : Sp) (dvs : List V) (E : XK) (t : TA) : TE := fun σ H Q => t σ H fun vs H1 => ∀ x dx, H1 x = none → H1 dx = none → dx ≠ x →
  sp (.ref x :: (vs ++ dvs)) (upd (upd H1 dx (.own x)) x (.ins C dx [])) (fun v H2 => v = .non ∧ Q (.ref x) H2) E
def Binds (K : PySem.W.Frag) (fd : FuncData) (ps : List Str) (ds : List Value) : Prop :=
  ∀ (s : Shared) (us : List Value), K.In s.heap → (us ++ ds).length = ps.length → BindsTo s fd ⟨us, []⟩ (ps.zip (us ++ ds))
theorem Binds.all {K : PySem.W.Frag} {fd : FuncData} {ps : List Str} (h : ∀ us : List Value, us.length = ps.length → bindArgs fd ⟨us, []⟩ = pure (ps.zip us)) : Binds K fd ps [] := fun s us _ hl => by
  rw [List.append_nil] at hl ⊢
  exact .of_eq (h us hl)
def Passes (CX : CXT) (X : Cx) (E : XK) : Prop := ∀ (pins : List (Addr × Obj)) (σ : St) (H : Hp) (s : Shared) (e : Value) (s' : Shared), Inv X pins σ H s → CX X.stack H s E e s' → X.xe e s'
section
variable {X : Cx} {CX : CXT} {k : Nat} {f C : Addr} {fd : FuncData} {ps : List Str} {sp : Sp} {dvs : List V} {ds : List Value} {E : XK} {x m : Str} {p pos apos : Pos} {e o : Expr} {es : List Expr} {ta : TE} {t : TA}
theorem run_fn {pins : List (Addr × Obj)} {σ : St} {H : Hp} {s : Shared} {Q : VK} {us : List Value} {vs : List V} (F : FnOk X.prog X.w X.K X.mg X.base CX k f fd ps sp) (hr : Room k X.A) (hb : Binds X.K fd ps ds) (hd : Vals dvs ds) (hx : Passes CX X E)
    (I : Inv X pins σ H s) (r : Vals vs us) (h : sp (vs ++ dvs) H Q E) : wpAny (model X.prog X.w) X.A (call (.ref f) us) (EP X pins σ Q) X.xe s := by
  have r2 : Vals (vs ++ dvs) (us ++ ds) := r.append hd
  have hl : (us ++ ds).length = ps.length := by rw [← r2.length]; exact F.len _ _ _ _ h
  refine wpAny_call (codeAny_mono (F.run X.A X.stack s H ⟨us, []⟩ (us ++ ds) (vs ++ dvs) Q E hr I.env0 (hb s us I.kIn hl) r2 h) fun r s' hq => ?_)
  cases r with
  | error e => exact hx pins σ H s e s' I hq
  | ok fl =>
    cases fl with
    | ret u => exact I.after hq
    | next => exact False.elim hq
    | brk => exact False.elim hq
    | cont => exact False.elim hq
theorem pe_call (F : FnOk X.prog X.w X.K X.mg X.base CX k f fd ps sp) (hr : Room k X.A) (hg : Gl X x) (hm : X.mg x = some (.ref f)) (hk : PySem.W.keepIn X.K (.ref f) = true) (hb : Binds X.K fd ps ds) (hd : Vals dvs ds) (hx : Passes CX X E)
    (ha : PA X (e :: es) t) (hdb : (x == ("__debug__" : Str)) = false := by decide) (he : starEach (e :: es) X.env = (false, eval e X.env) :: starEach es X.env := by rfl) (hpl : (backTo pos (starEach es X.env)).any (·.1) = false := by rfl) :
    PE X (.Call (.Name x p) (e :: es) [] pos) (tCall sp dvs E t) := by
  intro pins s σ H Q I h
  refine wpAny_Call_Name_kw (ld_glob I hg hm ?_ hdb)
  refine PySem.W.callWith_K (h₀ := X.base) I.ok.mod.kin hk (thn (ha pos pins s σ H _ I h) fun us s1 ⟨vs, H1, I1, r, q⟩ => ⟨I1.kIn, ?_⟩) he hpl
  exact run_fn F hr hb hd hx I1 r q
structure Mk (K : PySem.W.Frag) (C f : Addr) : Prop where
  makes : PySem.W.makesIn K C = true
  init : PySem.W.findIn K (.ref C) "__init__" = some (some (.ref f))
  fn : PySem.W.isFn K (.ref f) = true
  kp : PySem.W.keepIn K (.ref C) = true
theorem run_make {pins : List (Addr × Obj)} {σ : St} {H : Hp} {s : Shared} {Q : VK} {us : List Value} {vs : List V} (M : Mk X.K C f) (F : FnOk X.prog X.w X.K X.mg X.base CX k f fd ps sp) (hr : Room (k + 1) X.A) (hb : Binds X.K fd ps ds) (hd : Vals dvs ds)
    (hx : Passes CX X E) (I : Inv X pins σ H s) (r : Vals vs us)
    (h : ∀ x dx, H x = none → H dx = none → dx ≠ x → sp (.ref x :: (vs ++ dvs)) (upd (upd H dx (.own x)) x (.ins C dx [])) (fun v H2 => v = .non ∧ Q (.ref x) H2) E) :
    wpAny (model X.prog X.w) X.A (call (.ref C) us) (EP X pins σ Q) X.xe s := by
  have hq := h (s.heap.objs.size + 1) s.heap.objs.size (I.hok.fresh (Nat.le_succ _)) (I.hok.fresh (Nat.le_refl _)) (Nat.ne_of_lt (Nat.lt_succ_self _))
  have I2 := Inv.made (C := C) I
  have r2 : Vals (V.ref (s.heap.objs.size + 1) :: (vs ++ dvs)) (Value.ref (s.heap.objs.size + 1) :: (us ++ ds)) := .cons rfl (r.append hd)
  have hl : (Value.ref (s.heap.objs.size + 1) :: us ++ ds).length = ps.length := by
    have e := r2.length
    rw [F.len _ _ _ _ hq] at e
    exact e.symm
  refine wpAny_call (make_map (f := f) I.kIn M.makes M.init (beq_iff_eq.mp M.fn) (codeAny_mono (F.run _ X.stack _ _ ⟨Value.ref (s.heap.objs.size + 1) :: us, []⟩ (Value.ref (s.heap.objs.size + 1) :: (us ++ ds)) _ _ E (hr.make C us [])
    (I2.env0.make C us []) (hb _ (Value.ref (s.heap.objs.size + 1) :: us) I2.kIn hl) r2 hq) fun r s' hq' => ?_))
  cases r with
  | error e => exact hx pins σ _ _ e s' I2 hq'
  | ok fl =>
    cases fl with
    | ret u =>
      obtain ⟨v, H', I3, rv, ev, q3⟩ := I2.after hq'
      subst ev
      exact ⟨rv, ⟨V.ref (s.heap.objs.size + 1), H', I3, rfl, q3⟩⟩
    | next => exact False.elim hq'
    | brk => exact False.elim hq'
    | cont => exact False.elim hq'
theorem pe_make (M : Mk X.K C f) (F : FnOk X.prog X.w X.K X.mg X.base CX k f fd ps sp) (hr : Room (k + 1) X.A) (hg : Gl X x) (hm : X.mg x = some (.ref C)) (hb : Binds X.K fd ps ds) (hd : Vals dvs ds) (hx : Passes CX X E)
    (ha : PA X (e :: es) t) (hdb : (x == ("__debug__" : Str)) = false := by decide) (he : starEach (e :: es) X.env = (false, eval e X.env) :: starEach es X.env := by rfl) (hpl : (backTo pos (starEach es X.env)).any (·.1) = false := by rfl) :
    PE X (.Call (.Name x p) (e :: es) [] pos) (tMake C sp dvs E t) := by
  intro pins s σ H Q I h
  refine wpAny_Call_Name_kw (ld_glob I hg hm ?_ hdb)
  refine PySem.W.callWith_K (h₀ := X.base) I.ok.mod.kin M.kp (thn (ha pos pins s σ H _ I h) fun us s1 ⟨vs, H1, I1, r, q⟩ => ⟨I1.kIn, ?_⟩) he hpl
  exact run_make M F hr hb hd hx I1 r q
end
def PK (X : Cx) (kws : List Keyword) (t : TA) : Prop :=
  ∀ (pos : Pos) (pins : List (Addr × Obj)) (s : Shared) (σ : St) (H : Hp) (Q : List V → Hp → Prop), Inv X pins σ H s → t σ H Q → wpAny (model X.prog X.w) X.A (evalAll ((backToKw pos (keywordEach kws X.env)).map (·.2))) (AP X pins σ Q) X.xe s
section
variable {X : Cx} {CX : CXT} {k : Nat} {f C : Addr} {fd : FuncData} {ps ks : List Str} {sp : Sp} {E : XK} {x m : Str} {p pos apos kpos : Pos} {e o : Expr} {es : List Expr} {kws : List Keyword} {te ta : TE} {t tk : TA} {nm : Option Str}
structure KBinds (K : PySem.W.Frag) (fd : FuncData) (ps ks : List Str) (g : List Value → List Value → List Value) (gV : List V → List V → List V) : Prop where
  to : ∀ (s : Shared) (us ws : List Value), K.In s.heap → (g us ws).length = ps.length → BindsTo s fd ⟨us, ks.zip ws⟩ (ps.zip (g us ws))
  rel : ∀ {vs : List V} {us : List Value} {zs : List V} {ws : List Value}, Vals vs us → Vals zs ws → Vals (gV vs zs) (g us ws)
def tCallK (sp : Sp) (gV : List V → List V → List V) (E : XK) (t tk : TA) : TE := fun σ H Q => t σ H fun vs H1 => tk σ H1 fun zs H2 => sp (gV vs zs) H2 Q E
variable {g : List Value → List Value → List Value} {gV : List V → List V → List V}
end
structure FnScope (N P : List Str) (sc : Scope) : Prop where
  kind : sc.kind = .function
  co : sc.isCoroutine = false
  gen : sc.isGenerator = false
  nd : N.Nodup
  pre : N.take P.length = P
  par : ∀ x ∈ P, sc.names.lookup x = some .local ∨ sc.names.lookup x = some .cell
  nofree : ∀ y ∈ sc.names, y.2 ≠ .free
theorem bindL_out {kindOf : Str → Option NameKind} {x : Str} : ∀ {binds : List (Str × Value)} {m : Str → Option Value}, (∀ v, (x, v) ∉ binds) → bindL kindOf binds m x = m x
  | [], _, _ => rfl
  | (n, v) :: r, m, h => by
    unfold bindL
    rw [bindL_out fun w hw => h w (List.mem_cons_of_mem _ hw)]
    split
    · have : x ≠ n := by rintro rfl; exact h v List.mem_cons_self
      simp [this]
    · rfl
theorem bindC_out {kindOf : Str → Option NameKind} {x : Str} : ∀ {binds : List (Str × Value)} {m : Str → Option Value}, (∀ v, (x, v) ∉ binds) → bindC kindOf binds m x = m x
  | [], _, _ => rfl
  | (n, v) :: r, m, h => by
    unfold bindC
    rw [bindC_out fun w hw => h w (List.mem_cons_of_mem _ hw)]
    split
    · rfl
    · have : x ≠ n := by rintro rfl; exact h v List.mem_cons_self
      simp [this]
theorem bindL_get {kindOf : Str → Option NameKind} {x : Str} {v : Value} : ∀ {P : List Str} {vs : List Value} {i : Nat} {m : Str → Option Value}, P.Nodup → P[i]? = some x → vs[i]? = some v → kindOf x = some .local →
    bindL kindOf (P.zip vs) m x = some v
  | [], _, _, _, _, h, _, _ => by simp at h
  | _ :: _, [], _, _, _, _, h, _ => by simp at h
  | p :: P, w :: vs, 0, m, nd, h1, h2, hk => by
    simp at h1 h2; subst h1; subst h2
    show bindL kindOf ((p, w) :: P.zip vs) m p = _
    unfold bindL
    rw [bindL_out fun v hv => (List.nodup_cons.mp nd).1 (List.of_mem_zip hv).1, if_pos hk]
    simp
  | p :: P, w :: vs, i + 1, m, nd, h1, h2, hk => by
    show bindL kindOf ((p, w) :: P.zip vs) m x = _
    unfold bindL
    exact bindL_get (i := i) (List.nodup_cons.mp nd).2 (by simpa using h1) (by simpa using h2) hk
theorem bindC_get {kindOf : Str → Option NameKind} {x : Str} {v : Value} : ∀ {P : List Str} {vs : List Value} {i : Nat} {m : Str → Option Value}, P.Nodup → P[i]? = some x → vs[i]? = some v → kindOf x ≠ some .local →
    bindC kindOf (P.zip vs) m x = some v
  | [], _, _, _, _, h, _, _ => by simp at h
  | _ :: _, [], _, _, _, _, h, _ => by simp at h
  | p :: P, w :: vs, 0, m, nd, h1, h2, hk => by
    simp at h1 h2; subst h1; subst h2
    show bindC kindOf ((p, w) :: P.zip vs) m p = _
    unfold bindC
    rw [bindC_out fun v hv => (List.nodup_cons.mp nd).1 (List.of_mem_zip hv).1, if_neg hk]
    simp
  | p :: P, w :: vs, i + 1, m, nd, h1, h2, hk => by
    show bindC kindOf ((p, w) :: P.zip vs) m x = _
    unfold bindC
    exact bindC_get (i := i) (List.nodup_cons.mp nd).2 (by simpa using h1) (by simpa using h2) hk
def start (N : List Str) (vs : List V) : St := vs.map some ++ List.replicate (N.length - vs.length) none
def cxOf (CX : CXT) (P : Program) (w : World) (K : PySem.W.Frag) (mg : Str → Option Value) (base : Heap) (N : List Str) (qual : Str) (scope : Scope) (f : Addr) (cd : Value) (A : Around) (outer : List Env) (s : Shared) (H : Hp) (E : XK) : Cx where
  prog := P
  w := w
  K := K
  mg := mg
  base := base
  A := A.deeper (envOfC qual scope s.heap.objs.size f cd)
  N := N
  s_0 := s
  H_0 := H
  env := envOfC qual scope s.heap.objs.size f cd
  outer := outer
  stack := envOfC qual scope s.heap.objs.size f cd :: outer
  ex := []
  calm := true
  fn := fun _ => true
  pn := []
  xe := fun e s' => wpAny (model P w) (A.deeper (envOfC qual scope s.heap.objs.size f cd)) (leaving (envOfC qual scope s.heap.objs.size f cd) e) (fun _ s'' => CX outer H s E e s'') (fun e' s'' => CX outer H s E e' s'') s'
theorem cell_has {sc : Scope} {n : Nat} {x : Str} (h : sc.names.lookup x = some .cell) : ∃ c, (cellsFrom n sc.names []).lookup x = some c := by
  have q := PySem.W.cellsFrom_some sc.names n [] (.inl h)
  exact Option.isSome_iff_exists.mp q
theorem inv_start {CX : CXT} {P : Program} {w : World} {K : PySem.W.Frag} {mg : Str → Option Value} {base : Heap} {N ps : List Str} {qual : Str} {scope : Scope} {f : Addr} {cd : Value} {A : Around} {outer : List Env} {s s1 : Shared} {H : Hp} {E : XK} {us : List Value} {vs : List V}
    (S : FnScope N ps scope) (hd : A.handled = none) (e0 : Env0 P w K mg base A outer s H) (hl : vs.length = ps.length) (r : Vals vs us)
    (x : InCallC s s.heap.objs.size (bindL (envOfC qual scope s.heap.objs.size f cd).kindOf (ps.zip us) fun _ => none) (cellsFrom (s.heap.objs.size + 1) scope.names []) (bindC (envOfC qual scope s.heap.objs.size f cd).kindOf (ps.zip us) fun _ => none) s1) :
    Inv (cxOf CX P w K mg base N qual scope f cd A outer s H E) [] (start N vs) H s1 := by
  have hpl : ps.length ≤ N.length := by have := congrArg List.length S.pre; rw [List.length_take] at this; omega
  obtain ⟨h1, tk, rfl, hk⟩ := x.done
  have noA : ∀ b : Addr, b ∉ (cxOf CX P w K mg base N qual scope f cd A outer s H E).ex := fun b z => absurd (show b ∈ ([] : List Addr) from z) (by simp)
  refine ⟨⟨e0.mod, S.kind, rfl, rfl, Nat.le_refl _, fun y z c h1 h2 => ?_, fun y hy => ?_, fun y c _ h => ?_, fun _ => hd, Around.frames_deeper e0.frames, .inr ⟨rfl, rfl⟩, fun b z => absurd z (noA b), e0.bs, e0.bsz, fun b _ _ => noA b, fun b z => absurd z (noA b), e0.funs, e0.frf⟩,
    rfl, e0.bare, Un.kept hk, ⟨_, x.toInCall.ns, fun i y v h1 h2 h3 => ?_⟩, fun y c h => ⟨_, x.cell y c h⟩, e0.hok.fresh (Nat.le_refl _), fun y c h => ?_, fun p hp => absurd (show p ∈ ([] : List (Addr × Obj)) from hp) (by simp), e0.hok.kept hk, ?_⟩
  · exact name_of_addr x.apart (PySem.mem_of_lookup h1) (PySem.mem_of_lookup h2)
  · have hy : scope.names.lookup y = some .cell ∨ scope.names.lookup y = some .free := hy
    rcases hy with hy | hy
    · exact cell_has hy
    · exact absurd rfl (S.nofree _ (PySem.mem_of_lookup hy))
  · exact Nat.le_of_lt (x.above y c (PySem.mem_of_lookup h))
  · have hi : i < vs.length := by
      unfold start at h2
      by_cases hi : i < vs.length
      · exact hi
      · rw [List.getElem?_append_right (by simpa using hi)] at h2
        rw [List.getElem?_replicate] at h2
        split at h2 <;> cases h2
    have ha : vs[i]? = some v := by
      unfold start at h2
      rw [List.getElem?_append_left (by simpa using hi), List.getElem?_map] at h2
      cases e : vs[i]? with
      | none => rw [e] at h2; cases h2
      | some a => rw [e] at h2; cases h2; rfl
    obtain ⟨u, hu, rv⟩ := r.get ha
    have hp : ps[i]? = some y := by
      rw [← S.pre, List.getElem?_take_of_lt (by omega)]; exact h1
    have ndP : ps.Nodup := by rw [← S.pre]; exact S.nd.sublist (List.take_sublist _ _)
    refine ⟨u, rv, ?_⟩
    rcases S.par y (List.mem_of_getElem? hp) with k | k
    · exact .inl ⟨k, bindL_get ndP hp hu k⟩
    · obtain ⟨c, e⟩ := cell_has (n := s.heap.objs.size + 1) k
      refine .inr ⟨.inl k, c, e, ?_⟩
      have q := x.cell y c e
      rw [bindC_get ndP hp hu (by show scope.names.lookup y ≠ _; rw [k]; decide)] at q
      exact q
  · exact e0.hok.fresh (Nat.le_of_lt (x.above y c (PySem.mem_of_lookup h)))
  · unfold start
    show _ = N.length
    rw [List.length_append, List.length_map, List.length_replicate]
    omega
theorem fn_of {CX : CXT} {P : Program} {w : World} {K : PySem.W.Frag} {mg : Str → Option Value} {base : Heap} {k : Nat} {f : Addr} {name qual : Str} {params : Arguments} {body : List Stmt} {scope : Scope} {dV kV doc pm cdv ct oc : Value} {an od : Option Addr}
    {osl : Array (Option Value)} {N ps : List Str} {sp : Sp} (lk : K.lookup f = some ⟨oc, od, .func (PySem.W.fnOf name qual params body scope dV kV doc pm an cdv ct), osl⟩) (hcd : PySem.W.codeIn K cdv qual = true) (S : FnScope N ps scope)
    (len : ∀ vs H Q E, sp vs H Q E → vs.length = ps.length)
    (hbody : ∀ (A : Around) (outer : List Env) (s : Shared) (H : Hp) (vs : List V) (Q : VK) (E : XK), Room k (A.deeper (envOfC qual scope s.heap.objs.size f cdv)) → sp vs H Q E →
      ∃ t, PSs (cxOf CX P w K mg base N qual scope f cdv A outer s H E) body t ∧ t { nx := fun _ H' => Q .non H', rt := Q } (start N vs) H) :
    FnOk P w K mg base CX (k + 1) f (PySem.W.fnOf name qual params body scope dV kV doc pm an cdv ct) ps sp := by
  refine ⟨len, fun A outer s H args us vs Q E hr e0 hb r hsp => ?_⟩
  have hl := len _ _ _ _ hsp
  have KX : K.In s.heap := e0.mod.kin.keeps fun b o e => (e0.bs b o e).1
  have lim : s.heap.NoLimit := e0.mod.nolimit.keeps fun b o e => (e0.bs b o e).1
  have hkind : ∀ y ∈ ps.zip us, scope.names.lookup y.1 = some .local ∨ (scope.names.lookup y.1 = some .cell ∧ ((cellsFrom (s.heap.objs.size + 1) scope.names []).lookup y.1).isSome = true) := fun ⟨n, v⟩ hy => by
    rcases S.par n (List.of_mem_zip hy).1 with q | q
    · exact .inl q
    · exact .inr ⟨q, PySem.W.cellsFrom_some _ _ _ (.inl q)⟩
  refine codeAny_call_function hr.depth (KX _ _ lk) rfl S.co S.gen rfl (PySem.W.codeRec_of KX hcd) (hb _ _ _ _ ?_)
  refine wpAny_newFunctionEnv_cells S.kind hkind fun env he s1 x => ?_
  subst he
  refine ⟨lim.keeps x.toInCall.keep, codeAny_func ?_⟩
  obtain ⟨t, ht, hq⟩ := hbody A outer s H vs Q E (hr.deeper _) hsp
  have I : Inv (cxOf CX P w K mg base N qual scope f cdv A outer s H E) [] (start N vs) H s1 := inv_start S hr.hd e0 hl r x
  refine wpAny_mono (ht [] s1 (start N vs) H _ I hq) (fun fl s' hs => ?_) fun e s' hs => hs
  have fin : ∀ {σ' : St} {H' : Hp} {v : V} {u : Value}, Inv (cxOf CX P w K mg base N qual scope f cdv A outer s H E) [] σ' H' s' → RelV v u → Q v H' → CE outer P w H s Q u s' :=
    fun {σ' H' v u} J rv q => ⟨v, H', J.os, J.bare, J.base, J.hok, rv, q⟩
  cases fl with
  | ret u =>
    obtain ⟨v, σ', H', J, rv, q⟩ := hs
    exact fin J rv q
  | next =>
    obtain ⟨σ', H', J, q⟩ := hs
    exact fin (v := V.non) (u := Value.none) J rfl q
  | brk =>
    obtain ⟨_, _, _, q⟩ := hs
    exact False.elim q
  | cont =>
    obtain ⟨_, _, _, q⟩ := hs
    exact False.elim q
end L2
namespace L2
open PySem PySem.Spec PyProof.Rows
section
variable {X : Cx} {x : Str} {p pos : Pos} {e : Expr} {es : List Expr} {t : TA} {id T : String} {r : List V → Hp → VK → Prop}
def tCB (r : List V → Hp → VK → Prop) (t : TA) : TE := fun σ H Q => t σ H fun vs H1 => r vs H1 Q
theorem pe_callB (hc : CallR X (.builtin id) r) (hg : Gl X x) (hm : X.mg x = none) (hv : bootBuiltins x = some (.builtin id)) (ha : PA X (e :: es) t) (hn : x ≠ "__name__" := by decide) (hdb : (x == ("__debug__" : Str)) = false := by decide)
    (he : starEach (e :: es) X.env = (false, eval e X.env) :: starEach es X.env := by rfl) (hpl : (backTo pos (starEach es X.env)).any (·.1) = false := by rfl) : PE X (.Call (.Name x p) (e :: es) [] pos) (tCB r t) := by
  intro pins s σ H Q I h
  refine wpAny_Call_Name_kw (ld_blt I hg hm hv ?_ hn hdb)
  exact PyProof.Rows.callWith_builtin1 (thn (ha pos pins s σ H _ I h) fun us s1 ⟨vs, H1, I1, r1, q1⟩ => hc pins s1 σ H1 vs us Q I1 r1 q1) he hpl
theorem pe_callTy (hc : CallR X (.type T) r) (hg : Gl X x) (hm : X.mg x = none) (hv : bootBuiltins x = some (.type T)) (ha : PA X (e :: es) t) (hn : x ≠ "__name__" := by decide) (hdb : (x == ("__debug__" : Str)) = false := by decide)
    (he : starEach (e :: es) X.env = (false, eval e X.env) :: starEach es X.env := by rfl) (hpl : (backTo pos (starEach es X.env)).any (·.1) = false := by rfl) : PE X (.Call (.Name x p) (e :: es) [] pos) (tCB r t) := by
  intro pins s σ H Q I h
  refine wpAny_Call_Name_kw (ld_blt I hg hm hv ?_ hn hdb)
  exact PyProof.Rows.callWith_type1 (thn (ha pos pins s σ H _ I h) fun us s1 ⟨vs, H1, I1, r1, q1⟩ => hc pins s1 σ H1 vs us Q I1 r1 q1) he hpl
end
end L2
namespace HT
open PySem PyProof.Rows
def lexLt : List Int → List Int → Bool
  | [], [] => false
  | [], _ :: _ => true
  | _ :: _, [] => false
  | x :: xs, y :: ys => if x = y then lexLt xs ys else decide (x < y)
section
open PySem.SeqAt
open PySem.AutoSeq1 (wpAny_loadPart')
open PySem.MeetsSeq PySem.MeetsSeq2 PySem.MeetsSeq3
end
section
variable {prog : Program} {w : World} {A : Around} {E : Value → Shared → Prop} {s : Shared}
def sIx (n d : Nat) : Option Int → Nat
  | none => d
  | some v => if v < 0 then (v + (n : Int)).toNat else min v.toNat n
end
end HT
namespace L2
open PySem PySem.Spec PyProof.Rows
abbrev TO := St → Hp → (Option Int → Hp → Prop) → Prop
def PO (X : Cx) (e : Option Expr) (t : TO) : Prop :=
  ∀ (pins : List (Addr × Obj)) (s : Shared) (σ : St) (H : Hp) (Q : Option Int → Hp → Prop), Inv X pins σ H s → t σ H Q →
    wpAny (model X.prog X.w) X.A (evalPart e X.env) (fun u s' => ∃ o H', Inv X pins σ H' s' ∧ IsPart u o ∧ Q o H') X.xe s
def tNoPart : TO := fun _ H Q => Q none H
def tPart (t : TE) : TO := fun σ H Q => t σ H fun x H1 => ∃ i, x = .int i ∧ Q (some i) H1
section
variable {X : Cx} {e : Expr} {te : TE} {lo hi : Option Expr} {tl th : TO} {pos p2 : Pos}
theorem po_none : PO X none tNoPart := by
  intro pins s σ H Q I h
  rw [evalPart_none]
  exact wpAny_pure ⟨none, H, I, .none, h⟩
theorem po_some (h : PE X e te) : PO X (some e) (tPart te) := by
  intro pins s σ H Q I hw
  rw [evalPart_some]
  refine thn (h pins s σ H _ I hw) fun u s1 ⟨x, H1, I1, r1, q1⟩ => ?_
  obtain ⟨i, rfl, q⟩ := q1
  obtain ⟨t, rfl⟩ := r1
  exact ⟨some i, H1, I1, .int i t, q⟩
def SlR (X : Cx) (r : V → Option Int → Option Int → Hp → VK → Prop) : Prop :=
  ∀ (pins : List (Addr × Obj)) (s : Shared) (σ : St) (H : Hp) (x : V) (v vl vu : Value) (lo hi : Option Int) (sl : Addr) (Q : VK), Inv X pins σ H s → RelV x v → s.heap.IsSliceOf sl vl vu .none → IsPart vl lo → IsPart vu hi → r x lo hi H Q →
    ∃ T id, typeLookup (.type T) "__getitem__" = pure (some (.builtin id)) ∧ s.TypeIs v T ∧ wpAny (model X.prog X.w) X.A (getItem v (.ref sl)) (EP X pins σ Q) X.xe s
def tSl (r : V → Option Int → Option Int → Hp → VK → Prop) (te : TE) (tl th : TO) : TE := fun σ H Q => te σ H fun x H1 => tl σ H1 fun l H2 => th σ H2 fun u H3 => r x l u H3 Q
theorem pe_slice {r : V → Option Int → Option Int → Hp → VK → Prop} (hr : SlR X r) (he : PE X e te) (hl : PO X lo tl) (hu : PO X hi th) : PE X (.Subscript e (.Slice lo hi none p2) pos) (tSl r te tl th) := by
  intro pins s σ H Q I h
  refine Subscript_ (thn (he pins s σ H _ I h) fun v s1 ⟨x, H1, I1, r1, q1⟩ => ?_)
  refine wpAny_Slice (thn (hl pins s1 σ H1 _ I1 q1) fun vl s2 ⟨l, H2, I2, pl, q2⟩ => thn (hu pins s2 σ H2 _ I2 q2) fun vu s3 ⟨u, H3, I3, pu, q3⟩ => ?_)
  rw [evalPart_none]
  refine wpAny_pure ?_
  have I4 : Inv X pins σ H3 { s3 with heap := s3.heap.push { cls := .type "slice", data := .fields #[vl, vu, .none] } } := I3.kept (t' := s3.toks) fun b ob q => Heap.get?_push_of_some _ q
  obtain ⟨T, id, hT, ht, hg⟩ := hr pins { s3 with heap := s3.heap.push { cls := .type "slice", data := .fields #[vl, vu, .none] } } σ H3 x v vl vu l u s3.heap.objs.size Q I4 r1 (Heap.IsSliceOf.new ..) pl pu q3
  show wpAny (model X.prog X.w) X.A (subscriptTail e (.Slice lo hi none p2) v (.ref s3.heap.objs.size)) (EP X pins σ Q) X.xe { s3 with heap := s3.heap.push { cls := .type "slice", data := .fields #[vl, vu, .none] } }
  exact tail_any (ops := [.ref s3.heap.objs.size, v]) ht hT hg (by with_unfolding_all rfl)
def cutV (xs : List V) (lo hi : Option Int) : List V := (xs.drop (HT.sIx xs.length 0 lo)).take (HT.sIx xs.length xs.length hi - HT.sIx xs.length 0 lo)
theorem cutV_length (xs : List V) (lo hi : Option Int) : (cutV xs lo hi).length ≤ xs.length := by
  unfold cutV
  rw [List.length_take, List.length_drop]
  omega
def rSlT (K : PySem.W.Frag) : V → Option Int → Option Int → Hp → VK → Prop := fun x lo hi H Q => ∃ a xs, x = .ref a ∧ SqT K H a xs ∧
  ¬ (HT.sIx xs.length 0 lo = 0 ∧ HT.sIx xs.length xs.length hi = xs.length) ∧ ∀ p, H p = none → Q (.ref p) (upd H p (.tup (cutV xs lo hi)))
def rLtT (K : PySem.W.Frag) : R2 := fun x y H Q => ∃ a b ns ms, x = .ref a ∧ y = .ref b ∧ SqT K H a (ns.map V.int) ∧ SqT K H b (ms.map V.int) ∧ Q (.bl (HT.lexLt ns ms)) H
def rCatT (K : PySem.W.Frag) : R2 := fun x y H Q => ∃ a b xs ys, x = .ref a ∧ y = .ref b ∧ SqT K H a xs ∧ SqT K H b ys ∧ xs ≠ [] ∧ xs.length + ys.length ≤ sizeLine ∧
  (ys = [] → Q (.ref a) H) ∧ (ys ≠ [] → ∀ p, H p = none → Q (.ref p) (upd H p (.tup (xs ++ ys))))
end
end L2
namespace L2
open PySem PySem.Spec PyProof.Rows
def ixN (n : Nat) (i : Int) : Option Nat := if 0 ≤ i then (if i < n then some i.toNat else none) else if -(n : Int) ≤ i then some (i + n).toNat else none
def atI {α : Type} (xs : List α) (i : Int) : Option α := (ixN xs.length i).bind fun j => xs[j]?
theorem ixN_seq {n : Nat} {i : Int} {j : Nat} (h : ixN n i = some j) : seqIndex? i n = some j ∧ j < n ∧ -(n : Int) ≤ i ∧ i < n := by
  unfold ixN at h
  by_cases h0 : 0 ≤ i
  · rw [if_pos h0] at h
    by_cases h1 : i < n
    · rw [if_pos h1] at h
      have e : i.toNat = j := Option.some.inj h
      exact ⟨by rw [seqIndex_of h0 h1, e], by omega, by omega, h1⟩
    · rw [if_neg h1] at h; cases h
  · rw [if_neg h0] at h
    by_cases h1 : -(n : Int) ≤ i
    · rw [if_pos h1] at h
      have e : (i + n).toNat = j := Option.some.inj h
      exact ⟨by rw [seqIndex_neg (by omega) h1, e], by omega, h1, by omega⟩
    · rw [if_neg h1] at h; cases h
theorem atI_get {α : Type} {xs : List α} {i : Int} {v : α} (h : atI xs i = some v) : ∃ j, seqIndex? i xs.length = some j ∧ xs[j]? = some v ∧ j < xs.length ∧ -(xs.length : Int) ≤ i ∧ i < xs.length := by
  unfold atI at h
  cases e : ixN xs.length i with
  | none => rw [e] at h; cases h
  | some j =>
    rw [e] at h
    obtain ⟨h1, h2, h3, h4⟩ := ixN_seq e
    exact ⟨j, h1, h, h2, h3, h4⟩
theorem atI_nat {α : Type} {xs : List α} {j : Nat} {v : α} (h : xs[j]? = some v) : atI xs (j : Int) = some v := by
  have hj : j < xs.length := (List.getElem?_eq_some_iff.mp h).1
  have e : ixN xs.length (j : Int) = some j := by
    unfold ixN
    rw [if_pos (by omega), if_pos (by omega)]; simp
  unfold atI; rw [e]; exact h
theorem atI_last {α : Type} (xs : List α) (v : α) : atI (xs ++ [v]) (-1) = some v := by
  have hl : (xs ++ [v]).length = xs.length + 1 := by simp
  have e : ixN (xs ++ [v]).length (-1) = some xs.length := by
    unfold ixN
    rw [hl, if_neg (by decide), if_pos (by omega)]
    congr 1
    omega
  unfold atI
  rw [e]
  show (xs ++ [v])[xs.length]? = some v
  simp
def PlainIx (b : Expr) : Prop := ∀ o i, subscripted b false o i = operate [o, i] (getItem o i)
def IxR (X : Cx) (r : R2) : Prop :=
  ∀ (value slice : Expr) (pins : List (Addr × Obj)) (s : Shared) (σ : St) (H : Hp) (x y : V) (v u : Value) (Q : VK), Inv X pins σ H s → RelV x v → RelV y u → r x y H Q →
    subscripted slice false v u = operate [v, u] (getItem v u) → wpAny (model X.prog X.w) X.A (subscriptTail value slice v u) (EP X pins σ Q) X.xe s
def MtR (X : Cx) (id : String) (r : V → List V → Hp → VK → Prop) : Prop :=
  ∀ (pins : List (Addr × Obj)) (s : Shared) (σ : St) (H : Hp) (x : V) (xs : List V) (v : Value) (us : List Value) (Q : VK), Inv X pins σ H s → RelV x v → Vals xs us → r x xs H Q →
    wpAny (model X.prog X.w) X.A (call (.builtin id) (v :: us)) (EP X pins σ Q) X.xe s
section
variable {X : Cx} {a b : Expr} {ta tb : TE} {pos : Pos}
theorem pe_ix {r : R2} (hr : IxR X r) (ha : PE X a ta) (hb : PE X b tb) (hs : PlainIx b) : PE X (.Subscript a b pos) (tOp r ta tb) := by
  intro pins s σ H Q I h
  exact Subscript_ (binT ha hb I h fun v u s2 x y H2 I2 rx ry q => hr a b pins s2 σ H2 x y v u Q I2 rx ry q (hs _ _))
def rIxL (K : PySem.W.Frag) : R2 := fun x y H Q => ∃ p xs i v, x = .ref p ∧ y = .int i ∧ SqL K H p xs ∧ atI xs i = some v ∧ Q v H
def rIxT (K : PySem.W.Frag) : R2 := fun x y H Q => ∃ p xs i v, x = .ref p ∧ y = .int i ∧ SqT K H p xs ∧ atI xs i = some v ∧ Q v H
def rIxS : R2 := fun x y H Q => ∃ z i c, x = .str z ∧ y = .int i ∧ z.length ≤ sizeLine ∧ atI z.cps.toList i = some c ∧ Q (.str ⟨#[c]⟩) H
theorem ix_list : IxR X (rIxL X.K) := by
  intro value slice pins s σ H x y v u Q I rx ry h hs
  obtain ⟨p, xs, i, z, rfl, rfl, hq, he, q⟩ := h
  cases rx
  obtain ⟨t, rfl⟩ := ry
  obtain ⟨its, r, pl, hz⟩ := I.list hq
  obtain ⟨j, h1, h2, h3, h4, h5⟩ := atI_get he
  obtain ⟨w, ew, rw'⟩ := r.get h2
  have hl := r.length
  have hn := line63
  have fin : EP X pins σ Q w s := ⟨z, H, I, rw', q⟩
  by_cases h0 : 0 ≤ i
  · have hj : i.toNat = j := by
      rw [seqIndex_of h0 h5] at h1
      exact Option.some.inj h1
    exact item_listR pl.isList h0 (by omega) (by rw [hj]; simpa using ew) fin hs
  · have hj : (i + (its.toArray.size : Int)).toNat = j := by
      rw [seqIndex_neg (by omega) h4] at h1
      rw [List.size_toArray, ← hl]
      exact Option.some.inj h1
    exact subscriptTail_builtinR (x := w) pl.isList.typeIs slot_list_getitem.lookup
      (wpAny_getItem_list_neg (Q := fun r s' => r = w ∧ EP X pins σ Q r s') pl.isList (by omega) (by rw [List.size_toArray] <;> omega) (by omega) (by rw [hj]; simpa using ew) ⟨rfl, fin⟩) hs
theorem ix_tup : IxR X (rIxT X.K) := by
  intro value slice pins s σ H x y v u Q I rx ry h hs
  obtain ⟨p, xs, i, z, rfl, rfl, hq, he, q⟩ := h
  cases rx
  obtain ⟨t, rfl⟩ := ry
  obtain ⟨its, r, pl, hz⟩ := I.tuple hq
  obtain ⟨j, h1, h2, h3, h4, h5⟩ := atI_get he
  obtain ⟨w, ew, rw'⟩ := r.get h2
  have hl := r.length
  have hn := line63
  have fin : EP X pins σ Q w s := ⟨z, H, I, rw', q⟩
  exact subscriptTail_builtinR (x := w) pl.typeIs slot_tuple_getitem.lookup
    (getItem_tuple (j := j) (Q := fun r s' => r = w ∧ EP X pins σ Q r s') pl (by omega) (by omega) (by rw [List.size_toArray, ← hl]; exact h1) (by simpa using ew) ⟨rfl, fin⟩) hs
def rIx (K : PySem.W.Frag) : R2 := fun x y H Q => rIxL K x y H Q ∨ rIxT K x y H Q ∨ rIxS x y H Q
theorem mapSeq_set (its : List Value) (n j : Nat) (u : Value) : Obj.mapSeq (·.setIfInBounds j u) { cls := .type "list", data := .seq its.toArray n } = { cls := .type "list", data := .seq (its.set j u).toArray n } := by
  simp [Obj.mapSeq]
theorem Inv.lst {pins : List (Addr × Obj)} {σ : St} {H : Hp} {s : Shared} {p : Addr} {xs : List V} (I : Inv X pins σ H s) (h : H p = some (.lst xs)) :
    ∃ (its : List Value) (n : Nat), Vals xs its ∧ s.heap.get? p = some { cls := .type "list", data := .seq its.toArray n } ∧ xs.length ≤ sizeLine := by
  obtain ⟨z, its, n, r, e⟩ := I.hok p _ h
  exact ⟨its, n, r, e, z⟩
theorem Inv.lstUpd {pins : List (Addr × Obj)} {σ : St} {H : Hp} {s : Shared} {p : Addr} {xs ys : List V} {its its' : List Value} {n n' : Nat} {f : Obj → Obj} (I : Inv X pins σ H s) (h : H p = some (.lst xs))
    (ho : s.heap.get? p = some { cls := .type "list", data := .seq its.toArray n }) (hf : f { cls := .type "list", data := .seq its.toArray n } = { cls := .type "list", data := .seq its'.toArray n' }) (r : Vals ys its') (hz : ys.length ≤ sizeLine) (t : Nat) :
    Inv X pins σ (upd H p (.lst ys)) { s with heap := s.heap.update p f, toks := t } := by
  have e : (s.heap.update p f).get? p = some { cls := .type "list", data := .seq its'.toArray n' } := by
    rw [Heap.get?_update_self f ho (by rw [hf] <;> rfl), hf]
  refine I.write (x := p) (e := p) (by rw [h]; trivial) (.inl rfl) (fun b u hb q => (Heap.get?_update_other _ _ (Ne.symm hb)).trans q) ⟨_, e⟩ ?_
  exact ⟨hz, its', n', r, e⟩
def rSetL : V → V → V → Hp → (Hp → Prop) → Prop := fun o i v H Q => ∃ p xs k j, o = .ref p ∧ i = .int k ∧ H p = some (.lst xs) ∧ ixN xs.length k = some j ∧ Q (upd H p (.lst (xs.set j v)))
theorem set_list : PSet X rSetL := by
  intro pins s σ H o i v ov iv u Q I ro ri rv h
  obtain ⟨p, xs, k, j, rfl, rfl, hp, hj, q⟩ := h
  cases ro
  obtain ⟨t, rfl⟩ := ri
  obtain ⟨its, n, r, ho, hz⟩ := I.lst hp
  obtain ⟨h1, h2, h3, h4⟩ := ixN_seq hj
  have hl := r.length
  have hn := line63
  have I' : Inv X pins σ (upd H p (.lst (xs.set j v))) { s with heap := s.heap.update p (Obj.mapSeq (·.setIfInBounds j u)) } :=
    I.lstUpd hp ho (mapSeq_set its n j u) (r.set rv j) (by rw [List.length_set]; exact hz) s.toks
  by_cases h0 : 0 ≤ k
  · have hk : k.toNat = j := by
      rw [seqIndex_of h0 h4] at h1
      exact Option.some.inj h1
    exact PySem.W.ki_setAt ho h0 (by omega) (by rw [List.size_toArray, ← hl]; exact h4) (by rw [hk]; exact ⟨_, I', q⟩)
  · have hk : (k + (its.toArray.size : Int)).toNat = j := by
      rw [seqIndex_neg (by omega) h3] at h1
      rw [List.size_toArray, ← hl]
      exact Option.some.inj h1
    exact PySem.W.ki_setBack ho (by omega) (by rw [List.size_toArray, ← hl]; exact h3) (by omega) (by rw [hk]; exact ⟨_, I', q⟩)
theorem slice_bounds (lo hi : Option Int) (n : Nat) : (sliceBounds lo hi none n).1 = ((HT.sIx n 0 lo : Nat) : Int) ∧ (sliceBounds lo hi none n).2.1 = ((HT.sIx n n hi : Nat) : Int) ∧ (sliceBounds lo hi none n).2.2 = 1 := by
  refine ⟨?_, ?_, rfl⟩
  · cases lo with
    | none => simp [sliceBounds, HT.sIx]
    | some i =>
      simp only [sliceBounds, HT.sIx, Option.getD_none, show (1 : Int) > 0 by decide, if_true]
      by_cases h : i < 0
      · simp only [h, if_true] <;> omega
      · simp only [h, if_false] <;> omega
  · cases hi with
    | none => simp [sliceBounds, HT.sIx]
    | some i =>
      simp only [sliceBounds, HT.sIx, Option.getD_none, show (1 : Int) > 0 by decide, if_true]
      by_cases h : i < 0
      · simp only [h, if_true] <;> omega
      · simp only [h, if_false] <;> omega
theorem slicePick_cut (its : List Value) (lo hi : Option Int) : slicePick its.toArray lo hi none = ((its.drop (HT.sIx its.length 0 lo)).take (HT.sIx its.length its.length hi - HT.sIx its.length 0 lo)).toArray := by
  obtain ⟨h1, h2, h3⟩ := slice_bounds lo hi its.toArray.size
  unfold slicePick
  rw [h1, h2, h3]
  simp only [sliceRange_one, pick_run, List.size_toArray] <;> rfl
def rSlL (K : PySem.W.Frag) : V → Option Int → Option Int → Hp → VK → Prop := fun x lo hi H Q => ∃ a xs, x = .ref a ∧ SqL K H a xs ∧ ∀ p, H p = none → Q (.ref p) (upd H p (.lst (cutV xs lo hi)))
theorem sl_list : SlR X (rSlL X.K) := by
  intro pins s σ H x v vl vu lo hi sl Q I rx hs pl pu h
  obtain ⟨a, xs, rfl, hx, q⟩ := h
  cases rx
  obtain ⟨its, r, ht, hz⟩ := I.list hx
  have hlen := r.length
  refine ⟨"list", _, slot_list_getitem.lookup, ht.isList.typeIs, ?_⟩
  refine wpAny_getItem_list_slice ht.isList hs pl pu .none (by simp) ?_ (by rw [List.size_toArray] <;> omega)
  rw [slicePick_cut, ← hlen]
  refine ⟨.ref s.heap.objs.size, _, I.laid (t' := s.toks) (o := .lst (cutV xs lo hi)) (fun b ob q => Heap.get?_push_of_some _ q) (Nat.le_refl _) ?_, rfl, q _ (I.hok.fresh (Nat.le_refl _))⟩
  exact ⟨Nat.le_trans (cutV_length xs lo hi) hz, _, 0, (r.drop (HT.sIx xs.length 0 lo)).take (HT.sIx xs.length xs.length hi - HT.sIx xs.length 0 lo), Heap.get?_push_size _ rfl⟩
def flatV : V → Bool
  | .non => true
  | .bl _ => true
  | .int _ => true
  | .str _ => true
  | _ => false
def eqV : V → V → Bool
  | .non, .non => true
  | .bl a, .bl b => a == b
  | .bl a, .int b => (if a then 1 else 0) == b
  | .int a, .bl b => a == (if b then 1 else 0)
  | .int a, .int b => a == b
  | .str a, .str b => a == b
  | _, _ => false
theorem eqAt_V {A : Around} {s : Shared} {y x : V} {u v : Value} (ry : RelV y u) (rx : RelV x v) (fy : flatV y = true) (fx : flatV x = true) : SeqAt.EqAt A s u v (eqV y x) := by
  cases y with
  | non =>
    cases ry
    cases x with
    | non => cases rx; exact SeqAt.EqAt.same _
    | bl b => cases rx; exact SeqAt.EqAt.none_bool b
    | int b => obtain ⟨t, rfl⟩ := rx; exact SeqAt.EqAt.none_int b t
    | str b => obtain ⟨t, rfl⟩ := rx; exact SeqAt.EqAt.none_str b t
    | _ => exact absurd (show false = true from fx) Bool.false_ne_true
  | bl a =>
    cases ry
    cases x with
    | non => cases rx; exact SeqAt.EqAt.bool_none a
    | bl b => cases rx; exact SeqAt.EqAt.bool_bool a b
    | int b => obtain ⟨t, rfl⟩ := rx; exact SeqAt.EqAt.bool_int a b t
    | str b => obtain ⟨t, rfl⟩ := rx; exact SeqAt.EqAt.bool_str a b t
    | _ => exact absurd (show false = true from fx) Bool.false_ne_true
  | int a =>
    obtain ⟨t', rfl⟩ := ry
    cases x with
    | non => cases rx; exact SeqAt.EqAt.int_none a t'
    | bl b => cases rx; exact SeqAt.EqAt.int_bool a t' b
    | int b => obtain ⟨t, rfl⟩ := rx; exact SeqAt.EqAt.int_int a t' b t
    | str b => obtain ⟨t, rfl⟩ := rx; exact SeqAt.EqAt.int_str a t' b t
    | _ => exact absurd (show false = true from fx) Bool.false_ne_true
  | str a =>
    obtain ⟨t', rfl⟩ := ry
    cases x with
    | non => cases rx; exact SeqAt.EqAt.str_none a t'
    | bl b => cases rx; exact SeqAt.EqAt.str_bool a t' b
    | int b => obtain ⟨t, rfl⟩ := rx; exact SeqAt.EqAt.str_int a t' b t
    | str b => obtain ⟨t, rfl⟩ := rx; exact SeqAt.EqAt.str_str a t' b t
    | _ => exact absurd (show false = true from fx) Bool.false_ne_true
  | _ => exact absurd (show false = true from fy) Bool.false_ne_true
def eqU (x : V) (u : Value) : Bool := match u with
  | .none => eqV .non x
  | .bool b => eqV (.bl b) x
  | .int i _ => eqV (.int i) x
  | .str z _ => eqV (.str z) x
  | _ => false
theorem eqU_of {x y : V} {u : Value} (r : RelV y u) (f : flatV y = true) : eqU x u = eqV y x := by
  cases y with
  | non => cases r; rfl
  | bl b => cases r; rfl
  | int i => obtain ⟨t, rfl⟩ := r; rfl
  | str z => obtain ⟨t, rfl⟩ := r; rfl
  | _ => exact absurd (show false = true from f) Bool.false_ne_true
theorem any_eqU {x : V} : ∀ {xs : List V} {us : List Value}, Vals xs us → xs.all flatV = true → us.any (eqU x) = xs.any fun y => eqV y x
  | _, _, .nil, _ => rfl
  | y :: xs, u :: us, .cons r t, f => by
    rw [List.all_cons, Bool.and_eq_true] at f
    rw [List.any_cons, List.any_cons, eqU_of r f.1, any_eqU t f.2]
theorem mem_eqAt {A : Around} {s : Shared} {x : V} {v : Value} (rx : RelV x v) (fx : flatV x = true) : ∀ {xs : List V} {us : List Value}, Vals xs us → xs.all flatV = true → ∀ u ∈ us, SeqAt.EqAt A s u v (eqU x u)
  | _, _, .nil, _ => fun u hu => by cases hu
  | y :: xs, u :: us, .cons r t, f => fun u' hu => by
    rw [List.all_cons, Bool.and_eq_true] at f
    rcases List.mem_cons.mp hu with rfl | hu
    · rw [eqU_of r f.1]; exact eqAt_V r rx f.1 fx
    · exact mem_eqAt rx fx t f.2 u' hu
def inV (x : V) (xs : List V) : Bool := xs.any fun y => eqV y x
def rIn (K : PySem.W.Frag) (neg : Bool) : R2 := fun x y H Q => ∃ p xs, y = .ref p ∧ (SqL K H p xs ∨ SqT K H p xs) ∧ flatV x = true ∧ xs.all flatV = true ∧ Q (.bl (if neg then !inV x xs else inV x xs)) H
theorem op_in_seq : OpR X (compareOp .In) (rIn X.K false) := by
  intro pins s σ H x y v u Q I rx ry h
  obtain ⟨p, xs, rfl, hq, fx, fs, q⟩ := h
  cases ry
  rcases hq with hq | hq
  · obtain ⟨its, r, pl, hz⟩ := I.list hq
    refine SeqAt.in_listAt (eqU x) pl.isList (fun w hw => mem_eqAt rx fx r fs w (by simpa using hw)) ⟨.bl _, H, I, rfl, ?_⟩
    rw [show its.toArray.any (eqU x) = its.any (eqU x) by simp, any_eqU r fs]
    exact q
  · obtain ⟨its, r, pl, hz⟩ := I.tuple hq
    refine SeqAt.in_tupleAt (eqU x) pl (fun w hw => mem_eqAt rx fx r fs w (by simpa using hw)) ⟨.bl _, H, I, rfl, ?_⟩
    rw [show its.toArray.any (eqU x) = its.any (eqU x) by simp, any_eqU r fs]
    exact q
theorem op_notIn_seq : OpR X (compareOp .NotIn) (rIn X.K true) := by
  intro pins s σ H x y v u Q I rx ry h
  obtain ⟨p, xs, rfl, hq, fx, fs, q⟩ := h
  cases ry
  rcases hq with hq | hq
  · obtain ⟨its, r, pl, hz⟩ := I.list hq
    refine SeqAt.notIn_listAt (eqU x) pl.isList (fun w hw => mem_eqAt rx fx r fs w (by simpa using hw)) ⟨.bl _, H, I, rfl, ?_⟩
    rw [show its.toArray.any (eqU x) = its.any (eqU x) by simp, any_eqU r fs]
    exact q
  · obtain ⟨its, r, pl, hz⟩ := I.tuple hq
    refine SeqAt.notIn_tupleAt (eqU x) pl (fun w hw => mem_eqAt rx fx r fs w (by simpa using hw)) ⟨.bl _, H, I, rfl, ?_⟩
    rw [show its.toArray.any (eqU x) = its.any (eqU x) by simp, any_eqU r fs]
    exact q
theorem call_len_seq : CallR X (.builtin "len") (fun xs H Q => ∃ p ys, xs = [.ref p] ∧ (SqL X.K H p ys ∨ SqT X.K H p ys) ∧ Q (.int ys.length) H) := by
  intro pins s σ H xs us Q I r h
  obtain ⟨p, ys, rfl, hq, q⟩ := h
  obtain ⟨u, rfl, rx⟩ := vals1 r
  cases rx
  have hn := line63
  rcases hq with hq | hq
  · obtain ⟨its, r', pl, hz⟩ := I.list hq
    have hlen := r'.length
    exact Calls.call_len_list pl.isList (by simp only [List.size_toArray] <;> omega) ⟨.int ys.length, H, I.tok _, ⟨s.toks + 1, by rw [List.size_toArray, hlen]⟩, q⟩
  · obtain ⟨its, r', pl, hz⟩ := I.tuple hq
    have hlen := r'.length
    exact len_tuple pl (by simp only [List.size_toArray] <;> omega) ⟨.int ys.length, H, I.tok _, ⟨s.toks + 1, by rw [List.size_toArray, hlen]⟩, q⟩
def tyV (K : PySem.W.Frag) (T : String) (x : V) (H : Hp) : Prop := match x with
  | .str _ => T = "str"
  | .int _ => T = "int"
  | .ref p => (T = "list" ∧ ∃ xs, SqL K H p xs) ∨ (T = "tuple" ∧ ∃ o, K.lookup p = some o ∧ o.cls = .type "tuple" ∧ o.dict = none) ∨
      (T = "dict" ∧ ((∃ kvs, H p = some (.dK kvs)) ∨ ∃ kvs, H p = some (.dT kvs))) ∨ (T = "set" ∧ ∃ S n, H p = some (.set S n))
  | _ => False
theorem tyV_is {pins : List (Addr × Obj)} {σ : St} {H : Hp} {s : Shared} {T : String} {x : V} {v : Value} (I : Inv X pins σ H s) (r : RelV x v) (ty : tyV X.K T x H) :
    s.TypeIs v T ∧ ∀ a, v = .ref a → ∃ ob, s.heap.get? a = some ob ∧ ob.dict = none := by
  cases x with
  | str z =>
    obtain ⟨t, rfl⟩ := r
    cases (show T = "str" from ty)
    exact ⟨typeIs_str s z t, fun _ e => nomatch e⟩
  | int i =>
    obtain ⟨t, rfl⟩ := r
    cases (show T = "int" from ty)
    exact ⟨typeIs_int s i t, fun _ e => nomatch e⟩
  | ref p =>
    cases r
    rcases ty with ⟨rfl, xs, hq⟩ | ⟨rfl, o, hk, hc, hd⟩ | ⟨rfl, hk⟩ | ⟨rfl, S, n, hk⟩
    · obtain ⟨its, _, pl, _⟩ := I.list hq
      refine ⟨pl.isList.typeIs, fun a e => ?_⟩
      cases e
      obtain ⟨o, n, e, c, hd, _⟩ := pl
      exact ⟨o, e, hd⟩
    · refine ⟨⟨o, I.kIn p o hk, hc⟩, fun a e => ?_⟩
      cases e
      exact ⟨o, I.kIn _ o hk, hd⟩
    · have z : ∃ o, s.heap.get? p = some o ∧ o.ExactDict := by
        rcases hk with ⟨kvs, hk⟩ | ⟨kvs, hk⟩
        · obtain ⟨_, _, _, _, o, _, _, e, ex, _⟩ := I.hok p _ hk
          exact ⟨o, e, ex⟩
        · obtain ⟨_, _, _, _, o, _, _, e, ex, _⟩ := I.hok p _ hk
          exact ⟨o, e, ex⟩
      obtain ⟨o, e, ex⟩ := z
      refine ⟨⟨o, e, ex.1⟩, fun a e2 => ?_⟩
      cases e2
      exact ⟨o, e, ex.2.1⟩
    · obtain ⟨o, _, _, _, e, ex, _⟩ := I.hok p _ hk
      refine ⟨⟨o, e, ex.1⟩, fun a e2 => ?_⟩
      cases e2
      exact ⟨o, e, ex.2.1⟩
  | _ => exact False.elim ty
def tBM0 (K : PySem.W.Frag) (T : String) (r : V → List V → Hp → VK → Prop) (to : TE) : TE := fun σ H Q => to σ H fun x H1 => tyV K T x H1 ∧ r x [] H1 Q
def tBM (K : PySem.W.Frag) (T : String) (r : V → List V → Hp → VK → Prop) (to : TE) (t : TA) : TE := fun σ H Q => to σ H fun x H1 => tyV K T x H1 ∧ t σ H1 fun xs H2 => r x xs H2 Q
variable {o e : Expr} {es : List Expr} {to : TE} {t : TA} {name : Str} {apos cpos : Pos} {T id : String} {r : V → List V → Hp → VK → Prop}
theorem pe_bm0 (pa : PlainAttrs T) (slot : Slot T name id) (hty : typeOf (.builtin id) = pure (.type "method_descriptor")) (hm : MtR X id r) (ho : PE X o to)
    (hbase : attributeBase o name X.env (eval o X.env) = eval o X.env := by rfl) (hline : (apos.endLine == cpos.line) = true := by rfl) : PE X (.Call (.Attribute o name apos) [] [] cpos) (tBM0 X.K T r to) := by
  intro pins s σ H Q I h
  refine wpAny_Call_method0_late hbase hline (thn (ho pins s σ H _ I h) fun v s1 ⟨x, H1, I1, r1, ty, q1⟩ => ?_)
  obtain ⟨h1, h2⟩ := tyV_is I1 r1 ty
  exact ⟨T, id, pa, slot, hty, h1, h2, Calls.callWith_builtin rfl (PySem.evalArgs_none (hm pins s1 σ H1 x [] v [] Q I1 r1 .nil q1))⟩
theorem pe_bm (pa : PlainAttrs T) (slot : Slot T name id) (hty : typeOf (.builtin id) = pure (.type "method_descriptor")) (hm : MtR X id r) (ho : PE X o to) (ha : PA X (e :: es) t)
    (hbase : attributeBase o name X.env (eval o X.env) = eval o X.env := by rfl)
    (hfew : ((backTo cpos (starEach (e :: es) X.env)).all (fun x => !x.1) && (backToKw cpos (keywordEach [] X.env)).all (fun x => x.1.isSome)
      && decide ((e :: es).length + ([] : List Keyword).length + (if ([] : List Keyword).isEmpty then 0 else 1) < 30)) = true := by rfl)
    (hline : (apos.endLine == cpos.line) = true := by rfl) (hs : starEach (e :: es) X.env = (false, eval e X.env) :: starEach es X.env := by rfl) (hplain : (backTo cpos (starEach es X.env)).any (·.1) = false := by rfl) :
    PE X (.Call (.Attribute o name apos) (e :: es) [] cpos) (tBM X.K T r to t) := by
  intro pins s σ H Q I h
  refine wpAny_Call_method_late hbase hfew hline rfl (thn (ho pins s σ H _ I h) fun v s1 ⟨x, H1, I1, r1, ty, q1⟩ => ?_)
  obtain ⟨h1, h2⟩ := tyV_is I1 r1 ty
  refine ⟨T, id, pa, slot, hty, h1, h2, ?_⟩
  have hA := ha cpos pins s1 σ H1 _ I1 q1
  rw [hs] at hA ⊢
  refine Calls.callWith_builtin (by show (false || (backTo cpos (starEach es X.env)).any (·.1)) = false; rw [hplain] <;> rfl) (Calls.evalArgs_plain ?_)
  exact thn hA fun us s2 ⟨vs, H2, I2, r2, q2⟩ => hm pins s2 σ H2 x vs v us Q I2 r1 r2 q2
end
end L2
namespace L2
open PySem PySem.Spec PyProof.Rows
def MtM (X : Cx) (id : String) (r : V → List V → Hp → VK → Prop) : Prop :=
  ∀ (pins : List (Addr × Obj)) (s : Shared) (σ : St) (H : Hp) (x : V) (xs : List V) (v : Value) (us : List Value) (Q : VK), Inv X pins σ H s → RelV x v → Vals xs us → r x xs H Q →
    wpAny (model X.prog X.w) X.A (call (.builtin id) (v :: us)) (EP X pins σ Q) X.xe s
theorem Vals.one : ∀ {x : V} {us : List Value}, Vals [x] us → ∃ u, us = [u] ∧ RelV x u
  | _, _, .cons r .nil => ⟨_, rfl, r⟩
theorem Vals.zero : ∀ {us : List Value}, Vals [] us → us = []
  | _, .nil => rfl
theorem Vals.dropLast {xs : List V} {us : List Value} (h : Vals xs us) : Vals xs.dropLast us.dropLast := by
  induction h with
  | nil => exact .nil
  | cons r t ih =>
    cases t with
    | nil => exact .nil
    | cons q t' => exact .cons r ih
theorem Vals.rep {xs : List V} {us : List Value} (h : Vals xs us) : ∀ k : Nat, Vals (List.replicate k xs).flatten (List.replicate k us).flatten
  | 0 => .nil
  | k + 1 => by
    rw [List.replicate_succ, List.replicate_succ, List.flatten_cons, List.flatten_cons]
    exact Vals.append h (Vals.rep h k)
theorem erase_last {α : Type} (l : List α) : l.eraseIdx (l.length - 1) = l.dropLast := by
  induction l with
  | nil => rfl
  | cons a r ih =>
    cases r with
    | nil => rfl
    | cons b r =>
      have e : (a :: b :: r).length - 1 = ((b :: r).length - 1) + 1 := by
        have h1 : (a :: b :: r).length = r.length + 2 := rfl
        have h2 : (b :: r).length = r.length + 1 := rfl
        omega
      rw [e, List.eraseIdx_cons_succ, ih]
      all_goals rfl
theorem foldl_rep (its : List Value) : ∀ (k : Nat) (acc : List Value),
    List.foldl (fun x1 x2 => x1 ++ x2) acc.toArray (List.replicate k its.toArray) = (acc ++ (List.replicate k its).flatten).toArray
  | 0, acc => by simp
  | k + 1, acc => by
    have e : acc.toArray ++ its.toArray = (acc ++ its).toArray := by simp
    have e2 : (acc ++ its) ++ (List.replicate k its).flatten = acc ++ (List.replicate (k + 1) its).flatten := by
      rw [List.replicate_succ, List.flatten_cons, List.append_assoc]
    rw [← e2, ← foldl_rep its k (acc ++ its), ← e, List.replicate_succ, List.foldl_cons]
section
variable {X : Cx} {pins : List (Addr × Obj)} {σ : St} {H : Hp} {s : Shared} {l b : Addr} {xs ys zs : List V}
theorem Inv.lset {its its' : List Value} {n : Nat} {f : Array Value → Array Value} {t' : Nat} (I : Inv X pins σ H s) (hH : H l = some (.lst xs))
    (e : s.heap.get? l = some { cls := .type "list", data := .seq its.toArray n }) (hf : f its.toArray = its'.toArray) (hv : Vals ys its') (hz : ys.length ≤ sizeLine) :
    Inv X pins σ (upd H l (.lst ys)) { s with heap := s.heap.update l (Obj.mapSeq f), toks := t' } := by
  have q := PySem.IsL.update e f
  rw [hf] at q
  refine I.write (x := l) (e := l) (by rw [hH]; exact trivial) (.inl rfl) (fun b' u hb hu => (Heap.get?_update_other s.heap (Obj.mapSeq f) (Ne.symm hb)).trans hu) ⟨_, q⟩ ?_
  exact ⟨hz, its', _, hv, q⟩
theorem Inv.lnew {its : List Value} {t' : Nat} (I : Inv X pins σ H s) (hv : Vals ys its) (hz : ys.length ≤ sizeLine) :
    Inv X pins σ (upd H s.heap.objs.size (.lst ys)) { s with heap := s.heap.push { cls := .type "list", data := .seq its.toArray }, toks := t' } :=
  I.laid (fun _ _ q => Heap.get?_push_of_some _ q) (Nat.le_refl _) ⟨hz, its, 0, hv, Heap.get?_push_size _ rfl⟩
theorem Inv.fresh (I : Inv X pins σ H s) : H s.heap.objs.size = none := I.hok.fresh (Nat.le_refl _)
theorem Inv.lstM (I : Inv X pins σ H s) (hH : H l = some (.lst xs)) : xs.length ≤ sizeLine ∧ ∃ (its : List Value) (n : Nat), Vals xs its ∧ xs.length = its.length ∧ s.heap.get? l = some { cls := .type "list", data := .seq its.toArray n } := by
  obtain ⟨z, its, n, r, e⟩ := I.hok l _ hH
  exact ⟨z, its, n, r, r.length, e⟩
theorem notLongL {n : Nat} (h : n ≤ sizeLine) : Builtin.List.listTooLong n = false := by
  unfold Builtin.List.listTooLong
  exact decide_eq_false (by omega)
end
section
variable {X : Cx}
def rAppend : V → List V → Hp → VK → Prop := fun x vs H Q => ∃ l xs y, x = .ref l ∧ vs = [y] ∧ H l = some (.lst xs) ∧ xs.length < sizeLine ∧ Q .non (upd H l (.lst (xs ++ [y])))
theorem mt_append : MtM X "list.append" rAppend := by
  intro pins s σ H x vs v us Q I rx rv h
  obtain ⟨l, xs, y, rfl, rfl, hH, hz, q⟩ := h
  cases rx
  obtain ⟨u, rfl, ru⟩ := rv.one
  obtain ⟨z, its, n, r, hl, e⟩ := I.lstM hH
  refine call_meets F.slot_list_append ⟨_, e, rfl⟩ F.entry_list_append (F.args_list_append_2 _ _) (PySem.list_append l its.toArray n u (by rw [List.size_toArray]; omega)) ⟨e, ?_⟩
  refine ⟨.non, _, I.lset (its' := its ++ [u]) hH e (by simp) (r.append (.cons ru .nil)) ?_, rfl, q⟩
  rw [List.length_append, List.length_singleton]
  omega
def rExtend : V → List V → Hp → VK → Prop := fun x vs H Q => ∃ l b xs zs, x = .ref l ∧ vs = [.ref b] ∧ H l = some (.lst xs) ∧ H b = some (.lst zs) ∧ xs.length + zs.length ≤ sizeLine ∧ Q .non (upd H l (.lst (xs ++ zs)))
theorem mt_extend : MtM X "list.extend" rExtend := by
  intro pins s σ H x vs v us Q I rx rv h
  obtain ⟨l, b, xs, zs, rfl, rfl, hH, hB, hz, q⟩ := h
  cases rx
  obtain ⟨u, rfl, ru⟩ := rv.one
  cases ru
  obtain ⟨z, its, n, r, hl, e⟩ := I.lstM hH
  obtain ⟨z2, its2, n2, r2, hl2, e2⟩ := I.lstM hB
  have hsz : its.toArray.size + its2.toArray.size ≤ sizeLine := by rw [List.size_toArray, List.size_toArray]; omega
  have hlong : ¬ (!its.toArray.isEmpty && Builtin.List.listTooLong (its.toArray.size + its2.toArray.size)) = true := by
    rw [notLongL hsz, Bool.and_false]
    exact Bool.false_ne_true
  refine call_meets F.slot_list_extend ⟨_, e, rfl⟩ F.entry_list_extend (F.args_list_extend_2 _ _)
    (AutoSeq1.list_extend_list_list_0 l its.toArray n b its2.toArray n2 hlong (by rw [List.size_toArray]; omega) (by omega)) ⟨e, e2, ?_⟩
  refine ⟨.non, _, I.lset (its' := its ++ its2) hH e (by simp) (r.append r2) ?_, rfl, q⟩
  rw [List.length_append]
  omega
def rPop : V → List V → Hp → VK → Prop := fun x vs H Q => ∃ l xs y, x = .ref l ∧ vs = [] ∧ H l = some (.lst xs) ∧ xs[xs.length - 1]? = some y ∧ Q y (upd H l (.lst xs.dropLast))
theorem mt_pop : MtM X "list.pop" rPop := by
  intro pins s σ H x vs v us Q I rx rv h
  obtain ⟨l, xs, y, rfl, rfl, hH, hy, q⟩ := h
  cases rx
  have hus := rv.zero
  subst hus
  obtain ⟨z, its, n, r, hl, e⟩ := I.lstM hH
  obtain ⟨u, hu, ru⟩ := r.get hy
  have hy' : its.toArray[its.toArray.size - 1]? = some u := by
    show its.toArray[its.length - 1]? = some u
    rw [← Array.getElem?_toList, ← hl]
    exact hu
  refine call_meets F.slot_list_pop ⟨_, e, rfl⟩ F.entry_list_pop (F.args_list_pop_1 _) (MeetsSeq.list_pop_last l its.toArray n u hy' (by rw [List.size_toArray]; omega)) ⟨e, ?_⟩
  refine ⟨y, _, I.lset (its' := its.dropLast) hH e ?_ r.dropLast ?_, ru, q⟩
  · show its.toArray.eraseIdxIfInBounds (its.toArray.size - 1) = its.dropLast.toArray
    rw [List.size_toArray, List.eraseIdxIfInBounds_toArray, erase_last]
  · rw [List.length_dropLast]
    omega
def rPopAt : V → List V → Hp → VK → Prop := fun x vs H Q => ∃ l xs i k y, x = .ref l ∧ vs = [.int i] ∧ H l = some (.lst xs) ∧ -(2 ^ 63) ≤ i ∧ i < 2 ^ 63 ∧ seqIndex? i xs.length = some k ∧ xs[k]? = some y ∧ Q y (upd H l (.lst (xs.eraseIdx k)))
def rReverse : V → List V → Hp → VK → Prop := fun x vs H Q => ∃ l xs, x = .ref l ∧ vs = [] ∧ H l = some (.lst xs) ∧ Q .non (upd H l (.lst xs.reverse))
def rClear : V → List V → Hp → VK → Prop := fun x vs H Q => ∃ l xs, x = .ref l ∧ vs = [] ∧ H l = some (.lst xs) ∧ Q .non (upd H l (.lst []))
def rCat : R2 := fun x y H Q => ∃ l b xs zs, x = .ref l ∧ y = .ref b ∧ H l = some (.lst xs) ∧ H b = some (.lst zs) ∧ xs.length + zs.length ≤ sizeLine ∧ ∀ p, H p = none → Q (.ref p) (upd H p (.lst (xs ++ zs)))
theorem op_cat : OpR X (binaryOp .Add) rCat := by
  intro pins s σ H x y v u Q I rx ry h
  obtain ⟨l, b, xs, zs, rfl, rfl, hH, hB, hz, q⟩ := h
  cases rx
  cases ry
  obtain ⟨z, its, n, r, hl, e⟩ := I.lstM hH
  obtain ⟨z2, its2, n2, r2, hl2, e2⟩ := I.lstM hB
  refine PySem.P.add_list e e2 ?_ (by rw [List.size_toArray, List.size_toArray]; omega)
  have ea : its.toArray ++ its2.toArray = (its ++ its2).toArray := by simp
  rw [ea]
  exact ⟨.ref _, _, I.lnew (t' := s.toks) (r.append r2) (by rw [List.length_append]; omega), rfl, q _ I.fresh⟩
def rRep : R2 := fun x y H Q => ∃ l k xs, x = .ref l ∧ y = .int k ∧ H l = some (.lst xs) ∧ -(2 ^ 63) ≤ k ∧ k < 2 ^ 63 ∧ xs.length * k.toNat ≤ sizeLine ∧
  ∀ p, H p = none → Q (.ref p) (upd H p (.lst (List.replicate k.toNat xs).flatten))
theorem len_rep {α : Type} (xs : List α) (k : Nat) : (List.replicate k xs).flatten.length = k * xs.length := by
  induction k with
  | zero => simp
  | succ k ih => rw [List.replicate_succ, List.flatten_cons, List.length_append, ih, Nat.succ_mul, Nat.add_comm]
theorem op_rep : OpR X (binaryOp .Mult) rRep := by
  intro pins s σ H x y v u Q I rx ry h
  obtain ⟨l, k, xs, rfl, rfl, hH, h1, h2, hz, q⟩ := h
  cases rx
  obtain ⟨t, rfl⟩ := ry
  obtain ⟨z, its, n, r, hl, e⟩ := I.lstM hH
  have hlen : its.toArray.size * k.toNat ≤ sizeLine := by rw [List.size_toArray, ← hl]; exact hz
  have hcap : ¬ its.toArray.size * k.toNat > (2 ^ 63 - 1) / 8 := by
    have : (sizeLine : Nat) ≤ (2 ^ 63 - 1) / 8 := by decide
    omega
  have hfit : ¬ (!Builtin.List.listFitsIndex k) = true := by
    rw [fitsIndex_both h1 h2]
    exact Bool.false_ne_true
  have hlong : ¬ Builtin.List.listTooLong (its.toArray.size * k.toNat) = true := by
    rw [notLongL hlen]
    exact Bool.false_ne_true
  have hnew : List.foldl (fun x1 x2 => x1 ++ x2) #[] (List.replicate (if its.toArray.isEmpty = true then 0 else k.toNat) its.toArray) = (List.replicate k.toNat its).flatten.toArray := by
    have f0 : ∀ m : Nat, List.foldl (fun x1 x2 => x1 ++ x2) #[] (List.replicate m its.toArray) = (List.replicate m its).flatten.toArray := fun m => by
      have := foldl_rep its m []
      rw [List.nil_append] at this
      exact this
    rw [f0]
    cases its with
    | nil => simp
    | cons a r' => rw [if_neg (by simp)]
  refine wpAny_binaryOp_repeat_ref (T := "list") (U := "int") (by decide) ⟨_, e, rfl⟩ (fun s' => typeIs_int s' k t) noFill_list_mul F.fills_int_mul F.slot_int_rmul repeat_list F.slot_int_index.lookup
    (call_meets F.slot_int_rmul (typeIs_int s k t) F.entry_int_rmul (F.args_int_rmul_2 _ _) (int___rmul___int_list k t l its.toArray n)
      ⟨e, rfl, ⟨_, e, rfl⟩, call_meets F.slot_list_mul ⟨_, e, rfl⟩ F.entry_list_mul (F.args_list_mul_2 _ _) (AutoListH.list___mul___list_int_3 l its.toArray n k t hfit hcap hlong) ⟨e, ?_⟩⟩)
  rw [hnew]
  exact ⟨.ref _, _, I.lnew (t' := s.toks) (r.rep k.toNat) (by rw [len_rep, Nat.mul_comm]; exact hz), rfl, q _ I.fresh⟩
end
section
variable {prog : Program} {w : World} {A : Around} {E : Value → Shared → Prop} {s : Shared}
set_option maxRecDepth 100000 in
end
section
variable {X : Cx}
end
end L2
namespace L2
open PySem PySem.Spec PyProof.Rows
theorem Vals.ints : ∀ {ns : List Int} {us : List Value}, Vals (ns.map V.int) us → IntsAre us ns
  | [], us, h => by
    rw [List.map_nil] at h
    cases h
    exact IntsAre.nil
  | n :: ns, us, h => by
    rw [List.map_cons] at h
    cases h with
    | cons r t =>
      obtain ⟨k, rfl⟩ := r
      exact IntsAre.cons n k (Vals.ints t)
theorem Vals.bls : ∀ {bs : List Bool} {us : List Value}, Vals (bs.map V.bl) us → us = bs.map Value.bool
  | [], us, h => by
    rw [List.map_nil] at h
    cases h
    rfl
  | b :: bs, us, h => by
    rw [List.map_cons] at h
    cases h with
    | cons r t =>
      cases r
      rw [Vals.bls t, List.map_cons]
theorem Vals.ref1 {a : Addr} {us : List Value} (r : Vals [V.ref a] us) : us = [Value.ref a] := by
  cases r with
  | cons r t =>
    cases t
    cases r
    rfl
theorem Vals.int2 {i j : Int} {us : List Value} (r : Vals [V.int i, V.int j] us) : ∃ t u, us = [Value.int i t, Value.int j u] := by
  cases r with
  | cons r t =>
    cases t with
    | cons r2 t2 =>
      cases t2
      obtain ⟨t, rfl⟩ := r
      obtain ⟨u, rfl⟩ := r2
      exact ⟨t, u, rfl⟩
section
variable {prog : Program} {w : World} {A : Around} {E : Value → Shared → Prop} {s : Shared} {l : Addr} {its : List Value} {ns : List Int} {Q : Value → Shared → Prop}
theorem sum_raw (hh : A.handled = none) (hl : s.heap.IsList l its.toArray) (hi : IntsAre its ns)
    (h : ∀ h' tk t', (∀ b o, s.heap.get? b = some o → h'.get? b = some o) → Q (.int ns.sum t') { s with heap := h', toks := tk }) : wpAny (model prog w) A (call (.builtin "sum") [.ref l]) Q E s := by
  obtain ⟨xs, e⟩ := hi.allInts.items
  have hn : numsOf (intItems xs).toList = ns := by rw [← e]; exact hi.numsOf
  rw [nums_intItems] at hn
  rw [e] at hl
  refine PySem.sum_intListG hh hl fun h' tk t' hk => ?_
  have := h h' tk t' hk
  rw [preSum_eq, List.take_of_length_le (by simp), hn]; exact this
end
section
variable {X : Cx}
def rSum (K : PySem.W.Frag) : List V → Hp → VK → Prop := fun vs H Q => ∃ (a : Addr) (ns : List Int), vs = [V.ref a] ∧ SqL K H a (ns.map V.int) ∧ Q (.int ns.sum) H
def rMax (K : PySem.W.Frag) : List V → Hp → VK → Prop := fun vs H Q => ∃ (a : Addr) (ns : List Int), vs = [V.ref a] ∧ SqL K H a (ns.map V.int) ∧ 0 < ns.length ∧ ∀ m, m ∈ ns → (∀ y, y ∈ ns → y ≤ m) → Q (.int m) H
def rMin (K : PySem.W.Frag) : List V → Hp → VK → Prop := fun vs H Q => ∃ (a : Addr) (ns : List Int), vs = [V.ref a] ∧ SqL K H a (ns.map V.int) ∧ 0 < ns.length ∧ ∀ m, m ∈ ns → (∀ y, y ∈ ns → m ≤ y) → Q (.int m) H
theorem cr_sum (hc : X.calm = true) : CallR X (.builtin "sum") (rSum X.K) := by
  intro pins s σ H vs us Q I r h
  obtain ⟨a, ns, rfl, hs, q⟩ := h
  obtain ⟨its, rv, hl, _⟩ := I.list hs
  rw [Vals.ref1 r]
  exact sum_raw (I.ok.hd hc) hl.isList rv.ints fun h' tk t' hk => ⟨.int _, H, I.kept hk, ⟨_, rfl⟩, q⟩
def rSorted (K : PySem.W.Frag) : List V → Hp → VK → Prop := fun vs H Q => ∃ (a : Addr) (ns : List Int), vs = [V.ref a] ∧ SqL K H a (ns.map V.int) ∧ ns.length < 64 ∧
  ∀ (ns' : List Int) (p : Addr), ns'.Perm ns → ns'.Pairwise (· ≤ ·) → H p = none → Q (.ref p) (upd H p (.lst (ns'.map V.int)))
def rSortedS (K : PySem.W.Frag) : List V → Hp → VK → Prop := fun vs H Q => ∃ (a : Addr) (xs : List Str), vs = [V.ref a] ∧ SqL K H a (xs.map V.str) ∧ xs.length < 64 ∧
  ∀ (ys : List Str) (p : Addr), ys.Perm xs → sortedS ys = true → H p = none → Q (.ref p) (upd H p (.lst (ys.map V.str)))
def rSort : V → List V → Hp → VK → Prop := fun x xs H Q => ∃ (a : Addr) (ns : List Int), x = V.ref a ∧ xs = [] ∧ H a = some (.lst (ns.map V.int)) ∧ ns.length < 64 ∧
  ∀ ns' : List Int, ns'.Perm ns → ns'.Pairwise (· ≤ ·) → Q .non (upd H a (.lst (ns'.map V.int)))
end
section
variable {X : Cx}
def rIndex (K : PySem.W.Frag) : V → List V → Hp → VK → Prop := fun x xs H Q => ∃ (a : Addr) (ys : List V) (y : V) (j : Nat) (z : V), x = V.ref a ∧ xs = [y] ∧ SqL K H a ys ∧ flatV y = true ∧ ys.all flatV = true ∧ ys[j]? = some z ∧ eqV z y = true ∧
  (∀ (m : Nat) (z' : V), m < j → ys[m]? = some z' → eqV z' y = false) ∧ Q (.int (j : Nat)) H
end
section
variable {X : Cx}
end
theorem iter_any {prog : Program} {w : World} {A : Around} {E : Value → Shared → Prop} {s : Shared} {l : Addr} {items : Array Value} {Q : Value → Shared → Prop} (hl : s.heap.IsList l items)
    (h : ∀ s₂ : Shared, s₂ = { s with heap := s.heap.push { cls := .type "list_iterator", data := .fields #[.ref l, .int 0 0] } } →
      (s₂.heap.IsListIter s.heap.objs.size l 0 ∧ s₂.heap.IsList l items) → l ≠ s.heap.objs.size → Q (.ref s.heap.objs.size) s₂) : wpAny (model prog w) A (pyIter (.ref l)) Q E s := by
  have hlt : l < s.heap.objs.size := by obtain ⟨_, e, _⟩ := hl; exact Heap.lt_size e
  exact wpAny_pyIter_list hl (h _ rfl ⟨⟨_, Heap.get?_push_size _ rfl, rfl, rfl⟩, hl.push _⟩ (Nat.ne_of_lt hlt))
theorem truth_bools {prog : Program} {w : World} {A : Around} {bs : List Bool} {its : List Value} (e : its = bs.map Value.bool) :
    TruthOf prog w A (fun i v => its.toArray[i]? = some v) (fun i => bs.getD i false) := fun i v s Q E hv hq => by
  have hv' : its[i]? = some v := by simpa using hv
  rw [e, List.getElem?_map] at hv'
  obtain ⟨b, hb, rfl⟩ := Option.map_eq_some_iff.mp hv'
  have hg : bs.getD i false = b := by rw [List.getD_eq_getElem?_getD, hb] <;> rfl
  have hq' : Q (bs.getD i false) s := hq
  rw [hg] at hq'
  exact wpAny_truthy_bool hq'
theorem any_range : ∀ bs : List Bool, (List.range bs.length).any (fun i => bs.getD i false) = bs.any id
  | [] => rfl
  | b :: bs => by
    rw [List.length_cons, List.range_succ_eq_map, List.any_cons, List.any_map, List.any_cons, ← any_range bs]
    all_goals rfl
section
variable {X : Cx}
def rAny (K : PySem.W.Frag) : List V → Hp → VK → Prop := fun vs H Q => ∃ (a : Addr) (bs : List Bool), vs = [V.ref a] ∧ SqL K H a (bs.map V.bl) ∧ Q (.bl (bs.any id)) H
def rAll (K : PySem.W.Frag) : List V → Hp → VK → Prop := fun vs H Q => ∃ (a : Addr) (bs : List Bool), vs = [V.ref a] ∧ SqL K H a (bs.map V.bl) ∧ Q (.bl (bs.all id)) H
theorem cr_any (hc : X.calm = true) : CallR X (.builtin "any") (rAny X.K) := by
  intro pins s σ H vs us Q I r h
  obtain ⟨a, bs, rfl, hs, q⟩ := h
  obtain ⟨its, rv, hl, _⟩ := I.list hs
  rw [Vals.ref1 r]
  have hb := rv.bls
  refine call_any_walk (iter_any hl.isList fun s₂ e2 st hne => ?_)
  subst e2
  refine ⟨_, _, _, _, _, _, _, rfl, Walks.list (A := X.A.in1) (I.ok.hd hc) _ a hne its.toArray, st, truth_bools hb, fun h' tk hk => ?_⟩
  refine ⟨.bl _, H, I.kept fun b o eo => hk b o (fun hmem => ?_) (Heap.get?_push_of_some _ eo), ?_, q⟩
  · rcases List.mem_cons.mp hmem with e1 | hmem
    · exact absurd (e1 ▸ Heap.lt_size eo) (Nat.lt_irrefl _)
    · cases hmem
  · show Value.bool _ = Value.bool _
    rw [← any_range, hb, List.size_toArray, List.length_map]
end
mutual
inductive Dp (K : PySem.W.Frag) (H : Hp) : V → PyData → Prop
  | non : Dp K H .non .none
  | bl (b : Bool) : Dp K H (.bl b) (.bool b)
  | int (i : Int) : Dp K H (.int i) (.int i)
  | str (x : Str) : Dp K H (.str x) (.str x)
  | lst {a : Addr} {xs : List V} {ds : List PyData} : SqL K H a xs → DpAll K H xs ds → Dp K H (.ref a) (.list ds)
  | tup {a : Addr} {xs : List V} {ds : List PyData} : SqT K H a xs → DpAll K H xs ds → Dp K H (.ref a) (.tuple ds)
inductive DpAll (K : PySem.W.Frag) (H : Hp) : List V → List PyData → Prop
  | nil : DpAll K H [] []
  | cons {v : V} {vs : List V} {d : PyData} {ds : List PyData} : Dp K H v d → DpAll K H vs ds → DpAll K H (v :: vs) (d :: ds)
end
section
variable {X : Cx} {pins : List (Addr × Obj)} {σ : St} {H : Hp} {s : Shared}
end
section
variable {X : Cx}
def rEqD (K : PySem.W.Frag) : R2 := fun x y H Q => ∃ d e, Dp K H x d ∧ Dp K H y e ∧ SeqAt.shaped d = true ∧ SeqAt.shaped e = true ∧ Q (.bl (PyData.eqv d e)) H
def rNeD (K : PySem.W.Frag) : R2 := fun x y H Q => ∃ d e, Dp K H x d ∧ Dp K H y e ∧ SeqAt.shaped d = true ∧ SeqAt.shaped e = true ∧ Q (.bl (!PyData.eqv d e)) H
end
end L2
namespace L2
open PySem PySem.Spec PyProof.Rows
abbrev CellAt (h : Heap) (c : Addr) (v : Option Value) : Prop := h.IsCell c v
def relS (scope sc : Scope) : Scope :=
  { scope with names := scope.names.map fun (n, k) => if (k == .free && sc.kind == .function && sc.names.lookup n == some .cell) then (n, .cell) else (n, k) }
def cloFrom (cells : List (Str × Addr)) : List (Str × NameKind) → List (Str × Addr) → List (Str × Addr)
  | [], acc => acc
  | (n, k) :: r, acc => if k == .free then cloFrom cells r ((n, (cells.lookup n).getD 0) :: acc) else cloFrom cells r acc
theorem closure_loop (env : Env) (f : Str × NameKind → List (Str × Addr) → Sem (ForInStep (List (Str × Addr))))
    (hf : ∀ n k c, f (n, k) c = if k == .free then (do let a ← cellOf env n; pure (.yield ((n, a) :: c))) else pure (.yield c)) :
    ∀ (names : List (Str × NameKind)) (acc : List (Str × Addr)), (∀ y ∈ names, y.2 = .free → ∃ c, env.cells.lookup y.1 = some c) → forIn names acc f = pure (cloFrom env.cells names acc)
  | [], acc, _ => by rw [List.forIn_nil]; rfl
  | (n, k) :: r, acc, h => by
    rw [List.forIn_cons, hf]
    have ih := fun acc => closure_loop env f hf r acc fun y hy => h y (List.mem_cons_of_mem _ hy)
    unfold cloFrom
    by_cases hk : (k == NameKind.free) = true
    · rw [if_pos hk, if_pos hk]
      obtain ⟨c, hc⟩ := h (n, k) List.mem_cons_self (by simpa using hk)
      have e : cellOf env n = pure c := by unfold cellOf; rw [hc]
      rw [e]
      have e2 : (env.cells.lookup n).getD 0 = c := by rw [hc]; rfl
      rw [e2]
      exact ih _
    · rw [if_neg hk, if_neg hk]
      exact ih _
theorem closure_ok {scope : Scope} {env : Env} (h : ∀ y ∈ scope.names, y.2 = .free → ∃ c, env.cells.lookup y.1 = some c) : closureFor scope env = pure (cloFrom env.cells scope.names []) := by
  simp only [closureFor]
  rw [closure_loop env _ (fun n k c => rfl) scope.names [] h]
  rfl
theorem mem_lookup {α : Type} : ∀ {l : List (Str × α)} {n : Str} {c : α}, (n, c) ∈ l → ∃ c', l.lookup n = some c'
  | (k, v) :: r, n, c, h => by
    rw [List.lookup_cons]
    cases hb : n == k with
    | true => exact ⟨_, rfl⟩
    | false =>
      rcases List.mem_cons.mp h with e | h
      · cases e; simp at hb
      · exact mem_lookup h
theorem cloFrom_mem {cells : List (Str × Addr)} : ∀ {names : List (Str × NameKind)} {acc : List (Str × Addr)} {n : Str} {c : Addr}, (n, c) ∈ cloFrom cells names acc → (n, c) ∈ acc ∨ ((n, .free) ∈ names ∧ c = (cells.lookup n).getD 0)
  | [], _, _, _, h => .inl h
  | (m, k) :: r, acc, n, c, h => by
    unfold cloFrom at h
    split at h
    · rename_i hk
      have hk : k = .free := by simpa using hk
      rcases cloFrom_mem h with h | ⟨h1, h2⟩
      · rcases List.mem_cons.mp h with e | h
        · cases e; exact .inr ⟨hk ▸ List.mem_cons_self, rfl⟩
        · exact .inl h
      · exact .inr ⟨List.mem_cons_of_mem _ h1, h2⟩
    · rcases cloFrom_mem h with h | ⟨h1, h2⟩
      · exact .inl h
      · exact .inr ⟨List.mem_cons_of_mem _ h1, h2⟩
theorem cloFrom_acc {cells : List (Str × Addr)} : ∀ {names : List (Str × NameKind)} {acc : List (Str × Addr)} {p : Str × Addr}, p ∈ acc → p ∈ cloFrom cells names acc
  | [], _, _, h => h
  | (m, k) :: r, acc, p, h => by
    unfold cloFrom
    split
    · exact cloFrom_acc (List.mem_cons_of_mem _ h)
    · exact cloFrom_acc h
theorem cloFrom_has {cells : List (Str × Addr)} : ∀ {names : List (Str × NameKind)} {acc : List (Str × Addr)} {n : Str}, (n, .free) ∈ names → (n, (cells.lookup n).getD 0) ∈ cloFrom cells names acc
  | (m, k) :: r, acc, n, h => by
    unfold cloFrom
    rcases List.mem_cons.mp h with e | h
    · cases e
      exact cloFrom_acc List.mem_cons_self
    · split
      · exact cloFrom_has h
      · exact cloFrom_has h
theorem cells_mem : ∀ {names : List (Str × NameKind)} {h : Heap} {acc : List (Str × Addr)} {x : Str} {c : Addr}, (x, c) ∈ cellsFrom h.objs.size names acc →
    (x, c) ∈ acc ∨ ((x, .cell) ∈ names ∧ h.objs.size ≤ c ∧ CellAt (pushCells h names) c none)
  | [], _, _, _, _, h => .inl h
  | (n, k) :: r, h, acc, x, c, hm => by
    unfold cellsFrom at hm
    unfold pushCells
    split at hm
    · rename_i hk
      rw [if_pos hk]
      have hk : k = .cell := by simpa using hk
      rw [← Heap.size_push h { cls := .type "cell", data := .cell none }] at hm
      rcases cells_mem hm with hm | ⟨h1, h2, h3⟩
      · rcases List.mem_cons.mp hm with e | hm
        · cases e
          exact .inr ⟨hk ▸ List.mem_cons_self, Nat.le_refl _, _, pushCells_keeps r _ _ _ (Heap.get?_push_size _ rfl), rfl⟩
        · exact .inl hm
      · rw [Heap.size_push] at h2
        exact .inr ⟨List.mem_cons_of_mem _ h1, Nat.le_of_succ_le h2, h3⟩
    · rename_i hk
      rw [if_neg hk]
      rcases cells_mem hm with hm | ⟨h1, h2, h3⟩
      · exact .inl hm
      · exact .inr ⟨List.mem_cons_of_mem _ h1, h2, h3⟩
theorem cells_acc : ∀ {names : List (Str × NameKind)} {n : Nat} {acc : List (Str × Addr)} {p : Str × Addr}, p ∈ acc → p ∈ cellsFrom n names acc
  | [], _, _, _, h => h
  | (m, k) :: r, n, acc, p, h => by
    unfold cellsFrom
    split
    · exact cells_acc (List.mem_cons_of_mem _ h)
    · exact cells_acc h
theorem cells_has : ∀ {names : List (Str × NameKind)} {n : Nat} {acc : List (Str × Addr)} {x : Str}, (x, .cell) ∈ names → ∃ c, (x, c) ∈ cellsFrom n names acc
  | (m, k) :: r, n, acc, x, h => by
    unfold cellsFrom
    rcases List.mem_cons.mp h with e | h
    · cases e
      exact ⟨n, cells_acc List.mem_cons_self⟩
    · split
      · exact cells_has h
      · exact cells_has h
theorem cells_inj : ∀ {names : List (Str × NameKind)} {h : Heap} {acc : List (Str × Addr)} {x y : Str} {c : Addr}, (∀ p ∈ acc, p.2 < h.objs.size) → (∀ x y c, (x, c) ∈ acc → (y, c) ∈ acc → x = y) →
    (x, c) ∈ cellsFrom h.objs.size names acc → (y, c) ∈ cellsFrom h.objs.size names acc → x = y
  | [], _, _, _, _, _, _, hi, h1, h2 => hi _ _ _ h1 h2
  | (n, k) :: r, h, acc, x, y, c, hl, hi, h1, h2 => by
    unfold cellsFrom at h1 h2
    split at h1
    · rename_i hk
      rw [if_pos hk] at h2
      rw [← Heap.size_push h { cls := .type "cell", data := .cell none }] at h1 h2
      refine cells_inj (h := h.push _) (fun p hp => ?_) (fun x y c a b => ?_) h1 h2
      · rw [Heap.size_push]
        rcases List.mem_cons.mp hp with rfl | hp
        · exact Nat.lt_succ_self _
        · exact Nat.lt_succ_of_lt (hl p hp)
      · rcases List.mem_cons.mp a with e | a <;> rcases List.mem_cons.mp b with e' | b
        · cases e; cases e'; rfl
        · cases e; exact absurd (hl _ b) (Nat.lt_irrefl _)
        · cases e'; exact absurd (hl _ a) (Nat.lt_irrefl _)
        · exact hi _ _ _ a b
    · rename_i hk
      rw [if_neg hk] at h2
      exact cells_inj hl hi h1 h2
theorem newEnv_comp {M : Model} {A : Around} {E : Value → Shared → Prop} {s : Shared} {scope : Scope} {globals : Addr} {closure : List (Str × Addr)} {qual : Str} {func : Option Addr} {code : Value} {around : Env} {builtins : Addr} {Q : Env → Shared → Prop}
    (h : Q (newEnv scope s.heap.objs.size globals (cellsFrom (s.heap.objs.size + 1) scope.names closure) qual func code (some around) builtins)
      { s with heap := pushCells (s.heap.push { cls := .type "dict", data := .dict #[] }) scope.names }) :
    wpAny M A (newFunctionEnv scope globals closure [] qual func code (some around) builtins) Q E s := by
  simp only [newFunctionEnv, Option.isSome_some, if_true]
  refine wpAny_bind (wpAny_alloc ?_)
  refine wpAny_bind (wpAny_layCells _ (fun n k c => rfl) scope.names closure _ _ ?_)
  rw [show ({ s with heap := s.heap.push { cls := .type "dict", data := .dict #[] } } : Shared).heap.objs.size = s.heap.objs.size + 1 from Heap.size_push ..]
  rw [List.forIn_nil]
  exact wpAny_bind (wpAny_pure (wpAny_pure h))
theorem lookup_relS {sc : Scope} : ∀ {names : List (Str × NameKind)} {x : Str} {k : NameKind},
    (names.map fun (n, k) => if (k == NameKind.free && sc.kind == .function && sc.names.lookup n == some .cell) then (n, NameKind.cell) else (n, k)).lookup x = some k →
    ∃ k', names.lookup x = some k' ∧ (k = k' ∨ (k' = .free ∧ k = .cell))
  | [], _, _, h => by simp at h
  | (n, k₀) :: r, x, k, h => by
    have ih := @lookup_relS sc r x k
    have h' : List.lookup x ((if (k₀ == NameKind.free && sc.kind == .function && sc.names.lookup n == some .cell) = true then (n, NameKind.cell) else (n, k₀)) :: (r.map _)) = some k := h
    cases hx : x == n with
    | true =>
      simp only [List.lookup_cons, hx]
      by_cases hc : (k₀ == NameKind.free && sc.kind == .function && sc.names.lookup n == some .cell) = true
      · rw [if_pos hc] at h'
        simp only [List.lookup_cons, hx] at h'
        cases h'
        simp only [Bool.and_eq_true, beq_iff_eq] at hc
        exact ⟨k₀, rfl, .inr ⟨hc.1.1, rfl⟩⟩
      · rw [if_neg hc] at h'
        simp only [List.lookup_cons, hx] at h'
        cases h'
        exact ⟨_, rfl, .inl rfl⟩
    | false =>
      simp only [List.lookup_cons, hx]
      by_cases hc : (k₀ == NameKind.free && sc.kind == .function && sc.names.lookup n == some .cell) = true
      · rw [if_pos hc] at h'
        simp only [List.lookup_cons, hx] at h'
        exact ih h'
      · rw [if_neg hc] at h'
        simp only [List.lookup_cons, hx] at h'
        exact ih h'
structure BlkOk (N : List Str) (sc scope : Scope) (own : List (Str × Nat)) : Prop where
  kind : scope.kind = .function
  uniq : ∀ y ∈ scope.names, scope.names.lookup y.1 = some y.2
  ix : ∀ p ∈ own, N[p.2]? = some p.1
  free : ∀ y ∈ scope.names, y.2 = .free → sc.names.lookup y.1 = some .cell ∨ sc.names.lookup y.1 = some .free
  own : ∀ y ∈ scope.names, y.2 = .local ∨ y.2 = .cell → y.1 ∈ own.map (·.1) ∨ y.1 ∉ N
def wipe (σ : St) : List Nat → St
  | [] => σ
  | v :: vs => (wipe σ vs).set v none
theorem wipe_length (σ : St) : ∀ vs : List Nat, (wipe σ vs).length = σ.length
  | [] => rfl
  | v :: vs => by unfold wipe; rw [List.length_set, wipe_length σ vs]
theorem wipe_some {σ : St} {i : Nat} {x : V} : ∀ {vs : List Nat}, (wipe σ vs)[i]? = some (some x) → σ[i]? = some (some x) ∧ i ∉ vs
  | [], h => ⟨h, by simp⟩
  | v :: vs, h => by
    unfold wipe at h
    by_cases hi : v = i
    · subst hi
      by_cases hv : v < (wipe σ vs).length
      · rw [List.getElem?_set_self hv] at h; cases h
      · rw [List.getElem?_eq_none (by simpa using hv)] at h; cases h
    · rw [List.getElem?_set_ne hi] at h
      obtain ⟨h1, h2⟩ := wipe_some h
      exact ⟨h1, by simp only [List.mem_cons, not_or]; exact ⟨fun e => hi e.symm, h2⟩⟩
abbrev Cx.blk (X : Cx) (s : Shared) (H : Hp) (scope : Scope) (cenv : Env) (fp : List Addr) : Cx := { X with s_0 := s, H_0 := H, env := cenv, outer := X.stack, ex := fp, fn := fun x => scope.names.lookup x == some .cell, pn := [], xe := fun _ _ => False }
section
variable {X : Cx} {pins : List (Addr × Obj)} {σ : St} {H : Hp} {s : Shared}
theorem block_start {scope : Scope} {own : List (Str × Nat)} {fp : List Addr} (I : Inv X pins σ H s) (ok : BlkOk X.N X.env.scope scope own) (hN : X.N.Nodup) (hfp : ∀ b ∈ fp, FpOk X pins H b ∧ b < s.heap.objs.size) :
    Inv (X.blk s H scope (compEnvC scope (cellsFrom (s.heap.objs.size + 1) scope.names (cloFrom X.env.cells scope.names [])) s.heap.objs.size X.env) fp) [] (wipe σ (own.map (·.2))) H { s with heap := pushCells (s.heap.push { cls := .type "dict", data := .dict #[] }) scope.names } := by
  have hfree : ∀ y ∈ scope.names, y.2 = .free → ∃ c, X.env.cells.lookup y.1 = some c := fun y hy e => by
    rcases ok.free y hy e with k | k
    · exact I.ok.has _ (.inl k)
    · exact I.ok.has _ (.inr k)
  generalize hcenv : compEnvC scope (cellsFrom (s.heap.objs.size + 1) scope.names (cloFrom X.env.cells scope.names [])) s.heap.objs.size X.env = cenv
  have kp : ∀ b o, s.heap.get? b = some o → (pushCells (s.heap.push { cls := .type "dict", data := .dict #[] }) scope.names).get? b = some o := fun b o e => pushCells_keeps _ _ _ _ (Heap.get?_push_of_some _ e)
  have hL : cenv.locals = s.heap.objs.size := by rw [← hcenv]; rfl
  have hcl : cenv.cells = cellsFrom (s.heap.objs.size + 1) scope.names (cloFrom X.env.cells scope.names []) := by rw [← hcenv]; rfl
  have hsc : cenv.scope = relS scope X.env.scope := by rw [← hcenv]; rfl
  rw [← Heap.size_push s.heap { cls := .type "dict", data := .dict #[] }] at hcl
  have cm : ∀ {y c}, (y, c) ∈ cloFrom X.env.cells scope.names [] → X.env.cells.lookup y = some c ∧ c < s.heap.objs.size := fun {y c} hm => by
    rcases cloFrom_mem hm with hm | ⟨h1, rfl⟩
    · cases hm
    · obtain ⟨c, hc⟩ := hfree _ h1 rfl
      rw [hc]
      obtain ⟨w, z⟩ := I.cell _ _ hc
      exact ⟨rfl, z.lt⟩
  have mem : ∀ {y c}, cenv.cells.lookup y = some c → (X.env.cells.lookup y = some c ∧ c < s.heap.objs.size) ∨ (s.heap.objs.size + 1 ≤ c ∧ CellAt (pushCells (s.heap.push { cls := .type "dict", data := .dict #[] }) scope.names) c none) := fun {y c} e => by
    rw [hcl] at e
    rcases cells_mem (PySem.mem_of_lookup e) with hm | ⟨_, h2, h3⟩
    · exact .inl (cm hm)
    · rw [Heap.size_push] at h2; exact .inr ⟨h2, h3⟩
  have look : ∀ {y}, scope.names.lookup y = some .free → ∃ c, cenv.cells.lookup y = some c ∧ X.env.cells.lookup y = some c := fun {y} hl => by
    have hy : (y, NameKind.free) ∈ scope.names := PySem.mem_of_lookup hl
    obtain ⟨c', e'⟩ := mem_lookup (cells_acc (names := scope.names) (n := (s.heap.push { cls := .type "dict", data := .dict #[] }).objs.size) (cloFrom_has (cells := X.env.cells) (acc := []) hy))
    rw [← hcl] at e'
    refine ⟨c', e', ?_⟩
    rw [hcl] at e'
    rcases cells_mem (PySem.mem_of_lookup e') with hm | ⟨h1, _, _⟩
    · exact (cm hm).1
    · have := ok.uniq _ h1
      rw [hl] at this; cases this
  have okB : (X.blk s H scope cenv fp).Ok := by
    refine ⟨I.ok.mod, by show cenv.scope.kind = _; rw [hsc]; exact ok.kind, by show cenv.globals = _; rw [← hcenv]; exact I.ok.glob, by show cenv.builtins = _; rw [← hcenv]; exact I.ok.blt, by show s.heap.objs.size ≤ cenv.locals; rw [hL]; exact Nat.le_refl _,
      fun y z c e1 e2 => ?_, fun y hy => ?_, fun y c z e => ?_, I.ok.hd, I.ok.frames, .inl rfl, fun b hb => ⟨?_, fun y c e z => ?_⟩, I.bs, Nat.le_trans I.ok.bsz I.sz, fun b o e hb => ?_, fun b hb z => ?_, I.stack, I.stkFree⟩
    · have e1 : cenv.cells.lookup y = some c := e1
      have e2 : cenv.cells.lookup z = some c := e2
      rw [hcl] at e1 e2
      refine cells_inj (fun p hp => ?_) (fun y z c a b => I.ok.inj y z c (cm a).1 (cm b).1) (PySem.mem_of_lookup e1) (PySem.mem_of_lookup e2)
      rw [Heap.size_push]
      exact Nat.lt_succ_of_lt (cm (y := p.1) (c := p.2) hp).2
    · show ∃ c, cenv.cells.lookup y = some c
      have key : ∀ k, cenv.kindOf y = some k → (k = .cell ∨ k = .free) → ∃ c, cenv.cells.lookup y = some c := fun k hk hk' => by
        unfold Env.kindOf at hk
        rw [hsc] at hk
        obtain ⟨k', e, r⟩ := lookup_relS hk
        have : k' = .cell ∨ k' = .free := by
          rcases r with rfl | ⟨rfl, _⟩
          · exact hk'
          · exact .inr rfl
        rcases this with rfl | rfl
        · obtain ⟨c, hm⟩ := cells_has (n := (s.heap.push { cls := .type "dict", data := .dict #[] }).objs.size) (acc := cloFrom X.env.cells scope.names []) (PySem.mem_of_lookup e)
          obtain ⟨c', e'⟩ := mem_lookup hm
          exact ⟨c', by rw [hcl]; exact e'⟩
        · obtain ⟨c, h1, _⟩ := look e
          exact ⟨c, h1⟩
      rcases hy with hy | hy
      · exact key _ hy (.inl rfl)
      · exact key _ hy (.inr rfl)
    · have z : (scope.names.lookup y == some NameKind.cell) = true := z
      have z : scope.names.lookup y = some .cell := by simpa using z
      have e : cenv.cells.lookup y = some c := e
      rw [hcl] at e
      rcases cells_mem (PySem.mem_of_lookup e) with hm | ⟨_, h2, _⟩
      · rcases cloFrom_mem hm with hm | ⟨h1, _⟩
        · cases hm
        · have q := ok.uniq _ h1
          rw [z] at q; cases q
      · rw [Heap.size_push] at h2
        exact Nat.le_of_succ_le h2
    · show b ≠ cenv.locals
      rw [hL]; exact Nat.ne_of_lt (hfp b hb).2
    · have e : cenv.cells.lookup y = some c := e
      rcases mem e with ⟨h1, _⟩ | ⟨h1, _⟩
      · exact (hfp b hb).1.2.2.2.2.1 y c h1 z
      · have h2 : s.heap.objs.size + 1 ≤ b := by rw [← z]; exact h1
        exact absurd (Nat.lt_of_lt_of_le (hfp b hb).2 (Nat.le_of_succ_le h2)) (Nat.lt_irrefl _)
    · rcases (hfp b hb).1.2.2.2.1 with z | z
      · exact I.ok.noex b o e z
      · exact absurd (Nat.lt_of_lt_of_le (Heap.lt_size e) (Nat.le_trans I.ok.bsz z)) (Nat.lt_irrefl _)
    · rcases List.mem_cons.mp (I.stkSub b z) with z | z
      · exact (hfp b hb).1.2.1 z
      · exact (hfp b hb).1.2.2.1 z
  refine ⟨okB, rfl, I.bare, Un.kept kp, ⟨fun _ => none, ?_, fun i y av e1 e2 e3 => ?_⟩, fun y c e => ?_, ?_, fun y c e => ?_, fun p hp => ?_, I.hok.kept kp, by rw [wipe_length]; exact I.len⟩
  · show Heap.Ns _ cenv.locals _
    rw [hL]
    exact Heap.Ns.keeps (Heap.Ns.new ..) fun b o e => pushCells_keeps _ _ _ _ e
  · obtain ⟨e2, hne⟩ := wipe_some e2
    have hfr : scope.names.lookup y = some .free ∧ (cenv.kindOf y = some .cell ∨ cenv.kindOf y = some .free) := by
      have key : ∀ k, cenv.scope.names.lookup y = some k → k = .local ∨ k = .cell ∨ k = .free → scope.names.lookup y = some .free ∧ (cenv.kindOf y = some .cell ∨ cenv.kindOf y = some .free) := fun k hk hk' => by
        have hk0 := hk
        rw [hsc] at hk
        obtain ⟨k', e, r⟩ := lookup_relS hk
        have no : ¬ (k' = .local ∨ k' = .cell) := fun hh => by
          rcases ok.own _ (PySem.mem_of_lookup e) hh with e' | e'
          · obtain ⟨p, hp, hpy⟩ := List.mem_map.mp e'
            have e3 := ok.ix p hp
            have : p.1 = y := hpy
            rw [this] at e3
            exact hne (List.mem_map.mpr ⟨p, hp, nodup_ix hN e3 e1⟩)
          · exact e' (List.mem_of_getElem? e1)
        rcases r with rfl | ⟨rfl, rfl⟩
        · rcases hk' with rfl | rfl | rfl
          · exact absurd (.inl rfl) no
          · exact absurd (.inr rfl) no
          · exact ⟨e, .inr hk0⟩
        · exact ⟨e, .inl hk0⟩
      have e3 : Vis cenv.scope y := e3
      rcases e3 with e3 | e3 | e3
      · exact key _ e3 (.inl rfl)
      · exact key _ e3 (.inr (.inl rfl))
      · exact key _ e3 (.inr (.inr rfl))
    obtain ⟨m, hn, hl⟩ := I.loc
    have hvis : Vis X.env.scope y := (ok.free _ (PySem.mem_of_lookup hfr.1) rfl).elim (fun k => .inr (.inl k)) (fun k => .inr (.inr k))
    obtain ⟨w, r, q⟩ := hl i y av e1 e2 hvis
    refine ⟨w, r, .inr ⟨hfr.2, ?_⟩⟩
    obtain ⟨c, h1, h2⟩ := look hfr.1
    rcases q with ⟨k, _⟩ | ⟨_, c', e', z⟩
    · have k : X.env.scope.names.lookup y = some .local := k
      rcases ok.free _ (PySem.mem_of_lookup hfr.1) rfl with k' | k' <;> rw [show X.env.scope.names.lookup y = _ from k'] at k <;> cases k
    · rw [h2] at e'; cases e'
      exact ⟨c, h1, z.keeps kp⟩
  · have e : cenv.cells.lookup y = some c := e
    rcases mem e with ⟨h1, _⟩ | ⟨_, z⟩
    · obtain ⟨w, z⟩ := I.cell y c h1
      exact ⟨w, z.keeps kp⟩
    · exact ⟨_, z⟩
  · show H cenv.locals = none
    rw [hL]; exact I.hok.fresh (Nat.le_refl _)
  · have e : cenv.cells.lookup y = some c := e
    rcases mem e with ⟨h1, _⟩ | ⟨h1, _⟩
    · exact I.freeC y c h1
    · exact I.hok.fresh (Nat.le_of_succ_le h1)
  · exact absurd (show p ∈ ([] : List (Addr × Obj)) ++ [] from hp) (by simp)
theorem app_ok {E : Value → Shared → Prop} {D : Addr} {xs : List V} {y : V} {v : Value} {Q : Value → Shared → Prop} (I : Inv X pins σ H s) (hD : H D = some (.lst xs)) (hz : xs.length < sizeLine) (r : RelV y v)
    (h : ∀ s', Inv X pins σ (upd H D (.lst (xs ++ [y]))) s' → Q .none s') : wpAny (model X.prog X.w) X.A (call (.builtin "list.append") [.ref D, v]) Q E s := by
  obtain ⟨hz', its, n, ri, e⟩ := I.hok D _ hD
  have hl := ri.length
  refine append_at (hsz := by rw [List.size_toArray]; omega) e fun h' sb ho' => ?_
  refine h { s with heap := h' } (I.write (t' := s.toks) (by rw [hD]; trivial) (.inl rfl) (fun b u hb q => (sb.2 b hb).trans q) ⟨_, ho'⟩ ⟨by rw [List.length_append]; exact hz, its ++ [v], n + 1, ri.append (.cons r .nil), ?_⟩)
  rw [ho']
  simp
def PTs (X : Cx) (ifs : List Expr) (t : TT) : Prop :=
  ∀ (pins : List (Addr × Obj)) (s : Shared) (σ : St) (H : Hp) (Q : Bool → Hp → Prop), Inv X pins σ H s → t σ H Q →
    wpAny (model X.prog X.w) X.A (forIn ifs true fun c r => if r = true then do let ok ← isTrue c X.env (eval c X.env); pure (ForInStep.yield ok) else pure (ForInStep.yield r)) (TP X pins σ Q) X.xe s
def tYes : TT := fun _ H Q => Q true H
theorem pts_nil : PTs X [] tYes := fun _ _ _ H _ I h => wpAny_tests_nil ⟨H, I, h⟩
end
theorem thnF {α : Type} {t : Sem α} {Q Q' : α → Shared → Prop} {M : Model} {A : Around} {E : Value → Shared → Prop} {s : Shared} (h : wpAny M A t Q (fun _ _ => False) s) (hQ : ∀ a s, Q a s → Q' a s) : wpAny M A t Q' E s := wpAny_mono h hQ fun _ _ z => False.elim z
theorem compLoop_any {prog : Program} {w : World} {A : Around} {R : Result → Shared → Prop} {s : Shared} {elt target iter : Expr} {ifs : List Expr} {scope : Scope} {pos : Pos} {it acc : Value} {env : Env} (I : Nat → Shared → Prop)
    (turn : ∀ n s, I n s → wpAny (model prog w) A (pyNext it) (fun r s₁ => match r with
      | none => R (.ok .next) s₁
      | some v => wpAny (model prog w) A (letOwnedTupleGo target it v) (fun _ s₁' => wpAny (model prog w) A (assign target env v) (fun _ s₂ =>
          wpAny (model prog w) A (forIn ifs true fun c r => if r = true then do let ok ← isTrue c env (eval c env); pure (ForInStep.yield ok) else pure (ForInStep.yield r)) (fun ok s₃ =>
            if ok = true then wpAny (model prog w) A (eval elt env) (fun x s₄ =>
              wpAny (model prog w) A (call (.builtin "list.append") [acc, x]) (fun _ s₅ => ∃ m, m < n ∧ I m s₅) (notedBy (model prog w) A env fun e s' => R (.error e) s') s₄) (notedBy (model prog w) A env fun e s' => R (.error e) s') s₃
            else ∃ m, m < n ∧ I m s₃) (notedBy (model prog w) A env fun e s' => R (.error e) s') s₂) (notedBy (model prog w) A env fun e s' => R (.error e) s') s₁') (notedBy (model prog w) A env fun e s' => R (.error e) s') s₁) (notedBy (model prog w) A env fun e s' => R (.error e) s') s)
    (n : Nat) (h : I n s) :
    codeAny (model prog w) A (.compLoop (.ListComp elt [⟨target, iter, ifs, 0⟩] scope pos) 0 it acc env) R s := by
  refine codeAny_loop rfl I (fun n s hI => ?_) n h
  show wpAny _ A ((compTurn (.ListComp elt [⟨target, iter, ifs, 0⟩] scope pos) 0 it acc env).onRaise (fun x => do noteFrame x env; theTreesLotGoes x)) _ _ s
  refine wpAny_noted ?_
  rw [compTurn_list]
  refine wpAny_bind (wpAny_standAt (wpAny_bind (wpAny_mono (turn n s hI) (fun r s₁ h₁ => ?_) fun _ _ h' => h')))
  cases r with
  | none => exact wpAny_pure h₁
  | some v =>
    refine wpAny_bind (wpAny_mono h₁ (fun _ s₁' h₁' => ?_) fun _ _ h' => h')
    refine wpAny_bind (wpAny_mono h₁' (fun _ s₂ h₂ => wpAny_bind (wpAny_mono h₂ (fun ok s₃ h₃ => ?_) fun _ _ h' => h')) fun _ _ h' => h')
    cases ok with
    | false => exact wpAny_pure ⟨rfl, h₃⟩
    | true =>
      exact wpAny_bind (wpAny_bind (wpAny_mono h₃ (fun x s₄ h₄ => wpAny_bind (wpAny_mono h₄ (fun _ s₅ h₅ => wpAny_pure (wpAny_pure ⟨rfl, h₅⟩)) fun _ _ h' => h')) fun _ _ h' => h'))
section
variable {X : Cx}
def tLc (wi : TI) (g : TG) (tt : TT) (te : TE) (vs : List Nat) : TE := fun σ H Q => wi σ H fun J H1 => ∀ D, H1 D = none → ∃ W : Nat → Nat → Hp → Prop, (∃ m, W 0 m (upd H1 D (.lst []))) ∧ ∀ i m H, W i m H →
  (J.stop i H ∧ Q (.ref D) H) ∨ (J.go i H ∧ ∃ Nx : Hp → Prop, (∀ H', Nx H' → ∃ m', m' < m ∧ W (i + 1) m' H') ∧ ∀ x H', J.yld i H x H' → g x (wipe σ vs) H' fun σ2 H2 => wipe σ2 vs = wipe σ vs ∧ tt σ2 H2 fun b H3 =>
    if b = true then te σ2 H3 fun y H4 => ∃ acc, H4 D = some (.lst acc) ∧ acc.length < sizeLine ∧ Nx (upd H4 D (.lst (acc ++ [y]))) else Nx H3)
theorem lc_core {pins : List (Addr × Obj)} {s : Shared} {σ : St} {H : Hp} {Q : VK} {elt tg iter : Expr} {ifs : List Expr} {scope : Scope} {own : List (Str × Nat)} {pos pos' : Pos} {wi : TI} {g : TG} {tt : TT} {te : TE} {use : Option (Value → Sem Unit)} {Qf : Value → Shared → Prop}
    (hc : X.calm = true) (hN : X.N.Nodup) (I : Inv X pins σ H s) (hi : PI X tg iter wi) (ok : BlkOk X.N X.env.scope scope own)
    (hg : ∀ (s : Shared) (H : Hp) (C : Addr) (cl : List (Str × Addr)) (fp : List Addr), PG (X.blk s H scope (compEnvC scope cl C X.env) fp) tg g) (ht : ∀ (s : Shared) (H : Hp) (C : Addr) (cl : List (Str × Addr)) (fp : List Addr), PTs (X.blk s H scope (compEnvC scope cl C X.env) fp) ifs tt)
    (he : ∀ (s : Shared) (H : Hp) (C : Addr) (cl : List (Str × Addr)) (fp : List Addr), PE (X.blk s H scope (compEnvC scope cl C X.env) fp) elt te) (hs : ∀ x, foldedSetIterable iter X.env x = pure x)
    (h : tLc wi g tt te (own.map (·.2)) σ H Q)
    (hRR : ∀ D C s' m H', Inv X pins σ H' s' → Q (.ref D) H' → s'.heap.Ns C m → FpOk X pins H' C → compPost (model X.prog X.w) X.A X.xe use Qf (.ref D) C (.ok .next) s') :
    wpAny (model X.prog X.w) X.A (comprehension (.ListComp elt [⟨tg, iter, ifs, 0⟩] scope pos) scope X.env pos' (newList []) false (eval iter X.env) use) Qf X.xe s := by
  have hfree : ∀ y ∈ scope.names, y.2 = .free → ∃ c, X.env.cells.lookup y.1 = some c := fun y hy e => by
    rcases ok.free y hy e with k | k
    · exact I.ok.has _ (.inl k)
    · exact I.ok.has _ (.inr k)
  refine wpAny_comprehension_free (use := use) rfl hs (closure_ok hfree) ok.kind (fun y hy e => by rw [ok.uniq y hy, e])
    (thn (hi pins s σ H _ I h) fun xv s1 hx => thn hx fun itv s2 h2 => ?_)
  obtain ⟨it, fp, tn, J, H2, e, I2, T, st2, f2, q⟩ := h2
  subst e
  refine wpAny_newObj_type (newEnv_comp ?_) (by show 0 ≤ sizeLine; decide)
  generalize hD : s2.heap.objs.size = D
  have hDn : H2 D = none := I2.hok.fresh (Nat.le_of_eq hD)
  obtain ⟨W, ⟨m0, w0⟩, turn⟩ := q D hDn
  -- the new list
  generalize hs3 : ({ s2 with heap := s2.heap.push { cls := .type "list", data := .seq ([] : List Value).toArray } } : Shared) = s3
  have I3 : Inv X pins σ (upd H2 D (.lst [])) s3 := by
    rw [← hs3]
    refine I2.laid (t' := s2.toks) (fun b o e => Heap.get?_push_of_some _ e) (Nat.le_of_eq hD) ⟨Nat.zero_le _, [], 0, .nil, ?_⟩
    rw [← hD]
    exact Heap.get?_push_size _ rfl
  have h3 : s3.heap = s2.heap.push { cls := .type "list", data := .seq ([] : List Value).toArray } := by rw [← hs3]
  have sz : ∀ b ∈ fp, b < s2.heap.objs.size := fun b hb => by
    obtain ⟨o, e, _⟩ := T.obj _ _ st2 b hb
    exact Heap.lt_size e
  have f3 : ∀ b ∈ fp, FpOk X pins (upd H2 D (.lst [])) b ∧ b < s3.heap.objs.size := fun b hb => by
    have hlt := sz b hb
    refine ⟨⟨?_, (f2 b hb).2⟩, by rw [h3, Heap.size_push]; exact Nat.lt_succ_of_lt hlt⟩
    rw [upd_ne (by rw [← hD]; exact Nat.ne_of_lt hlt)]
    exact (f2 b hb).1
  have st3 : tn 0 s3.heap := T.keep _ _ _ st2 fun b _ o e => by rw [h3]; exact Heap.get?_push_of_some _ e
  have I4 := block_start I3 ok hN f3
  have pg := hg s3 (upd H2 D (.lst [])) s3.heap.objs.size (cellsFrom (s3.heap.objs.size + 1) scope.names (cloFrom X.env.cells scope.names [])) fp
  have pt := ht s3 (upd H2 D (.lst [])) s3.heap.objs.size (cellsFrom (s3.heap.objs.size + 1) scope.names (cloFrom X.env.cells scope.names [])) fp
  have pe := he s3 (upd H2 D (.lst [])) s3.heap.objs.size (cellsFrom (s3.heap.objs.size + 1) scope.names (cloFrom X.env.cells scope.names [])) fp
  show codeAny _ _ (.compStart (.ListComp elt [⟨tg, iter, ifs, 0⟩] scope pos) 0 (.ref it) (.ref D) (compEnvC scope (cellsFrom (s3.heap.objs.size + 1) scope.names (cloFrom X.env.cells scope.names [])) s3.heap.objs.size X.env)) (compPost (model X.prog X.w) X.A X.xe use Qf (.ref D) s3.heap.objs.size) { s3 with heap := pushCells (s3.heap.push { cls := .type "dict", data := .dict #[] }) scope.names }
  have nfp : ∀ b ∈ fp, (upd H2 D (.lst [])) b = none := fun b hb => (f3 b hb).1.1
  generalize hce : compEnvC scope (cellsFrom (s3.heap.objs.size + 1) scope.names (cloFrom X.env.cells scope.names [])) s3.heap.objs.size X.env = ce at I4 pg pt pe ⊢
  have cL : ce.locals = s3.heap.objs.size := by subst hce; rfl
  generalize hH3 : upd H2 D (.lst []) = H3 at I3 I4 pg pt pe w0 nfp f3
  generalize hs4 : ({ s3 with heap := pushCells (s3.heap.push { cls := .type "dict", data := .dict #[] }) scope.names } : Shared) = s4 at I4 ⊢
  have st4 : tn 0 s4.heap := T.keep _ _ _ st3 fun b _ o e => by rw [← hs4]; exact pushCells_keeps _ _ _ _ (Heap.get?_push_of_some _ e)
  have stat : ∀ {σ' : St} {H' : Hp} {s' : Shared}, Inv (X.blk s3 H3 scope ce fp) [] σ' H' s' → (∀ b ∈ fp, H' b = none) → ∀ b ∈ fp, FpOk (X.blk s3 H3 scope ce fp) [] H' b := fun {σ' H' s'} I' hn b hb =>
    ⟨hn b hb, (I'.ok.exf b hb).1, I'.ok.exfs b hb, .inl hb, fun x c e => (I'.ok.exf b hb).2 x c e, fun p hp => absurd (show p ∈ ([] : List (Addr × Obj)) ++ [] from hp) (by simp)⟩
  have loop : codeAny (model X.prog X.w) X.A (.compLoop (.ListComp elt [⟨tg, iter, ifs, 0⟩] scope pos) 0 (.ref it) (.ref D) ce) (compPost (model X.prog X.w) X.A X.xe use Qf (.ref D) s3.heap.objs.size) s4 := by
    refine compLoop_any (fun n s' => ∃ i H', Inv (X.blk s3 H3 scope ce fp) [] (wipe σ (own.map (·.2))) H' s' ∧ tn i s'.heap ∧ (∀ b ∈ fp, H' b = none) ∧ W i n H') ?_ m0 ⟨0, H3, I4, st4, nfp, w0⟩
    rintro n s5 ⟨i, H5, I5, st5, n5, w5⟩
    rcases turn i n H5 w5 with ⟨stop, qq⟩ | ⟨go, Nx, hNx, step⟩
    · have td := T.done (X.blk s3 H3 scope ce fp) rfl rfl rfl hc i [] s5 _ H5 (fun _ _ => False) I5 (stat I5 n5) st5 stop
      refine thnF td fun r s6 ⟨hr, I6⟩ => ?_
      subst hr
      -- back in the def's context
      have I7 : Inv X pins σ H5 s6 := I3.call' (ch := fp) I6.os I6.base I6.hok I6.bare fun b hb => ⟨(f3 b hb).1.2.2.2.1, (f3 b hb).1.2.1, (f3 b hb).1.2.2.2.2.1, (f3 b hb).1.2.2.2.2.2⟩
      have nC : H5 s3.heap.objs.size = none := by
        have z : H5 ce.locals = none := I6.free
        rw [cL] at z
        exact z
      obtain ⟨m, hn, _⟩ := I6.loc
      have hn : s6.heap.Ns ce.locals m := hn
      rw [cL] at hn
      exact hRR D s3.heap.objs.size s6 m H5 I7 qq hn (I3.fpOk (Nat.le_refl _) nC)
    · have ti := T.item (X.blk s3 H3 scope ce fp) rfl rfl rfl hc i [] s5 _ H5 (fun _ _ => False) I5 (stat I5 n5) st5 go
      refine thnF ti fun r s6 ⟨u, hr, h6⟩ => ?_
      subst hr
      refine thnF h6 fun _ s7 ⟨x, H7, I7, r7, y7, st7, n7⟩ => ?_
      have I7' := I7.pinned (stat I7 n7) (T.obj _ _ st7)
      refine thnF (pg _ s7 _ H7 x u _ I7' r7 (step x H7 y7)) fun _ s8 ⟨σ8, H8, I8, hw8, q8⟩ => ?_
      refine thnF (pt _ s8 σ8 H8 _ I8 q8) fun b s9 ⟨H9, I9, q9⟩ => ?_
      -- the turn's end
      have fin : ∀ {s' : Shared} {H' : Hp}, Inv (X.blk s3 H3 scope ce fp) ([] ++ pinsAt fp s7.heap) σ8 H' s' → Nx H' → ∃ m, m < n ∧ ∃ i H', Inv (X.blk s3 H3 scope ce fp) [] (wipe σ (own.map (·.2))) H' s' ∧ tn i s'.heap ∧ (∀ b ∈ fp, H' b = none) ∧ W i m H' := fun {s' H'} I' nx => by
        obtain ⟨m', hm, w'⟩ := hNx H' nx
        have pin' : ∀ b ∈ fp, ∀ o, s7.heap.get? b = some o → s'.heap.get? b = some o ∧ H' b = none := fun b hb o e =>
          let z := I'.pin (b, o) (List.mem_append_right _ (List.mem_append_right _ (mem_pinsAt hb e)))
          ⟨z.1, z.2.1⟩
        have hl : (wipe σ (own.map (·.2))).length = σ8.length := by rw [← hw8, wipe_length]
        refine ⟨m', hm, i + 1, H', (I'.unpinned (pins := [])).weak hl (fun j v e => ?_), T.keep _ _ _ st7 fun b hb o e => (pin' b hb o e).1, fun b hb => ?_, w'⟩
        · rw [← hw8] at e
          exact (wipe_some e).1
        · obtain ⟨o, e, _⟩ := T.obj _ _ st7 b hb
          exact (pin' b hb o e).2
      cases b with
      | false =>
        simp only [Bool.false_eq_true, if_false] at q9 ⊢
        exact fin I9 q9
      | true =>
        simp only [if_true] at q9 ⊢
        refine thnF (pe _ s9 σ8 H9 _ I9 q9) fun z s10 ⟨yv, H10, I10, r10, acc, hD10, hz10, nx⟩ => ?_
        exact app_ok (X := X.blk s3 H3 scope ce fp) I10 hD10 hz10 r10 fun s11 I11 => fin I11 nx
  exact codeAny_compStart_list loop (T.self X.A 0 _ _ _ st4 loop)
theorem pe_lc {elt tg iter : Expr} {ifs : List Expr} {scope : Scope} {own : List (Str × Nat)} {pos : Pos} {wi : TI} {g : TG} {tt : TT} {te : TE} (hc : X.calm = true) (hN : X.N.Nodup) (hi : PI X tg iter wi) (ok : BlkOk X.N X.env.scope scope own)
    (hg : ∀ (s : Shared) (H : Hp) (C : Addr) (cl : List (Str × Addr)) (fp : List Addr), PG (X.blk s H scope (compEnvC scope cl C X.env) fp) tg g) (ht : ∀ (s : Shared) (H : Hp) (C : Addr) (cl : List (Str × Addr)) (fp : List Addr), PTs (X.blk s H scope (compEnvC scope cl C X.env) fp) ifs tt)
    (he : ∀ (s : Shared) (H : Hp) (C : Addr) (cl : List (Str × Addr)) (fp : List Addr), PE (X.blk s H scope (compEnvC scope cl C X.env) fp) elt te) (hs : ∀ x, foldedSetIterable iter X.env x = pure x := by intro _; rfl) :
    PE X (.ListComp elt [⟨tg, iter, ifs, 0⟩] scope pos) (tLc wi g tt te (own.map (·.2))) := by
  intro pins s σ H Q I h
  rw [eval_ListComp]
  refine lc_core hc hN I hi ok hg ht he hs h fun D C s' m H' I' q hn f => ⟨m, hn, fun h'' sb => ?_⟩
  obtain ⟨f0, f1, f2, f3, f4, f5⟩ := f
  exact ⟨.ref D, H', I'.turned (t' := s'.toks) (fun b o hb e => (sb.2 b hb).trans e) f0 f1 f3 f4 f5, rfl, q⟩
theorem ps_setLc {i : Nat} {y : Str} {py : Pos} {elt tg iter : Expr} {ifs : List Expr} {scope : Scope} {own : List (Str × Nat)} {pos spos : Pos} {wi : TI} {g : TG} {tt : TT} {te : TE} (hc : X.calm = true) (hN : X.N.Nodup) (hy : X.N[i]? = some y) (hyl : X.env.scope.names.lookup y = some .local)
    (hsw : swapsWith (.ListComp elt [⟨tg, iter, ifs, 0⟩] scope pos) (some (.Name y py)) spos.line X.env = pure true) (hi : PI X tg iter wi) (ok : BlkOk X.N X.env.scope scope own)
    (hg : ∀ (s : Shared) (H : Hp) (C : Addr) (cl : List (Str × Addr)) (fp : List Addr), PG (X.blk s H scope (compEnvC scope cl C X.env) fp) tg g) (ht : ∀ (s : Shared) (H : Hp) (C : Addr) (cl : List (Str × Addr)) (fp : List Addr), PTs (X.blk s H scope (compEnvC scope cl C X.env) fp) ifs tt)
    (he : ∀ (s : Shared) (H : Hp) (C : Addr) (cl : List (Str × Addr)) (fp : List Addr), PE (X.blk s H scope (compEnvC scope cl C X.env) fp) elt te) (hs : ∀ x, foldedSetIterable iter X.env x = pure x := by intro _; rfl) :
    PS X (.Assign [.Name y py] (.ListComp elt [⟨tg, iter, ifs, 0⟩] scope pos) spos) (tAsg (tLc wi g tt te (own.map (·.2))) (gName i)) := by
  intro pins s σ H D I h
  rw [exec_Assign_Name_used _ _ _ _ hsw]
  refine wpAny_bind (wpAny_standAt (wpAny_bind ?_))
  show wpAny _ X.A (do let _ ← comprehension (.ListComp elt [⟨tg, iter, ifs, 0⟩] scope pos) scope X.env (firstIterPos [⟨tg, iter, ifs, 0⟩] pos) (newList []) false (eval iter X.env) (some (assign (.Name y py) X.env))) _ _ s
  have h : tLc wi g tt te (own.map (·.2)) σ H (fun x H1 => gName i x σ H1 D.nx) := h
  refine wpAny_bind (thn (lc_core (Qf := fun _ s' => SP X pins D .next s') hc hN I hi ok hg ht he hs h fun L C s' m H' I' q hn f => ?_) fun _ s' hq => wpAny_pure (wpAny_pure hq))
  show wpAny _ _ (assign (.Name y py) X.env (.ref L)) _ _ _
  refine wpAny_assign_Name (store_ok2 (v := V.ref L) I' hN hy (.inl hyl) rfl (fun s2 I2 ⟨a, sb, ha⟩ => ?_) (.inr hyl))
  obtain ⟨f0, f1, f2, f3, f4, f5⟩ := f
  have haC : C ≠ a := by
    rcases ha with z | z
    · rw [z]; exact f1
    · exact fun e => f4 y a z e.symm
  refine ⟨m, hn.sameBut sb haC, fun h3 sb3 => ?_⟩
  exact ⟨_, H', I2.turned (t' := s2.toks) (fun b o hb e => (sb3.2 b hb).trans e) f0 f1 f3 f4 f5, q⟩
end
theorem lc_range {lo : Int} {n : Nat} {g : TG} {tt : TT} {te : TE} {vs : List Nat} {σ : St} {H1 : Hp} {D : Addr} {Qd : Hp → Prop} (Pv : Nat → Hp → Prop) (h0 : Pv 0 (upd H1 D (.lst [])))
    (hs : ∀ i H, i < n → Pv i H → g (.int (lo + i)) (wipe σ vs) H fun σ2 H2 => wipe σ2 vs = wipe σ vs ∧ tt σ2 H2 fun b H3 =>
      if b = true then te σ2 H3 fun y H4 => ∃ acc, H4 D = some (.lst acc) ∧ acc.length < sizeLine ∧ Pv (i + 1) (upd H4 D (.lst (acc ++ [y]))) else Pv (i + 1) H3) (hd : ∀ H, Pv n H → Qd H) :
    ∃ W : Nat → Nat → Hp → Prop, (∃ m, W 0 m (upd H1 D (.lst []))) ∧ ∀ i m H, W i m H →
      ((Itr lo n).stop i H ∧ Qd H) ∨ ((Itr lo n).go i H ∧ ∃ Nx : Hp → Prop, (∀ H', Nx H' → ∃ m', m' < m ∧ W (i + 1) m' H') ∧ ∀ x H', (Itr lo n).yld i H x H' → g x (wipe σ vs) H' fun σ2 H2 => wipe σ2 vs = wipe σ vs ∧ tt σ2 H2 fun b H3 =>
        if b = true then te σ2 H3 fun y H4 => ∃ acc, H4 D = some (.lst acc) ∧ acc.length < sizeLine ∧ Nx (upd H4 D (.lst (acc ++ [y]))) else Nx H3) := by
  refine ⟨fun i m H => m = n - i ∧ i ≤ n ∧ Pv i H, ⟨n, by simp, Nat.zero_le _, h0⟩, ?_⟩
  rintro i m H ⟨rfl, hi, p⟩
  by_cases hlt : i < n
  · refine .inr ⟨hlt, Pv (i + 1), fun H' p' => ⟨n - (i + 1), by omega, rfl, hlt, p'⟩, fun x H' y => ?_⟩
    obtain ⟨e, y⟩ := y
    subst e y
    exact hs i _ hlt p
  · have e : i = n := by omega
    subst e
    exact .inl ⟨Nat.le_refl _, hd H p⟩
theorem lc_list {K : PySem.W.Frag} {a : Addr} {xs : List V} {g : TG} {tt : TT} {te : TE} {vs : List Nat} {σ : St} {H1 : Hp} {D : Addr} {Qd : Hp → Prop} (Pv : Nat → Hp → Prop) (h0 : Pv 0 (upd H1 D (.lst []))) (hl : ∀ i H, i ≤ xs.length → Pv i H → SqL K H a xs)
    (hs : ∀ i x H, xs[i]? = some x → Pv i H → g x (wipe σ vs) H fun σ2 H2 => wipe σ2 vs = wipe σ vs ∧ tt σ2 H2 fun b H3 =>
      if b = true then te σ2 H3 fun y H4 => ∃ acc, H4 D = some (.lst acc) ∧ acc.length < sizeLine ∧ Pv (i + 1) (upd H4 D (.lst (acc ++ [y]))) else Pv (i + 1) H3) (hd : ∀ H, Pv xs.length H → Qd H) :
    ∃ W : Nat → Nat → Hp → Prop, (∃ m, W 0 m (upd H1 D (.lst []))) ∧ ∀ i m H, W i m H →
      ((Itl K a).stop i H ∧ Qd H) ∨ ((Itl K a).go i H ∧ ∃ Nx : Hp → Prop, (∀ H', Nx H' → ∃ m', m' < m ∧ W (i + 1) m' H') ∧ ∀ x H', (Itl K a).yld i H x H' → g x (wipe σ vs) H' fun σ2 H2 => wipe σ2 vs = wipe σ vs ∧ tt σ2 H2 fun b H3 =>
        if b = true then te σ2 H3 fun y H4 => ∃ acc, H4 D = some (.lst acc) ∧ acc.length < sizeLine ∧ Nx (upd H4 D (.lst (acc ++ [y]))) else Nx H3) := by
  refine ⟨fun i m H => m = xs.length - i ∧ i ≤ xs.length ∧ Pv i H, ⟨xs.length, by simp, Nat.zero_le _, h0⟩, ?_⟩
  rintro i m H ⟨rfl, hi, p⟩
  have q := hl i H hi p
  by_cases hlt : i < xs.length
  · refine .inr ⟨⟨xs, xs[i], q, by simp [hlt]⟩, Pv (i + 1), fun H' p' => ⟨xs.length - (i + 1), by omega, rfl, hlt, p'⟩, fun x H' y => ?_⟩
    obtain ⟨e, y⟩ := y
    subst e
    exact hs i x _ (y xs q) p
  · have e : i = xs.length := by omega
    subst e
    exact .inl ⟨⟨xs, q, Nat.le_refl _⟩, hd H p⟩
def blkC (N : List Str) (sc scope : Scope) (own : List (Str × Nat)) : Bool :=
  (match scope.kind with | .function => true | _ => false) && (scope.names.all fun y => decide (scope.names.lookup y.1 = some y.2)) && (own.all fun p => decide (N[p.2]? = some p.1)) &&
    (scope.names.all fun y => match y.2 with
      | .free => (match sc.names.lookup y.1 with | some .cell => true | some .free => true | _ => false)
      | .local => decide (y.1 ∈ own.map (·.1)) || decide (y.1 ∉ N)
      | .cell => decide (y.1 ∈ own.map (·.1)) || decide (y.1 ∉ N)
      | _ => true)
theorem blkOk_by {N : List Str} {sc scope : Scope} {own : List (Str × Nat)} (h : blkC N sc scope own = true) : BlkOk N sc scope own := by
  unfold blkC at h
  simp only [Bool.and_eq_true, List.all_eq_true, decide_eq_true_eq] at h
  obtain ⟨⟨⟨h1, h2⟩, h3⟩, h4⟩ := h
  refine ⟨?_, h2, h3, fun y hy e => ?_, fun y hy e => ?_⟩
  · split at h1
    · assumption
    · cases h1
  · have q := h4 y hy
    simp only [e] at q
    split at q <;> first | exact .inl (by assumption) | exact .inr (by assumption) | cases q
  · have q := h4 y hy
    rcases e with e | e <;> (simp only [e, Bool.or_eq_true, decide_eq_true_eq] at q; exact q)
end L2
namespace L2
open PySem PySem.Spec PyProof.Rows
section
variable {prog : Program} {w : World} {A : Around} {R : Result → Shared → Prop} {s : Shared} {elt t0 i0 t1 i1 : Expr} {ifs0 ifs1 : List Expr} {scope : Scope} {pos : Pos} {it acc : Value} {env : Env}
end
section
variable {X : Cx}
def tLc2 (wi : TI) (g : TG) (tt : TT) (wi1 : TI) (g1 : TG) (tt1 : TT) (te : TE) (vs vs1 : List Nat) : TE := fun σ H Q => wi σ H fun J H1 => ∀ D, H1 D = none → ∃ W : Nat → Nat → Hp → Prop, (∃ m, W 0 m (upd H1 D (.lst []))) ∧ ∀ i m H, W i m H →
  (J.stop i H ∧ Q (.ref D) H) ∨ (J.go i H ∧ ∃ Nx : Hp → Prop, (∀ H', Nx H' → ∃ m', m' < m ∧ W (i + 1) m' H') ∧ ∀ x H', J.yld i H x H' → g x (wipe σ vs) H' fun σ2 H2 => wipe σ2 vs = wipe σ vs ∧ tt σ2 H2 fun b H3 =>
    if b = true then wi1 σ2 H3 fun J1 H4 => ∃ W1 : Nat → Nat → Hp → Prop, (∃ m, W1 0 m H4) ∧ ∀ j k H, W1 j k H →
      (J1.stop j H ∧ Nx H) ∨ (J1.go j H ∧ ∃ Nx1 : Hp → Prop, (∀ H', Nx1 H' → ∃ k', k' < k ∧ W1 (j + 1) k' H') ∧ ∀ x H', J1.yld j H x H' → g1 x (wipe σ2 vs1) H' fun σ3 H5 => wipe σ3 vs1 = wipe σ2 vs1 ∧ tt1 σ3 H5 fun b H6 =>
        if b = true then te σ3 H6 fun y H7 => ∃ acc, H7 D = some (.lst acc) ∧ acc.length < sizeLine ∧ Nx1 (upd H7 D (.lst (acc ++ [y]))) else Nx1 H6)
    else Nx H3)
end
end L2
namespace L2
open PySem PySem.Spec PyProof.Rows
section
variable {κ : Type} [DecidableEq κ]
def valV (kvs : List (κ × V)) (k : κ) : Option V := (kvs.find? fun kv => decide (kv.1 = k)).map (·.2)
def putK (kvs : List (κ × V)) (k : κ) (v : V) : List (κ × V) :=
  if (kvs.any fun kv => decide (kv.1 = k)) = true then kvs.map (fun kv => if kv.1 = k then (kv.1, v) else kv) else kvs ++ [(k, v)]
def dropK (kvs : List (κ × V)) (k : κ) : List (κ × V) := kvs.filter fun kv => decide (kv.1 ≠ k)
end
abbrev KT (H : Hp) : List (List Key × V) → List (List Key × Addr × Value) → Prop := Paired fun p q => p.1 = q.1 ∧ H q.2.1 = some (.tup (p.1.map kV)) ∧ RelV p.2 q.2.2
section
variable {P : Program} {w : World} {H : Hp} {h : Heap} {a : Addr}
end
def DGet (H : Hp) (a : Addr) (y : V) (r : Option V) : Prop :=
  (∃ kvs k, Rd H a (.dK kvs) ∧ y = kV k ∧ r = valV kvs k) ∨ ∃ kvs k b, Rd H a (.dT kvs) ∧ y = .ref b ∧ H b = some (.tup (k.map kV)) ∧ r = valV kvs k
def DPut (H : Hp) (a : Addr) (y v : V) (H' : Hp) : Prop :=
  (∃ kvs k, H a = some (.dK kvs) ∧ y = kV k ∧ kvs.length < sizeLine ∧ H' = upd H a (.dK (putK kvs k v))) ∨
  ∃ kvs k b, H a = some (.dT kvs) ∧ y = .ref b ∧ H b = some (.tup (k.map kV)) ∧ kvs.length < sizeLine ∧ H' = upd H a (.dT (putK kvs k v))
section
variable {X : Cx} {pins : List (Addr × Obj)} {σ : St} {H : Hp} {s : Shared} {a : Addr} {y v : V} {u r : Value} {o : Option V} {A : Around} {E : Value → Shared → Prop}
end
section
variable {X : Cx} {pins : List (Addr × Obj)} {σ : St} {H : Hp} {s : Shared} {a : Addr} {kvs : List (Key × V)} {k : Key} {u : Value} {A : Around} {E : Value → Shared → Prop}
end
def NoSl (i : Expr) : Prop := ∀ ov iv, subscripted i false ov iv = operate [ov, iv] (getItem ov iv)
def tDGet (td ty : TE) : TE := fun σ H Q => td σ H fun x H1 => ty σ H1 fun y H2 => ∃ a v, x = .ref a ∧ DGet H2 a y (some v) ∧ Q v H2
def tDIn (ty td : TE) : TE := fun σ H Q => ty σ H fun y H1 => td σ H1 fun x H2 => ∃ a o, x = .ref a ∧ DGet H2 a y o ∧ Q (.bl o.isSome) H2
def tDNotIn (ty td : TE) : TE := fun σ H Q => ty σ H fun y H1 => td σ H1 fun x H2 => ∃ a o, x = .ref a ∧ DGet H2 a y o ∧ Q (.bl (!o.isSome)) H2
def sDPut (td ty tv : TE) : TS := fun D σ H => tv σ H fun v H1 => td σ H1 fun x H2 => ty σ H2 fun y H3 => ∃ a H4, x = .ref a ∧ DPut H3 a y v H4 ∧ D.nx σ H4
def sDAug (td ty tv : TE) (rd : V → V → Hp → VK → Prop) : TS := fun D σ H => td σ H fun x H1 => ty σ H1 fun y H2 => ∃ a v, x = .ref a ∧ DGet H2 a y (some v) ∧
  tv σ H2 fun y2 H3 => rd v y2 H3 fun z H4 => ∃ H5, DPut H4 a y z H5 ∧ D.nx σ H5
def sDDel (td ty : TE) : TS := fun D σ H => td σ H fun x H1 => ty σ H1 fun y H2 => ∃ a kvs k, x = .ref a ∧ H2 a = some (.dK kvs) ∧ y = kV k ∧ (valV kvs k).isSome = true ∧ D.nx σ (upd H2 a (.dK (dropK kvs k)))
section
variable {X : Cx} {o i e value : Expr} {pos pos' tpos : Pos} {td ty tv : TE}
end
def tDNewK : TE := fun _ H Q => ∀ p, H p = none → Q (.ref p) (upd H p (.dK []))
def tDNewT : TE := fun _ H Q => ∀ p, H p = none → Q (.ref p) (upd H p (.dT []))
section
variable {X : Cx} {pos : Pos}
end
def tPairs : List (TE × TE) → St → Hp → (List (V × V) → Hp → Prop) → Prop
  | [], _, H, Q => Q [] H
  | (tk, tv) :: r, σ, H, Q => tk σ H fun x H1 => tv σ H1 fun y H2 => tPairs r σ H2 fun ps H3 => Q ((x, y) :: ps) H3
abbrev VV : List (V × V) → List (Value × Value) → Prop := Paired fun p q => RelV p.1 q.1 ∧ RelV p.2 q.2
def PPs (X : Cx) (pos : Pos) (keys : List (Option Expr)) (values : List Expr) (trs : List (TE × TE)) : Prop :=
  ∀ (pins : List (Addr × Obj)) (s : Shared) (σ : St) (H : Hp) (Q : List (V × V) → Hp → Prop), Inv X pins σ H s → tPairs trs σ H Q →
    wpAny (model X.prog X.w) X.A (evalPairs (pairTrees keys values X.env pos)) (fun vs s' => ∃ ps H', Inv X pins σ H' s' ∧ VV ps vs ∧ Q ps H') X.xe s
def mergeK (kvs more : List (Key × V)) : List (Key × V) := more.foldl (fun acc kv => putK acc kv.1 kv.2) kvs
def tDisp (trs : List (TE × TE)) : TE := fun σ H Q => ∀ p, H p = none → tPairs trs σ (upd H p (.dK [])) fun ps H2 => H2 p = some (.dK []) ∧ ∃ kvs : List (Key × V), ps = kvs.map (fun kv => (kV kv.1, kv.2)) ∧ kvs.length ≤ 15 ∧ Q (.ref p) (upd H2 p (.dK (mergeK [] kvs)))
structure M1 (X : Cx) (o : Expr) (m : Str) (apos : Pos) (e : Expr) (cpos : Pos) : Prop where
  base : attributeBase o m X.env (eval o X.env) = eval o X.env
  few : ((backTo cpos (starEach [e] X.env)).all (fun x => !x.1) && (backToKw cpos (keywordEach [] X.env)).all (fun x => x.1.isSome)
    && decide (([e] : List Expr).length + ([] : List Keyword).length + (if ([] : List Keyword).isEmpty then 0 else 1) < 30)) = true
  line : (apos.endLine == cpos.line) = true
  trees : backTo cpos (starEach [e] X.env) = [(false, eval e X.env)]
structure M2 (X : Cx) (o : Expr) (m : Str) (apos : Pos) (e f : Expr) (cpos : Pos) : Prop where
  base : attributeBase o m X.env (eval o X.env) = eval o X.env
  few : ((backTo cpos (starEach [e, f] X.env)).all (fun x => !x.1) && (backToKw cpos (keywordEach [] X.env)).all (fun x => x.1.isSome)
    && decide (([e, f] : List Expr).length + ([] : List Keyword).length + (if ([] : List Keyword).isEmpty then 0 else 1) < 30)) = true
  line : (apos.endLine == cpos.line) = true
  trees : backTo cpos (starEach [e, f] X.env) = [(false, eval e X.env), (false, eval f X.env)]
def IsD (H : Hp) (a : Addr) : Prop := (∃ kvs, Rd H a (.dK kvs)) ∨ ∃ kvs, Rd H a (.dT kvs)
section
variable {X : Cx} {pins : List (Addr × Obj)} {σ : St} {H : Hp} {s : Shared} {a : Addr} {y d : V} {u r : Value} {o : Option V} {A : Around} {E : Value → Shared → Prop}
end
def tDGet1 (td ty : TE) : TE := fun σ H Q => td σ H fun x H1 => ∃ a, x = .ref a ∧ IsD H1 a ∧ ty σ H1 fun y H2 => ∃ o, DGet H2 a y o ∧ Q (o.getD .non) H2
def tDGet2 (td ty tx : TE) : TE := fun σ H Q => td σ H fun x H1 => ∃ a, x = .ref a ∧ IsD H1 a ∧ ty σ H1 fun y H2 => tx σ H2 fun z H3 => ∃ o, DGet H3 a y o ∧ Q (o.getD z) H3
def tDPop1 (td ty : TE) : TE := fun σ H Q => td σ H fun x H1 => ∃ a, x = .ref a ∧ IsD H1 a ∧ ty σ H1 fun y H2 => ∃ kvs k v, H2 a = some (.dK kvs) ∧ y = kV k ∧ valV kvs k = some v ∧ Q v (upd H2 a (.dK (dropK kvs k)))
def tDPop2 (td ty tx : TE) : TE := fun σ H Q => td σ H fun x H1 => ∃ a, x = .ref a ∧ IsD H1 a ∧ ty σ H1 fun y H2 => tx σ H2 fun z H3 => ∃ kvs k, H3 a = some (.dK kvs) ∧ y = kV k ∧
  (∀ v, valV kvs k = some v → Q v (upd H3 a (.dK (dropK kvs k)))) ∧ (valV kvs k = none → Q z H3)
section
variable {X : Cx} {o e f : Expr} {apos cpos : Pos} {td ty tx : TE}
end
section
variable {X : Cx} {pins : List (Addr × Obj)} {σ : St} {H : Hp} {s : Shared} {a : Addr} {kvs : List (Key × V)} {A : Around} {E : Value → Shared → Prop}
end
section
variable {X : Cx} {pins : List (Addr × Obj)} {σ : St} {H : Hp} {s : Shared} {a : Addr} {y : V} {u : Value} {A : Around} {E : Value → Shared → Prop}
end
end L2
namespace L2
open PySem PySem.Spec PyProof.Rows
section
variable {prog : Program} {w : World} {A : Around} {E : Value → Shared → Prop}
end
section
variable {X : Cx}
end
end L2
namespace L2
open PySem PySem.Spec PyProof.Rows
section
variable {X : Cx} {pins : List (Addr × Obj)} {σ : St} {H : Hp} {s : Shared} {h' : Heap}
theorem Inv.turnedNew {t' : Nat} {ch : List Addr} {T : Addr} {ob : HO} (I : Inv X pins σ H s) (k : ∀ b o, b ∉ ch → s.heap.get? b = some o → h'.get? b = some o) (hf : ∀ b ∈ ch, FpOk X pins H b) (hT : s.heap.objs.size ≤ T)
    (new : ObjOk X.prog X.w (upd H T ob) h' T ob) : Inv X pins σ (upd H T ob) { s with heap := h', toks := t' } := by
  have hn : H T = none := I.hok.fresh hT
  have nit : ∀ b u, H b = some u → b ∉ ch := fun b u e z => by
    have q := (hf b z).1
    rw [q] at e; cases e
  refine I.step (g' := s.gens) (d' := s.drawn) (ch := ch) (fun b hb => ⟨(hf b hb).2.2.2.1, (hf b hb).2.1, (hf b hb).2.2.2.2.1, (hf b hb).2.2.2.2.2⟩) (fun b o _ _ hc e _ => k b o hc e) (fun b o _ _ hc e _ => ⟨o.slots, k b o hc e⟩)
    (fun b o _ e n => ?_) (fun b o hc e => ⟨o, k b o hc e⟩) (fun b xs e => ?_) (fun b o u e => ?_) (fun b ps e => ⟨#[], ?_⟩) (fun m hm => ?_) (fun b u e => ?_) I.bare
  · rw [upd_ne (Nat.ne_of_lt (Nat.lt_of_lt_of_le (Heap.lt_size e) hT))]; exact n
  · rw [upd_ne (ne_of_none e hn)]; exact e
  · rw [upd_ne (ne_of_none e hn)]; exact e
  · rw [upd_ne (ne_of_none e hn), e]; simp
  · obtain ⟨o, es, ep, ho, r⟩ := hm
    exact ⟨o, es, ep, k _ o (fun z => (hf _ z).2.1 rfl) ho, r⟩
  · by_cases hb : b = T
    · subst hb
      rw [upd_same] at e
      cases e
      exact new
    · rw [upd_ne hb] at e
      refine (I.hok b u e).stay (fun c v hc q => k c v ?_ q) (fun c q => by rw [upd_ne (ne_of_none q hn)]; exact q) fun c xs q => by rw [upd_ne (ne_of_none q hn)]; exact q
      rcases hc with z | z
      · rw [z]; exact nit b u e
      · exact nit c _ z
end
def tLock (t : TS) : TS := fun D σ H => ∃ d u, H d = some u ∧ Mut (some u) ∧ ∀ od, t ⟨fun σ' H' => H' d = some (.frz od u) ∧ D.nx σ' (upd H' d u), fun v H' => H' d = some (.frz od u) ∧ D.rt v (upd H' d u), fun σ' H' => H' d = some (.frz od u) ∧ D.bk σ' (upd H' d u), fun σ' H' => H' d = some (.frz od u) ∧ D.ct σ' (upd H' d u)⟩ σ (upd H d (.frz od u))
def tLockE (t : TE) : TE := fun σ H Q => ∃ d u, H d = some u ∧ Mut (some u) ∧ ∀ od, t σ (upd H d (.frz od u)) fun v H' => H' d = some (.frz od u) ∧ Q v (upd H' d u)
section
variable {X : Cx}
theorem pi_one {tg : Expr} {pins : List (Addr × Obj)} {σ : St} {H : Hp} {s : Shared} {R : It → Hp → Prop} {J : It} {tn : Nat → Heap → Prop} {tk : Nat} (I : Inv X pins σ H s) (o : Obj)
    (T : Turn X.prog X.w X.K tg J [s.heap.objs.size] s.heap.objs.size tn) (st : tn 0 (s.heap.push o)) (q : R J H) : PIE X pins σ tg R (.ref s.heap.objs.size) { s with heap := s.heap.push o, toks := tk } := by
  refine ⟨s.heap.objs.size, [s.heap.objs.size], tn, J, H, rfl, I.kept fun b ob e => Heap.get?_push_of_some _ e, T, st, fun b hb => ?_, q⟩
  have e : b = s.heap.objs.size := by simpa using hb
  subst e
  exact I.fpOk (Nat.le_refl _) (I.hok.fresh (Nat.le_refl _))
end
def Itc (lo c : Int) (n : Nat) : It := ⟨fun i _ => i < n, fun i H x H' => H' = H ∧ x = .int (lo + (i : Nat) * c), fun i _ => n ≤ i⟩
theorem turn_rangeC {P : Program} {w : World} {K : PySem.W.Frag} {tg : Expr} (it : Addr) (lo c : Int) (n : Nat) : Turn P w K tg (Itc lo c n) [it] it (fun i h => IsRangeIter h it (lo + (i : Nat) * c) ((n : Int) - (i : Nat)) c) where
  mem := by simp
  obj := fun i h st b hb => by
    have e : b = it := by simpa using hb
    subst e
    exact ⟨_, st, fun v z => nomatch z⟩
  keep := fun i h h' st k => k it (by simp) _ st
  item := by
    intro X hP hw hK hc i pins s σ H E I hf st hg
    subst hP hw hK
    obtain ⟨f0, f1, f2, f3, f4, f5⟩ := hf it (by simp)
    have W := Walks.range (prog := X.prog) (w := X.w) (I.ok.hd hc) it lo c n
    refine W.item i s _ _ hg st fun v h' tk hv st' kk => ?_
    obtain ⟨t, rfl⟩ := hv
    have I1 : Inv X pins σ H { s with heap := h', toks := tk } := I.turned (fun b o hb e => kk b o (by simpa using hb) e) f0 f1 f3 f4 f5
    exact ⟨_, rfl, go_of (s := { s with heap := h', toks := tk }) (n := "range_iterator") st' rfl rfl (by decide) ⟨.int (lo + (i : Nat) * c), H, I1, ⟨t, rfl⟩, ⟨rfl, rfl⟩, st', fun b hb => (hf b hb).1⟩⟩
  done := by
    intro X hP hw hK hc i pins s σ H E I hf st hg
    subst hP hw hK
    obtain ⟨f0, f1, f2, f3, f4, f5⟩ := hf it (by simp)
    exact wpAny_pyNext_range_end (I.ok.hd hc) st (by have : n ≤ i := hg; omega) fun h' eb => ⟨rfl, I.turned (t' := s.toks) (fun b o hb e => eb b o hb e) f0 f1 f3 f4 f5⟩
  self := fun A i s Q E st h => wpAny_pyIter_rangeiter st h
def RgC (i j c : Int) (n : Nat) : Prop := c ≠ 0 ∧ c.natAbs < 1073741824 ∧ Builtin.Range.small i j c = true ∧ Builtin.Range.rangeSize i j c = n
def iRng3 (ta : TA) : TI := fun σ H R => ta σ H fun vs H1 => ∃ (i j c : Int) (n : Nat), vs = [.int i, .int j, .int c] ∧ RgC i j c n ∧ R (Itc i c n) H1
section
variable {X : Cx} {tg : Expr}
theorem pi_range3 {a b c : Expr} {ta : TA} {p pos : Pos} (hg : Gl X "range") (hm : X.mg "range" = none) (ha : PA X [a, b, c] ta)
    (hs : starEach [a, b, c] X.env = (false, eval a X.env) :: starEach [b, c] X.env := by rfl) (hpl : (backTo pos (starEach [b, c] X.env)).any (·.1) = false := by rfl) :
    PI X tg (.Call (.Name "range" p) [a, b, c] [] pos) (iRng3 ta) := by
  intro pins s σ H R I h
  refine Call_ (ld_blt I hg hm boot_range (PyProof.Rows.callWith_type1 (thn (ha pos pins s σ H _ I h) fun us s1 ⟨vs, H1, I1, r1, q1⟩ => ?_) hs hpl))
  obtain ⟨i, j, k, n, e, ⟨c0, c1, c2, c3⟩, q⟩ := q1
  subst e
  cases r1 with
  | cons r rr =>
    cases rr with
    | cons r' rr =>
      cases rr with
      | cons r'' rr =>
        cases rr
        obtain ⟨t, rfl⟩ := r
        obtain ⟨t', rfl⟩ := r'
        obtain ⟨t'', rfl⟩ := r''
        refine call_range_3 c0 ?_ (.inl (PyProof.noPylong_small c1))
        refine wpAny_pyIter_range (IsRange.new ..) c2 ?_
        have I2 : Inv X pins σ H1 { s1 with heap := s1.heap.push { cls := .type "range", data := .fields #[.int i t, .int j t', .int k t''] } } := I1.kept (t' := s1.toks) fun b o e => Heap.get?_push_of_some _ e
        refine pi_one (tk := s1.toks) I2 _ (turn_rangeC _ i k n) ?_ q
        have e1 : i + ((0 : Nat) : Int) * k = i := by simp
        have e2 : (n : Int) - ((0 : Nat) : Int) = Builtin.Range.rangeSize i j k := by rw [c3]; simp
        show IsRangeIter _ _ (i + ((0 : Nat) : Int) * k) ((n : Int) - ((0 : Nat) : Int)) k
        rw [e1, e2]
        exact Heap.get?_push_size _ rfl
end
theorem for_rangeC {lo c : Int} {n : Nat} {g : TG} {tb : TS} {D : Ends} {σ : St} {H : Hp} (Pv : Nat → St → Hp → Prop) (h0 : Pv 0 σ H)
    (hs : ∀ i σ H, i < n → Pv i σ H → g (.int (lo + (i : Nat) * c)) σ H fun σ2 H2 => tb { D with nx := Pv (i + 1), ct := Pv (i + 1), bk := D.nx } σ2 H2) (hd : ∀ σ H, Pv n σ H → D.nx σ H) :
    ∃ W : Nat → Nat → St → Hp → Prop, (∃ m, W 0 m σ H) ∧ ∀ i m σ H, W i m σ H →
      ((Itc lo c n).stop i H ∧ D.nx σ H) ∨ ((Itc lo c n).go i H ∧ ∃ N : St → Hp → Prop, (∀ σ' H', N σ' H' → ∃ m', m' < m ∧ W (i + 1) m' σ' H') ∧ ∀ x H', (Itc lo c n).yld i H x H' → g x σ H' fun σ2 H2 => tb { D with nx := N, ct := N, bk := D.nx } σ2 H2) := by
  refine ⟨fun i m σ H => m = n - i ∧ i ≤ n ∧ Pv i σ H, ⟨n, by simp, Nat.zero_le _, h0⟩, ?_⟩
  rintro i m σ H ⟨rfl, hi, p⟩
  by_cases hlt : i < n
  · refine .inr ⟨hlt, Pv (i + 1), fun σ' H' p' => ⟨n - (i + 1), by omega, rfl, hlt, p'⟩, fun x H' y => ?_⟩
    obtain ⟨e, y⟩ := y
    subst e y
    exact hs i σ _ hlt p
  · have e : i = n := by omega
    subst e
    exact .inl ⟨Nat.le_refl _, hd σ H p⟩
def Itv (K : PySem.W.Frag) (a : Addr) (n : Nat) : It :=
  ⟨fun i H => i < n ∧ ∃ (xs : List V) (x : V), SqL K H a xs ∧ xs[n - 1 - i]? = some x, fun i H x H' => H' = H ∧ ∀ xs, SqL K H a xs → xs[n - 1 - i]? = some x, fun i _ => n ≤ i⟩
def iRev (K : PySem.W.Frag) (ta : TA) : TI := fun σ H R => ta σ H fun vs H1 => ∃ (a : Addr) (xs : List V), vs = [.ref a] ∧ SqL K H1 a xs ∧ R (Itv K a xs.length) H1
section
variable {X : Cx} {tg : Expr}
end
def Its (x : Str) : It := ⟨fun i _ => i < x.cps.size, fun i H v H' => H' = H ∧ ∃ c, x.cps[i]? = some c ∧ v = .str ⟨#[c]⟩, fun i _ => x.cps.size ≤ i⟩
def iStr (te : TE) : TI := fun σ H R => te σ H fun v H1 => ∃ x, v = .str x ∧ R (Its x) H1
section
variable {prog : Program} {w : World} {A : Around} {E : Value → Shared → Prop} {s : Shared}
end
section
variable {X : Cx} {pins : List (Addr × Obj)} {σ : St} {H : Hp} {s : Shared} {d : Addr} {o : Obj}
end
def Itk (d : Addr) (o : Obj) (kvs : List (Key × V)) : It :=
  ⟨fun i H => H d = some (.frz o (.dK kvs)) ∧ i < kvs.length, fun i H x H' => H' = H ∧ ∃ k v, kvs[i]? = some (k, v) ∧ x = kV k, fun i H => H d = some (.frz o (.dK kvs)) ∧ kvs.length ≤ i⟩
def Itkt (d : Addr) (o : Obj) (kvs : List (List Key × V)) : It :=
  ⟨fun i H => H d = some (.frz o (.dT kvs)) ∧ i < kvs.length, fun i H x H' => H' = H ∧ ∃ (k : List Key) (v : V) (q : Addr), kvs[i]? = some (k, v) ∧ x = .ref q ∧ H q = some (.tup (k.map kV)), fun i H => H d = some (.frz o (.dT kvs)) ∧ kvs.length ≤ i⟩
def Itd (d : Addr) (o : Obj) (kvs : List (Key × V)) : It :=
  ⟨fun i H => H d = some (.frz o (.dK kvs)) ∧ i < kvs.length, fun i H x H' => H' = H ∧ ∃ k, kvs[i]? = some (k, x), fun i H => H d = some (.frz o (.dK kvs)) ∧ kvs.length ≤ i⟩
def Iti (d : Addr) (o : Obj) (kvs : List (Key × V)) : It :=
  ⟨fun i H => H d = some (.frz o (.dK kvs)) ∧ i < kvs.length, fun i H x H' => ∃ T k v, kvs[i]? = some (k, v) ∧ x = .ref T ∧ H T = none ∧ H' = upd H T (.tup [kV k, v]), fun i H => H d = some (.frz o (.dK kvs)) ∧ kvs.length ≤ i⟩
section
variable {P : Program} {w : World} {K : PySem.W.Frag} {tg : Expr} {d : Addr} {o : Obj} {es : Array DictEntry} {ep : Nat}
end
def iKeys (td : TE) : TI := fun σ H R => td σ H fun x H1 => ∃ d o, x = .ref d ∧ ((∃ kvs, H1 d = some (.frz o (.dK kvs)) ∧ R (Itk d o kvs) H1) ∨ ∃ kvs, H1 d = some (.frz o (.dT kvs)) ∧ R (Itkt d o kvs) H1)
def iVals (td : TE) : TI := fun σ H R => td σ H fun x H1 => ∃ d o kvs, x = .ref d ∧ H1 d = some (.frz o (.dK kvs)) ∧ R (Itd d o kvs) H1
def iItems (td : TE) : TI := fun σ H R => td σ H fun x H1 => ∃ d o kvs, x = .ref d ∧ H1 d = some (.frz o (.dK kvs)) ∧ R (Iti d o kvs) H1
def iKeysM (td : TE) : TI := fun σ H R => td σ H fun x H1 => ∃ d o kvs, x = .ref d ∧ H1 d = some (.frz o (.dK kvs)) ∧ R (Itk d o kvs) H1
section
variable {X : Cx} {tg e : Expr} {td : TE} {apos cpos : Pos}
end
def Ite (K : PySem.W.Frag) (a : Addr) : It :=
  ⟨fun i H => ∃ (xs : List V) (x : V), SqL K H a xs ∧ xs[i]? = some x, fun i H v H' => ∃ T x, v = .ref T ∧ H T = none ∧ H' = upd H T (.tup [.int (i : Nat), x]) ∧ ∀ xs, SqL K H a xs → xs[i]? = some x, fun i H => ∃ xs : List V, SqL K H a xs ∧ xs.length ≤ i⟩
theorem turn_enum {P : Program} {w : World} {K : PySem.W.Frag} {elts : List Expr} {kk : Nat} {tpos : Pos} (a e it : Addr) :
    Turn P w K (.Tuple elts kk tpos) (Ite K a) [e, it] e (fun i h => (∃ old, IsEnum h e it ((i : Nat) : Int) old) ∧ h.IsListIter it a i ∧ e ≠ it) where
  mem := by simp
  obj := fun i h st b hb => by
    obtain ⟨⟨old, he⟩, ⟨o, ho, hc, hd⟩, _⟩ := st
    have e' : b = e ∨ b = it := by simpa using hb
    rcases e' with z | z
    · rw [z]; exact ⟨_, he, fun v q => nomatch q⟩
    · rw [z]; exact ⟨o, ho, fun v q => by rw [hd] at q; cases q⟩
  keep := fun i h h' st k => let ⟨⟨old, he⟩, hi, hne⟩ := st; ⟨⟨old, k e (by simp) _ he⟩, hi.at fun o q => k it (by simp) o q, hne⟩
  item := by
    intro X hP hw hK hc i pins s σ H E I hf st hg
    subst hP hw hK
    obtain ⟨⟨old, he⟩, hit, hne⟩ := st
    obtain ⟨xs, x, hq, hx⟩ := hg
    obtain ⟨its, rv, p, hz⟩ := I.list hq
    obtain ⟨u, hu, ru⟩ := rv.get hx
    have hel : e < s.heap.objs.size := Heap.lt_size he
    have hil : it < s.heap.objs.size := by obtain ⟨_, q, _⟩ := hit; exact Heap.lt_size q
    refine wpAny_pyNext_enum_item he hit p.isList (x := u) (by simpa using hu) hne fun h' ho hit' hT hsz hk => ?_
    refine ⟨_, rfl, wpAny_letOwnedTupleGo_enum (s := { s with heap := h', toks := s.toks + 1 }) ho fun h'' he' sb => ?_⟩
    have hT2 : h''.get? s.heap.objs.size = some { cls := .type "tuple", data := .seq #[.int i s.toks, u] } := (sb.2 _ (Nat.ne_of_gt hel)).trans hT
    have new : ObjOk X.prog X.w (upd H s.heap.objs.size (.tup [.int (i : Nat), x])) h'' s.heap.objs.size (.tup [.int (i : Nat), x]) :=
      ⟨by show 2 ≤ sizeLine; decide, [.int i s.toks, u], .cons ⟨_, rfl⟩ (.cons ru .nil), ⟨_, hT2, rfl, _, rfl⟩⟩
    have I1 : Inv X pins σ (upd H s.heap.objs.size (.tup [.int (i : Nat), x])) { s with heap := h'', toks := s.toks + 1 } :=
      I.turnedNew (ch := [e, it]) (fun b ob hb q => (sb.2 b (fun z => hb (by simp [z]))).trans (hk b ob (fun z => hb (by simp [z])) (fun z => hb (by simp [z])) q)) hf (Nat.le_refl _) new
    refine ⟨.ref s.heap.objs.size, _, I1, rfl, ⟨_, x, rfl, I.hok.fresh (Nat.le_refl _), rfl, fun ys hy => by rw [I.list_inj hy hq]; exact hx⟩, ⟨⟨u, ?_⟩, hit'.at fun o q => (sb.2 it (Ne.symm hne)).trans q, hne⟩, fun b hb => ?_⟩
    · have e1 : ((i + 1 : Nat) : Int) = (i : Int) + 1 := by omega
      rw [e1]; exact he'
    · have hb' : b < s.heap.objs.size := by
        have e' : b = e ∨ b = it := by simpa using hb
        rcases e' with z | z
        · rw [z]; exact hel
        · rw [z]; exact hil
      rw [upd_ne (Nat.ne_of_lt hb')]
      exact (hf b hb).1
  done := by
    intro X hP hw hK hc i pins s σ H E I hf st hg
    subst hP hw hK
    obtain ⟨⟨old, he⟩, hit, hne⟩ := st
    obtain ⟨xs, hq, hx⟩ := hg
    obtain ⟨its, rv, p, hz⟩ := I.list hq
    obtain ⟨f0, f1, f2, f3, f4, f5⟩ := hf it (by simp)
    have hl := rv.length
    exact wpAny_pyNext_enum_end (I.ok.hd hc) he hit p.isList (by simp; omega) fun h' eb => ⟨rfl, I.turned (t' := s.toks) (fun b o hb q => eb b o hb q) f0 f1 f3 f4 f5⟩
  self := fun A i s Q E st h => let ⟨⟨_, he⟩, _⟩ := st; wpAny_pyIter_enum he h
def iEnum (K : PySem.W.Frag) (ta : TA) : TI := fun σ H R => ta σ H fun vs H1 => ∃ a xs, vs = [.ref a] ∧ SqL K H1 a xs ∧ R (Ite K a) H1
theorem pi_enum {X : Cx} {e : Expr} {ta : TA} {p pos tpos : Pos} {elts : List Expr} {kk : Nat} (hg : Gl X "enumerate") (hm : X.mg "enumerate" = none) (ha : PA X [e] ta) (hs : starEach [e] X.env = [(false, eval e X.env)] := by rfl) :
    PI X (.Tuple elts kk tpos) (.Call (.Name "enumerate" p) [e] [] pos) (iEnum X.K ta) := by
  intro pins s σ H R I h
  refine Call_ (ld_blt I hg hm boot_enumerate (PyProof.Rows.callWith_type1 (thn (ha pos pins s σ H _ I h) fun us s1 ⟨vs, H1, I1, r1, q1⟩ => ?_) hs rfl))
  obtain ⟨a, xs, ex, hq, q⟩ := q1
  subst ex
  cases r1 with
  | cons r rr =>
    cases rr
    cases r
    obtain ⟨its, rv, p', hz⟩ := I1.list hq
    refine call_enumerate_list p'.isList fun h' he hit hsz hk => wpAny_pyIter_enum he ?_
    have I2 : Inv X pins σ H1 { s1 with heap := h' } := I1.kept (t' := s1.toks) hk
    refine ⟨s1.heap.objs.size + 1, [s1.heap.objs.size + 1, s1.heap.objs.size], _, _, H1, rfl, I2, turn_enum a (s1.heap.objs.size + 1) s1.heap.objs.size, ⟨⟨.none, he⟩, hit, Nat.succ_ne_self _⟩, fun b hb => ?_, q⟩
    have e' : b = s1.heap.objs.size + 1 ∨ b = s1.heap.objs.size := by simpa using hb
    have hle : s1.heap.objs.size ≤ b := by
      rcases e' with z | z
      · rw [z]; exact Nat.le_add_right _ _
      · rw [z]; exact Nat.le_refl _
    exact I1.fpOk hle (I1.hok.fresh hle)
def Itz (K : PySem.W.Frag) (a b : Addr) : It :=
  ⟨fun i H => ∃ (xs ys : List V) (x y : V), SqL K H a xs ∧ SqL K H b ys ∧ xs[i]? = some x ∧ ys[i]? = some y,
    fun i H v H' => ∃ T x y, v = .ref T ∧ H T = none ∧ H' = upd H T (.tup [x, y]) ∧ (∀ xs, SqL K H a xs → xs[i]? = some x) ∧ ∀ ys, SqL K H b ys → ys[i]? = some y,
    fun i H => ∃ xs ys : List V, SqL K H a xs ∧ SqL K H b ys ∧ (xs.length ≤ i ∨ ys.length ≤ i)⟩
def iZip (K : PySem.W.Frag) (ta : TA) : TI := fun σ H R => ta σ H fun vs H1 => ∃ a b xs ys, vs = [.ref a, .ref b] ∧ SqL K H1 a xs ∧ SqL K H1 b ys ∧ R (Itz K a b) H1
end L2
section 
namespace Bits
open PySem PyProof.Rows
end Bits
end 
section 
namespace TL
open PySem PySem.Builtin PySem.Builtin.Str PySem.StrLaws
abbrev tl (x : Str) : List Nat := x.cps.toList
def pre (S l : List Nat) : Bool := l.take S.length == S
def spl (S : List Nat) : Nat → List Nat → List Nat → List (List Nat)
  | _, acc, [] => [acc]
  | 0, acc, c :: r => if pre S (c :: r) = true then acc :: spl S (S.length - 1) [] r else spl S 0 (acc ++ [c]) r
  | k + 1, acc, _ :: r => spl S k acc r
def par (S : List Nat) : List Nat → List Nat → Option (List Nat × List Nat)
  | _, [] => none
  | acc, c :: r => if pre S (c :: r) = true then some (acc, (c :: r).drop S.length) else par S (acc ++ [c]) r
def joinL (S : List Nat) : List (List Nat) → List Nat
  | [] => []
  | [p] => p
  | p :: q :: r => p ++ (S ++ joinL S (q :: r))
def numL (n : Nat) : List Nat := (Nat.toDigits 10 n).map Char.toNat
def wstep (st : List (List Nat) × List Nat) (c : Nat) : List (List Nat) × List Nat :=
  if Unicode.isSpace c = true then (if st.2 = [] then st else (st.1 ++ [st.2], [])) else (st.1, st.2 ++ [c])
def wfin (st : List (List Nat) × List Nat) : List (List Nat) := if st.2 = [] then st.1 else st.1 ++ [st.2]
end TL
end 
namespace L2
open PySem PySem.Spec PyProof.Rows
def rNewStrs (ys : List Str) : Hp → VK → Prop := fun H Q => ∀ p, H p = none → Q (.ref p) (upd H p (.lst (ys.map V.str)))
section
variable {X : Cx} {pins : List (Addr × Obj)} {σ : St} {H : Hp} {s : Shared} {Q : VK}
end
section
variable {X : Cx}
end
section
variable {X : Cx} {o e : Expr} {to te : TE}
def tM0 (r : V → List V → Hp → VK → Prop) (to : TE) : TE := fun σ H Q => to σ H fun x H1 => (∃ a, x = .str a) ∧ r x [] H1 Q
def tM1 (r : V → List V → Hp → VK → Prop) (to te : TE) : TE := fun σ H Q => to σ H fun x H1 => (∃ a, x = .str a) ∧ te σ H1 fun y H2 => r x [y] H2 Q
end
end L2
namespace L2
open PySem PySem.Spec PyProof.Rows
section
variable {X : Cx}
end
def clipS (n d : Nat) : Option Int → Int
  | none => (d : Int)
  | some i => max 0 (min (if i < 0 then i + (n : Int) else i) (n : Int))
def cutS (z : Str) (lo hi : Option Int) : Str :=
  ⟨((z.cps.toList.drop (HT.sIx z.length 0 lo)).take (HT.sIx z.length z.length hi - HT.sIx z.length 0 lo)).toArray⟩
def rSlS : V → Option Int → Option Int → Hp → VK → Prop := fun x lo hi H Q => ∃ z, x = .str z ∧ z.length ≤ sizeLine ∧ Q (.str (cutS z lo hi)) H
end L2
namespace Att
open PySem PySem.W PySem.Calls PyProof.Rows
section
variable {prog : Program} {w : World} {A : Around} {E : Value → Shared → Prop} {s : Shared} {K : Frag}
def noObjs (h : Heap) : Heap := { h with objs := #[] }
def ledger (h : Heap) (L d : Addr) : List (Addr × Obj) := (List.range h.objs.size).filterMap fun a => if a = L ∨ a = d then none else (h.get? a).map fun o => (a, o)
end
end Att
namespace L2
open PySem PySem.Spec PyProof.Rows
def Only (H : Hp) : Prop := ∀ b, H b = none ∨ ∃ o xs, H b = some (.frz o (.lst xs))
end L2
namespace L2
open PySem PySem.Spec PyProof.Rows
abbrev KOf {K : PySem.W.Frag} {h : Heap} (_ : K.In h) : PySem.W.Frag := K
end L2
/- THE LAST THEOREM (shape; LID, My.* are yours):
   My.Adr: a structure of the addresses that your layer names (classes, functions); My.Txt K t: a structure (Prop) of the equations over K;
   My.txt_mk : {K} {implicit addresses ..} (e1 : nsIn K mainGlobals "law" = some (some (.ref f))) (e2 : K.lookup f = some ⟨oc, od, .func (fnOf "law" "law" params body scope dV kV doc pm an cdv ct), sl⟩) (e3 : codeIn K cdv "law" = true) .. : ∃ t, My.Txt K t
set_option maxRecDepth 100000 in
set_option maxHeartbeats 0 in
(the tactic k_is has no namespace: write k_is) -/
namespace L2
open PySem PySem.Spec PyProof.Rows
abbrev CX0 : CXT := fun _ _ _ _ _ _ => False
abbrev E0 : XK := fun _ _ _ => False
theorem pass0 {X : Cx} : Passes CX0 X E0 := fun _ _ _ _ _ _ _ h => h.elim
structure Fun (K : PySem.W.Frag) (x qual : Str) (st : Stmt) (f : Addr) (fd : FuncData) : Prop where
  ex : ∃ (oc : Value) (od : Option Addr) (kV doc pm : Value) (an : Option Addr) (cdv ct : Value) (osl : Array (Option Value)),
    fd = PySem.W.fnOf x qual (defArgs st) (defBody st) (defScope st) .none kV doc pm an cdv ct ∧ K.lookup f = some ⟨oc, od, .func fd, osl⟩ ∧ PySem.W.codeIn K cdv qual = true
  kp : PySem.W.keepIn K (.ref f) = true
section
variable {P : Program} {w : World} {K : PySem.W.Frag} {mg : Str → Option Value} {base : Heap}
theorem Fun.ok {x qual : Str} {st : Stmt} {f : Addr} {fd : FuncData} {N ps : List Str} {k : Nat} {sp : Sp} (F : Fun K x qual st f fd) (S : FnScope N ps (defScope st)) (len : ∀ vs H Q E, sp vs H Q E → vs.length = ps.length)
    (hbody : ∀ (cdv : Value) (A : Around) (outer : List Env) (s : Shared) (H : Hp) (vs : List V) (Q : VK) (E : XK), Room k (A.deeper (envOfC qual (defScope st) s.heap.objs.size f cdv)) → sp vs H Q E →
      ∃ t, PSs (cxOf CX0 P w K mg base N qual (defScope st) f cdv A outer s H E).nox (defBody st) t ∧ t { nx := fun _ H' => Q .non H', rt := Q } (start N vs) H) : FnOk P w K mg base CX0 (k + 1) f fd ps sp := by
  obtain ⟨oc, od, kV, doc, pm, an, cdv, ct, osl, rfl, lk, hcd⟩ := F.ex
  refine fn_of lk hcd S len fun A outer s H vs Q E hr hsp => ?_
  obtain ⟨t, h, q⟩ := hbody cdv A outer s H vs Q E hr hsp
  exact ⟨t, h.nox, q⟩
theorem Fun.binds {x qual : Str} {st : Stmt} {f : Addr} {fd : FuncData} {ps : List Str} (F : Fun K x qual st f fd)
    (h : ∀ (kV doc pm : Value) (an : Option Addr) (cdv ct : Value) (us : List Value), us.length = ps.length → bindArgs (PySem.W.fnOf x qual (defArgs st) (defBody st) (defScope st) .none kV doc pm an cdv ct) ⟨us, []⟩ = pure (ps.zip us)) : Binds K fd ps [] := by
  obtain ⟨oc, od, kV, doc, pm, an, cdv, ct, osl, rfl, lk, hcd⟩ := F.ex
  exact .all (h kV doc pm an cdv ct)
theorem fun_mk {x qual : Str} {st : Stmt} {f : Addr} {oc : Value} {od an : Option Addr} {osl : Array (Option Value)} {kV doc pm cdv ct : Value} (l : K.lookup f = some ⟨oc, od, .func (PySem.W.fnOf x qual (defArgs st) (defBody st) (defScope st) .none kV doc pm an cdv ct), osl⟩)
    (c : PySem.W.codeIn K cdv qual = true) (k : PySem.W.keepIn K (.ref f) = true) : Fun K x qual st f (PySem.W.fnOf x qual (defArgs st) (defBody st) (defScope st) .none kV doc pm an cdv ct) := ⟨⟨oc, od, kV, doc, pm, an, cdv, ct, osl, rfl, l, c⟩, k⟩
end
section
variable {X : Cx}
theorem pv (i : Nat) {x : Str} {pos : Pos} (hN : X.N[i]? = some x := by rfl) (hv : Vis X.env.scope x := by first | exact Or.inl rfl | exact Or.inr (Or.inl rfl) | exact Or.inr (Or.inr rfl)) (hd : (x == ("__debug__" : Str)) = false := by decide)
    (hcd : (x == ("__classdict__" : Str)) = false := by decide) : PE X (.Name x pos) (tVar i) := pe_var hN hv hd hcd
end
theorem iteF {A B : Prop} (h : B) : if false = true then A else B := by
  rw [if_neg Bool.false_ne_true]
  exact h
def Same (H H' : Hp) : Prop := ∀ b o, H b = some o → H' b = some o
theorem Same.refl (H : Hp) : Same H H := fun _ _ h => h
theorem Same.trans {H H1 H2 : Hp} (a : Same H H1) (b : Same H1 H2) : Same H H2 := fun c o h => b c o (a c o h)
theorem Same.free {H H' : Hp} (e : Same H H') {l : Addr} (h : H' l = Option.none) : H l = Option.none := by
  cases q : H l with
  | none => rfl
  | some o =>
    rw [e l o q] at h
    cases h
theorem Same.seq {K : PySem.W.Frag} {H H' : Hp} {a : Addr} {xs : List V} (e : Same H H') (h : SqL K H a xs) : SqL K H' a xs := by
  rcases h with (h | ⟨o, h⟩) | h
  · exact .inl (.inl (e _ _ h))
  · exact .inl (.inr ⟨o, e _ _ h⟩)
  · exact .inr h
section
variable {κ : Type} [DecidableEq κ]
end
theorem at_of {xs : List V} {z : Int} {j : Nat} {v : V} (e : z = (j : Int)) (h : xs[j]? = some v) : atI xs z = some v := by
  rw [e]
  exact atI_nat h
theorem Same.made {H H1 : Hp} {x dx C : Addr} (nx : H x = Option.none) (nd : H dx = Option.none) (k : ∀ b o, (upd (upd H dx (.own x)) x (.ins C dx [])) b = some o → b ≠ x → H1 b = some o) : Same H H1 := fun b o e =>
  k b o (by rw [upd_ne (ne_of_none e nx), upd_ne (ne_of_none e nd)]; exact e) (ne_of_none e nx)
end L2
section
set_option Elab.async false
set_option linter.all false
set_option maxRecDepth 100000
set_option maxHeartbeats 2000000
namespace L2
open PySem PySem.Spec PyProof.Rows
open PySem.W (WData Codec OpenSpec Well WellAll ReadsW ReadsAllW)
mutual
inductive Dw (K : PySem.W.Frag) (H : Hp) : V → WData → Prop
  | non : Dw K H .non .none
  | bl (b : Bool) : Dw K H (.bl b) (.bool b)
  | int (i : Int) : Dw K H (.int i) (.int i)
  | str (x : Str) : Dw K H (.str x) (.str x)
  | byt (b : Array UInt8) : Dw K H (.byt b) (.bytes b.toList)
  | lst {a : Addr} {xs : List V} {ds : List WData} : SqL K H a xs → DwAll K H xs ds → Dw K H (.ref a) (.list ds)
  | tup {a : Addr} {xs : List V} {ds : List WData} : SqT K H a xs → DwAll K H xs ds → Dw K H (.ref a) (.tuple ds)
inductive DwAll (K : PySem.W.Frag) (H : Hp) : List V → List WData → Prop
  | nil : DwAll K H [] []
  | cons {v : V} {vs : List V} {d : WData} {ds : List WData} : Dw K H v d → DwAll K H vs ds → DwAll K H (v :: vs) (d :: ds)
end
theorem dw_ints {K : PySem.W.Frag} {H : Hp} : ∀ ns : List Int, DwAll K H (ns.map V.int) (ns.map WData.int)
  | [] => .nil
  | n :: r => .cons (.int n) (dw_ints r)
theorem ints_dw {K : PySem.W.Frag} {H : Hp} : ∀ (ns : List Int) (xs : List V), DwAll K H xs (ns.map WData.int) → xs = ns.map V.int
  | [], xs, h => by
    cases h
    rfl
  | n :: r, xs, h => by
    cases h with
    | cons h1 h2 =>
      cases h1
      rw [ints_dw r _ h2] <;> rfl
section
variable {P : Program} {w : World} {K : PySem.W.Frag} {H : Hp} {h : Heap} {R : PySem.W.WRecords} {cl : Str → Option Addr}
theorem sqL_at {a : Addr} {xs : List V} (hok : HOk P w H h) (KX : K.In h) (q : SqL K H a xs) : ∃ (its : List Value) (o : Obj) (n : Nat), Vals xs its ∧ h.get? a = some o ∧ o.cls = .type "list" ∧ o.data = .seq its.toArray n := by
  rcases q with q | ⟨o, its, n, e, hc, _, hd, _, hv⟩
  · obtain ⟨_, its, n, hv, e⟩ := (show ObjOk P w H h a (.lst xs) from q.ok hok)
    exact ⟨its, _, n, hv, e, rfl, rfl⟩
  · exact ⟨its.toList, o, n, hv, KX _ _ e, hc, by simp [hd]⟩
theorem sqT_at {a : Addr} {xs : List V} (hok : HOk P w H h) (KX : K.In h) (q : SqT K H a xs) : ∃ (its : List Value) (o : Obj) (n : Nat), Vals xs its ∧ h.get? a = some o ∧ o.cls = .type "tuple" ∧ o.data = .seq its.toArray n := by
  rcases q with q | ⟨o, its, n, e, hc, hd, _, hv⟩
  · obtain ⟨_, its, hv, o, e, hc, n, hd⟩ := (show ObjOk P w H h a (.tup xs) from q.ok hok)
    exact ⟨its, o, n, hv, e, hc, hd⟩
  · exact ⟨its.toList, o, n, hv, KX _ _ e, hc, by simp [hd]⟩
mutual
theorem Dw.reads (hok : HOk P w H h) (KX : K.In h) : ∀ (d : WData) (v : V) (u : Value), Dw K H v d → RelV v u → ∃ as, ReadsW R cl h u d as
  | .none, _, _, x, r => by
    cases x
    cases r
    exact ⟨_, ReadsW.none⟩
  | .bool b, _, _, x, r => by
    cases x
    cases r
    exact ⟨_, ReadsW.bool b⟩
  | .int i, _, _, x, r => by
    cases x
    obtain ⟨t, rfl⟩ := r
    exact ⟨_, ReadsW.int i t⟩
  | .str s, _, _, x, r => by
    cases x
    obtain ⟨t, rfl⟩ := r
    exact ⟨_, ReadsW.str s t⟩
  | .bytes b, _, _, x, r => by
    cases x
    obtain ⟨t, rfl⟩ := r
    exact ⟨_, ReadsW.bytes _ t⟩
  | .list ds, _, _, x, r => by
    cases x with
    | lst hs ha =>
      cases r
      obtain ⟨its, o, n, rv, ho, hc, hd⟩ := sqL_at hok KX hs
      obtain ⟨as, hr⟩ := Dw.readsAll hok KX ds _ its ha rv
      exact ⟨_, ReadsW.list ho hc hd hr⟩
  | .tuple ds, _, _, x, r => by
    cases x with
    | tup hs ha =>
      cases r
      obtain ⟨its, o, n, rv, ho, hc, hd⟩ := sqT_at hok KX hs
      obtain ⟨as, hr⟩ := Dw.readsAll hok KX ds _ its ha rv
      exact ⟨_, ReadsW.tuple ho hc hd hr⟩
  | .float _, _, _, x, _ => by cases x
  | .dict _, _, _, x, _ => by cases x
  | .bytearray _, _, _, x, _ => by cases x
  | .set _, _, _, x, _ => by cases x
  | .frozenset _, _, _, x, _ => by cases x
  | .obj _ _, _, _, x, _ => by cases x
theorem Dw.readsAll (hok : HOk P w H h) (KX : K.In h) : ∀ (ds : List WData) (vs : List V) (us : List Value), DwAll K H vs ds → Vals vs us → ∃ as, ReadsAllW R cl h us ds as
  | [], _, _, x, r => by
    cases x
    cases r
    exact ⟨_, ReadsAllW.nil⟩
  | d :: ds, _, _, x, r => by
    cases x with
    | cons h1 h2 =>
      cases r with
      | cons r1 r2 =>
        obtain ⟨as, q1⟩ := Dw.reads hok KX d _ _ h1 r1
        obtain ⟨bs, q2⟩ := Dw.readsAll hok KX ds _ _ h2 r2
        exact ⟨_, ReadsAllW.cons q1 q2⟩
end
end
mutual
def plW : WData → Bool
  | .none => true
  | .bool _ => true
  | .int _ => true
  | .str _ => true
  | .bytes _ => true
  | .list xs => plWs xs
  | .tuple xs => plWs xs
  | _ => false
def plWs : List WData → Bool
  | [] => true
  | x :: r => plW x && plWs r
end
theorem plWs_map {α : Type} {f : α → WData} (h : ∀ a, plW (f a) = true) : ∀ l : List α, plWs (l.map f) = true
  | [] => rfl
  | x :: r => by
    show (plW (f x) && plWs (r.map f)) = true
    rw [h x, plWs_map h r] <;> rfl
theorem pl_enc : ∀ (c : Codec) (a : c.denote), plW (c.enc a) = true
  | .unit, _ => rfl
  | .bool, _ => rfl
  | .int _ _, _ => rfl
  | .nat _ _, _ => rfl
  | .u8, _ => rfl
  | .bytes _ _, _ => rfl
  | .text _ _ _ _, _ => rfl
  | .list _ _ c, a => plWs_map (fun x => pl_enc c x) a
  | .pair c d, a => by
    show (plW (c.enc a.1) && (plW (d.enc a.2) && true)) = true
    rw [pl_enc c a.1, pl_enc d a.2] <;> rfl
  | .triple c d e, a => by
    show (plW (c.enc a.1) && (plW (d.enc a.2.1) && (plW (e.enc a.2.2) && true))) = true
    rw [pl_enc c a.1, pl_enc d a.2.1, pl_enc e a.2.2] <;> rfl
  | .option c, none => rfl
  | .option c, some x => pl_enc c x
theorem pl_encAll : ∀ (cs : List Codec) (a : Codec.denoteAll cs), plWs (Codec.encAll cs a) = true
  | [], _ => rfl
  | c :: cs, a => by
    show (plW (c.enc a.1) && plWs (Codec.encAll cs a.2)) = true
    rw [pl_enc c a.1, pl_encAll cs a.2] <;> rfl
theorem weight_mem : ∀ {xs : List WData} {d : WData}, d ∈ xs → d.weight ≤ WData.weightAll xs
  | [], d, h => absurd h (by simp)
  | x :: r, d, h => by
    show d.weight ≤ x.weight + 1 + WData.weightAll r
    rcases List.mem_cons.mp h with e | m
    · rw [e]
      omega
    · have z := weight_mem m
      omega
def toV : Value → V
  | .none => .non
  | .bool b => .bl b
  | .int i _ => .int i
  | .str x _ => .str x
  | .bytes b _ => .byt b
  | .ref a => .ref a
  | _ => .non
def OkU (A : List Addr) : Value → Prop
  | .none => True
  | .bool _ => True
  | .int _ _ => True
  | .str _ _ => True
  | .bytes _ _ => True
  | .ref a => a ∈ A
  | _ => False
theorem OkU.mono {A B : List Addr} (h : ∀ a ∈ A, a ∈ B) : ∀ {u : Value}, OkU A u → OkU B u := fun {u} x => by
  cases u with
  | ref a => exact h a x
  | none => trivial
  | bool b => trivial
  | int i t => trivial
  | str s t => trivial
  | bytes b t => trivial
  | _ => exact False.elim x
theorem relV_toV {A : List Addr} {u : Value} (x : OkU A u) : RelV (toV u) u := by
  cases u with
  | ref a => rfl
  | none => rfl
  | bool b => rfl
  | int i t => exact ⟨t, rfl⟩
  | str s t => exact ⟨t, rfl⟩
  | bytes b t => exact ⟨t, rfl⟩
  | _ => exact False.elim x
theorem vals_toV {A : List Addr} : ∀ {vs : List Value}, (∀ u ∈ vs, OkU A u) → Vals (vs.map toV) vs
  | [], _ => .nil
  | u :: r, h => .cons (relV_toV (h u (List.mem_cons_self ..))) (vals_toV fun x hx => h x (List.mem_cons_of_mem _ hx))
def ArgOb (h : Heap) (A : List Addr) (a : Addr) : Prop := ∃ vs : List Value, vs.length ≤ sizeLine ∧ (∀ u ∈ vs, OkU A u) ∧
  (h.get? a = some { cls := .type "list", data := .seq vs.toArray } ∨ h.get? a = some { cls := .type "tuple", data := .seq vs.toArray })
theorem ArgOb.mono {h : Heap} {A B : List Addr} {a : Addr} (k : ∀ a ∈ A, a ∈ B) (x : ArgOb h A a) : ArgOb h B a := by
  obtain ⟨vs, h1, h2, h3⟩ := x
  exact ⟨vs, h1, fun u hu => (h2 u hu).mono k, h3⟩
theorem wellAll_len {P : Params} {h : Heap} : ∀ {vs : List Value} {ds : List WData}, WellAll P h vs ds → vs.length = ds.length
  | _, _, .nil => rfl
  | _, _, .cons _ b => by
    show _ + 1 = _ + 1
    rw [wellAll_len b]
theorem well_list {P : Params} {h : Heap} {v : Value} {ds : List WData} (x : Well P h v (.list ds)) : ∃ (a : Addr) (vs : List Value), v = .ref a ∧ h.get? a = some { cls := .type "list", data := .seq vs.toArray } ∧ WellAll P h vs ds := by
  cases x with
  | list ho hall => exact ⟨_, _, rfl, ho, hall⟩
theorem well_tuple {P : Params} {h : Heap} {v : Value} {ds : List WData} (x : Well P h v (.tuple ds)) : ∃ (a : Addr) (vs : List Value), v = .ref a ∧ h.get? a = some { cls := .type "tuple", data := .seq vs.toArray } ∧ WellAll P h vs ds := by
  cases x with
  | tuple ho hall => exact ⟨_, _, rfl, ho, hall⟩
theorem well_cons {P : Params} {h : Heap} {us : List Value} {d : WData} {ds : List WData} (x : WellAll P h us (d :: ds)) : ∃ (v : Value) (vs : List Value), us = v :: vs ∧ Well P h v d ∧ WellAll P h vs ds := by
  cases x with
  | cons a b => exact ⟨_, _, rfl, a, b⟩
theorem line_of {n : Nat} (h : n ≤ 1048576) : n ≤ sizeLine := Nat.le_trans h (by decide)
section
variable {P : Params} {h : Heap}
mutual
theorem area_one : ∀ (d : WData) (v : Value), Well P h v d → plW d = true → d.weight ≤ 1048576 → ∃ A : List Addr, OkU A v ∧ ∀ a ∈ A, ArgOb h A a
  | .none, _, x, _, _ => by
    cases x
    exact ⟨[], trivial, fun a m => absurd m (by simp)⟩
  | .bool b, _, x, _, _ => by
    cases x
    exact ⟨[], trivial, fun a m => absurd m (by simp)⟩
  | .int i, _, x, _, _ => by
    cases x
    exact ⟨[], trivial, fun a m => absurd m (by simp)⟩
  | .str s, _, x, _, _ => by
    cases x
    exact ⟨[], trivial, fun a m => absurd m (by simp)⟩
  | .bytes b, _, x, _, _ => by
    cases x
    exact ⟨[], trivial, fun a m => absurd m (by simp)⟩
  | .list ds, _, x, p, z => by
    obtain ⟨a, vs, rfl, ho, hall⟩ := well_list x
    have z2 : WData.weightAll ds ≤ 1048576 := z
    obtain ⟨A, h1, h2⟩ := area_all ds _ hall p fun d hd => Nat.le_trans (weight_mem hd) z2
    have k : ∀ b ∈ A, b ∈ a :: A := fun b hb => List.mem_cons_of_mem _ hb
    refine ⟨a :: A, List.mem_cons_self .., fun b hb => ?_⟩
    rcases List.mem_cons.mp hb with e | m
    · rw [e]
      exact ⟨vs, line_of (by rw [wellAll_len hall]; exact Nat.le_trans (PySem.W.length_le_weightAllW ds) z2), fun u hu => (h1 u hu).mono k, .inl ho⟩
    · exact (h2 b m).mono k
  | .tuple ds, _, x, p, z => by
    obtain ⟨a, vs, rfl, ho, hall⟩ := well_tuple x
    have z2 : WData.weightAll ds ≤ 1048576 := z
    obtain ⟨A, h1, h2⟩ := area_all ds _ hall p fun d hd => Nat.le_trans (weight_mem hd) z2
    have k : ∀ b ∈ A, b ∈ a :: A := fun b hb => List.mem_cons_of_mem _ hb
    refine ⟨a :: A, List.mem_cons_self .., fun b hb => ?_⟩
    rcases List.mem_cons.mp hb with e | m
    · rw [e]
      exact ⟨vs, line_of (by rw [wellAll_len hall]; exact Nat.le_trans (PySem.W.length_le_weightAllW ds) z2), fun u hu => (h1 u hu).mono k, .inr ho⟩
    · exact (h2 b m).mono k
  | .float _, _, _, p, _ => Bool.noConfusion (show false = true from p)
  | .dict _, _, _, p, _ => Bool.noConfusion (show false = true from p)
  | .bytearray _, _, _, p, _ => Bool.noConfusion (show false = true from p)
  | .set _, _, _, p, _ => Bool.noConfusion (show false = true from p)
  | .frozenset _, _, _, p, _ => Bool.noConfusion (show false = true from p)
  | .obj _ _, _, _, p, _ => Bool.noConfusion (show false = true from p)
theorem area_all : ∀ (ds : List WData) (vs : List Value), WellAll P h vs ds → plWs ds = true → (∀ d ∈ ds, d.weight ≤ 1048576) → ∃ A : List Addr, (∀ u ∈ vs, OkU A u) ∧ ∀ a ∈ A, ArgOb h A a
  | [], _, x, _, _ => by
    cases x
    exact ⟨[], fun u m => absurd m (by simp), fun a m => absurd m (by simp)⟩
  | d :: ds, _, x, p, z => by
    obtain ⟨v, vs, rfl, x1, x2⟩ := well_cons x
    have q : plW d = true ∧ plWs ds = true := Bool.and_eq_true_iff.mp p
    obtain ⟨A, a1, a2⟩ := area_one d v x1 q.1 (z d (List.mem_cons_self ..))
    obtain ⟨B, b1, b2⟩ := area_all ds vs x2 q.2 fun e he => z e (List.mem_cons_of_mem _ he)
    have kA : ∀ b ∈ A, b ∈ A ++ B := fun b hb => List.mem_append.mpr (.inl hb)
    have kB : ∀ b ∈ B, b ∈ A ++ B := fun b hb => List.mem_append.mpr (.inr hb)
    refine ⟨A ++ B, fun u hu => ?_, fun b hb => ?_⟩
    · rcases List.mem_cons.mp hu with e | m
      · rw [e]
        exact a1.mono kA
      · exact (b1 u m).mono kB
    · rcases List.mem_append.mp hb with m | m
      · exact (a2 b m).mono kA
      · exact (b2 b m).mono kB
end
end
def hoOf (o : Obj) : Option HO := match o.data with
  | .seq vs _ => if (o.cls == Value.type "list") = true then some (.frz o (.lst (vs.toList.map toV))) else some (.frz o (.tup (vs.toList.map toV)))
  | _ => none
def argH (K : PySem.W.Frag) (h : Heap) (A : List Addr) : Hp := fun b => if b ∈ A then (if (K.lookup b).isNone = true then (h.get? b).bind hoOf else none) else none
def OnlyF (H : Hp) : Prop := ∀ b, H b = none ∨ ∃ o u, H b = some (.frz o u)
theorem hoOf_lst (vs : List Value) : hoOf { cls := .type "list", data := .seq vs.toArray } = some (.frz { cls := .type "list", data := .seq vs.toArray } (.lst (vs.map toV))) := by
  show (if (Value.type "list" == Value.type "list") = true then some (HO.frz { cls := .type "list", data := .seq vs.toArray } (.lst (vs.toArray.toList.map toV))) else some (HO.frz { cls := .type "list", data := .seq vs.toArray } (.tup (vs.toArray.toList.map toV)))) = _
  rw [if_pos (beq_self_eq_true _)]
theorem hoOf_tup (vs : List Value) : hoOf { cls := .type "tuple", data := .seq vs.toArray } = some (.frz { cls := .type "tuple", data := .seq vs.toArray } (.tup (vs.map toV))) := by
  show (if (Value.type "tuple" == Value.type "list") = true then some (HO.frz { cls := .type "tuple", data := .seq vs.toArray } (.lst (vs.toArray.toList.map toV))) else some (HO.frz { cls := .type "tuple", data := .seq vs.toArray } (.tup (vs.toArray.toList.map toV)))) = _
  rw [if_neg (by decide)]
section
variable {P : Program} {w : World} {K : PySem.W.Frag} {h : Heap} {A : List Addr}
theorem argH_at {b : Addr} {o : Obj} (hb : b ∈ A) (hk : K.lookup b = none) (e : h.get? b = some o) : argH K h A b = hoOf o := by
  unfold argH
  rw [if_pos hb, hk, if_pos (show (none : Option Obj).isNone = true from rfl), e] <;> rfl
theorem of_argH {b : Addr} {u : HO} (q : argH K h A b = some u) : b ∈ A ∧ K.lookup b = none := by
  unfold argH at q
  by_cases hb : b ∈ A
  · rw [if_pos hb] at q
    cases hk : K.lookup b with
    | none => exact ⟨hb, rfl⟩
    | some o =>
      rw [hk, if_neg (by simp)] at q
      cases q
  · rw [if_neg hb] at q
    cases q
theorem argH_is (ar : ∀ a ∈ A, ArgOb h A a) {b : Addr} {u : HO} (q : argH K h A b = some u) : K.lookup b = none ∧ ∃ vs : List Value, vs.length ≤ sizeLine ∧ (∀ u ∈ vs, OkU A u) ∧
    ((h.get? b = some { cls := .type "list", data := .seq vs.toArray } ∧ u = .frz { cls := .type "list", data := .seq vs.toArray } (.lst (vs.map toV))) ∨
     (h.get? b = some { cls := .type "tuple", data := .seq vs.toArray } ∧ u = .frz { cls := .type "tuple", data := .seq vs.toArray } (.tup (vs.map toV)))) := by
  obtain ⟨hb, hk⟩ := of_argH q
  obtain ⟨vs, h1, h2, h3⟩ := ar b hb
  refine ⟨hk, vs, h1, h2, ?_⟩
  rcases h3 with e | e
  · rw [argH_at hb hk e, hoOf_lst] at q
    exact .inl ⟨e, (Option.some.inj q).symm⟩
  · rw [argH_at hb hk e, hoOf_tup] at q
    exact .inr ⟨e, (Option.some.inj q).symm⟩
theorem argH_only (ar : ∀ a ∈ A, ArgOb h A a) : OnlyF (argH K h A) := fun b => by
  cases q : argH K h A b with
  | none => exact .inl rfl
  | some u =>
    obtain ⟨_, vs, _, _, ⟨_, e⟩ | ⟨_, e⟩⟩ := argH_is ar q
    · exact .inr ⟨_, _, by rw [e]⟩
    · exact .inr ⟨_, _, by rw [e]⟩
theorem argH_ok (ar : ∀ a ∈ A, ArgOb h A a) : HOk P w (argH K h A) h := fun b u q => by
  obtain ⟨_, vs, h1, h2, ⟨e, rfl⟩ | ⟨e, rfl⟩⟩ := argH_is ar q
  · exact ⟨e, by rw [List.length_map]; exact h1, vs, _, vals_toV h2, e⟩
  · exact ⟨e, by rw [List.length_map]; exact h1, vs, vals_toV h2, _, e, rfl, _, rfl⟩
theorem seq_inj {c c' : Value} {vs us : List Value} (e : (some { cls := c, data := .seq vs.toArray } : Option Obj) = some { cls := c', data := .seq us.toArray }) : c = c' ∧ vs = us := by
  have e1 := Option.some.inj e
  have e2 : c = c' := congrArg Obj.cls e1
  have e3 : Data.seq vs.toArray = Data.seq us.toArray := congrArg Obj.data e1
  injection e3 with e4
  refine ⟨e2, ?_⟩
  have e5 := congrArg Array.toList e4
  simpa using e5
theorem argL (KX : K.In h) (ar : ∀ a ∈ A, ArgOb h A a) {a : Addr} {vs : List Value} (ha : a ∈ A) (e : h.get? a = some { cls := .type "list", data := .seq vs.toArray }) : (∀ u ∈ vs, OkU A u) ∧ SqL K (argH K h A) a (vs.map toV) := by
  obtain ⟨us, h1, h2, h3⟩ := ar a ha
  have hu : us = vs := by
    rcases h3 with q | q
    · rw [e] at q
      exact (seq_inj q).2.symm
    · rw [e] at q
      exact absurd (Value.type.inj (seq_inj q).1) (by decide)
  subst hu
  refine ⟨h2, ?_⟩
  cases hk : K.lookup a with
  | none => exact .inl (.inr ⟨_, by rw [argH_at ha hk e, hoOf_lst]⟩)
  | some o =>
    have e2 := KX a o hk
    rw [e] at e2
    obtain rfl := Option.some.inj e2
    exact .inr ⟨_, us.toArray, _, hk, rfl, rfl, rfl, by rw [List.size_toArray]; exact h1, by simpa using vals_toV h2⟩
theorem argT (KX : K.In h) (ar : ∀ a ∈ A, ArgOb h A a) {a : Addr} {vs : List Value} (ha : a ∈ A) (e : h.get? a = some { cls := .type "tuple", data := .seq vs.toArray }) : (∀ u ∈ vs, OkU A u) ∧ SqT K (argH K h A) a (vs.map toV) := by
  obtain ⟨us, h1, h2, h3⟩ := ar a ha
  have hu : us = vs := by
    rcases h3 with q | q
    · rw [e] at q
      exact absurd (Value.type.inj (seq_inj q).1) (by decide)
    · rw [e] at q
      exact (seq_inj q).2.symm
  subst hu
  refine ⟨h2, ?_⟩
  cases hk : K.lookup a with
  | none => exact .inl (.inr ⟨_, by rw [argH_at ha hk e, hoOf_tup]⟩)
  | some o =>
    have e2 := KX a o hk
    rw [e] at e2
    obtain rfl := Option.some.inj e2
    exact .inr ⟨_, us.toArray, _, hk, rfl, rfl, by rw [List.size_toArray]; exact h1, by simpa using vals_toV h2⟩
mutual
theorem dw_one {Pm : Params} (KX : K.In h) (ar : ∀ a ∈ A, ArgOb h A a) : ∀ (d : WData) (v : Value), Well Pm h v d → plW d = true → OkU A v → Dw K (argH K h A) (toV v) d
  | .none, _, x, _, _ => by
    cases x
    exact .non
  | .bool b, _, x, _, _ => by
    cases x
    exact .bl b
  | .int i, _, x, _, _ => by
    cases x
    exact .int i
  | .str s, _, x, _, _ => by
    cases x
    exact .str s
  | .bytes b, _, x, _, _ => by
    cases x
    have z := Dw.byt (K := K) (H := argH K h A) b.toArray
    exact z
  | .list ds, _, x, p, hu => by
    obtain ⟨a, vs, rfl, ho, hall⟩ := well_list x
    obtain ⟨h2, hs⟩ := argL KX ar hu ho
    exact .lst hs (dw_all KX ar ds _ hall p h2)
  | .tuple ds, _, x, p, hu => by
    obtain ⟨a, vs, rfl, ho, hall⟩ := well_tuple x
    obtain ⟨h2, hs⟩ := argT KX ar hu ho
    exact .tup hs (dw_all KX ar ds _ hall p h2)
  | .float _, _, _, p, _ => Bool.noConfusion (show false = true from p)
  | .dict _, _, _, p, _ => Bool.noConfusion (show false = true from p)
  | .bytearray _, _, _, p, _ => Bool.noConfusion (show false = true from p)
  | .set _, _, _, p, _ => Bool.noConfusion (show false = true from p)
  | .frozenset _, _, _, p, _ => Bool.noConfusion (show false = true from p)
  | .obj _ _, _, _, p, _ => Bool.noConfusion (show false = true from p)
theorem dw_all {Pm : Params} (KX : K.In h) (ar : ∀ a ∈ A, ArgOb h A a) : ∀ (ds : List WData) (vs : List Value), WellAll Pm h vs ds → plWs ds = true → (∀ u ∈ vs, OkU A u) → DwAll K (argH K h A) (vs.map toV) ds
  | [], _, x, _, _ => by
    cases x
    exact .nil
  | d :: ds, _, x, p, hu => by
    obtain ⟨v, vs, rfl, x1, x2⟩ := well_cons x
    have q : plW d = true ∧ plWs ds = true := Bool.and_eq_true_iff.mp p
    exact .cons (dw_one KX ar d v x1 q.1 (hu _ (List.mem_cons_self ..))) (dw_all KX ar ds vs x2 q.2 fun u m => hu u (List.mem_cons_of_mem _ m))
end
end
theorem spec_call {P : Program} {w : World} {K : PySem.W.Frag} {mg mb : Str → Option Value} {CX : CXT} {k : Nat} {fa : Addr} {fd : FuncData} {ps : List Str} {sp : Sp} {s₁ : Shared} {vals : List Value} {ds : List WData} {R : PySem.W.WRecords} {cl : Str → Option Addr} {d0 : WData}
    (KX : K.In s₁.heap) (hns : s₁.heap.Ns mainGlobals mg) (hb : s₁.heap.Ns builtinsNs mb) (hbb : ∀ x : Str, x ≠ "__name__" → mb x = bootBuiltins x) (hlim : s₁.heap.NoLimit) (hg : s₁.gens = #[])
    (hwl : WellAll w.params s₁.heap vals ds) (hpl : plWs ds = true) (hwt : ∀ d ∈ ds, d.weight ≤ 1048576) (hr : Room k callerA)
    (F : ∀ base : Heap, K.In base → base.Ns mainGlobals mg → FnOk P w K mg base CX k fa fd ps sp) (hbind : ∀ (s : Shared) (us : List Value), us.length = ps.length → BindsTo s fd ⟨us, []⟩ (ps.zip us)) (hlen : ds.length = ps.length)
    (hsp : ∀ (H : Hp) (xs : List V), OnlyF H → DwAll K H xs ds → sp xs H (fun v H' => Dw K H' v d0) fun _ _ _ => False)
    (hCX : ∀ H e s', CX [] H s₁ (fun _ _ _ => False) e s' → False) :
    codeAny (model P w) callerA (.call (.ref fa) ⟨vals, []⟩) (fun r s' => ∃ u as, r = .ok (.ret u) ∧ ReadsW R cl s'.heap u d0 as ∧ OldK s₁.heap s'.heap ∧ s'.os = s₁.os ∧ AllBare s'.gens) s₁ := by
  obtain ⟨A, ho, ar⟩ := area_all ds vals hwl hpl hwt
  have hO : OnlyF (argH K s₁.heap A) := argH_only ar
  have hok : HOk P w (argH K s₁.heap A) s₁.heap := argH_ok ar
  have hS := dw_all KX ar ds vals hwl hpl ho
  have hV := vals_toV ho
  have hK : ∀ b u, argH K s₁.heap A b = some u → K.lookup b = none := fun b u q => (argH_is ar q).1
  have noA : ∀ {b : Addr} {o : Obj} {es : Array DictEntry} {ep : Nat}, s₁.heap.get? b = some o → o.data = .dict es ep → argH K s₁.heap A b = none := fun {b o es ep} e d => by
    cases q : argH K s₁.heap A b with
    | none => rfl
    | some u =>
      obtain ⟨_, vs, _, _, ⟨e2, _⟩ | ⟨e2, _⟩⟩ := argH_is ar q
      · rw [e2] at e
        cases e
        have d' : Data.seq vs.toArray _ = Data.dict es ep := d
        cases d'
      · rw [e2] at e
        cases e
        have d' : Data.seq vs.toArray _ = Data.dict es ep := d
        cases d'
  generalize argH K s₁.heap A = H at hO hok hS hK noA
  have base_of : ∀ {b : Addr} {o : Obj}, s₁.heap.get? b = some o → H b = none → (hidT s₁.heap H).get? b = some o := fun e n => hidT_get e n
  have nsK : ∀ {b : Addr} {m : Str → Option Value}, s₁.heap.Ns b m → (hidT s₁.heap H).Ns b m := fun {b m} ⟨o, es, ep, e, d, r⟩ => ⟨o, es, ep, base_of e (noA e d), d, r⟩
  have nK : ∀ b o, K.lookup b = some o → H b = none := fun b o e => by
    cases q : H b with
    | none => rfl
    | some u =>
      rw [hK b u q] at e
      cases e
  have hKb : K.In (hidT s₁.heap H) := fun b o e => base_of (KX b o e) (nK b o e)
  have hM : Mod K mg (hidT s₁.heap H) := ⟨hKb, nsK hns, ⟨mb, nsK hb, hbb⟩, let ⟨mc, h1, h2⟩ := hlim; ⟨mc, nsK h1, h2⟩⟩
  have e0 : Env0 P w K mg (hidT s₁.heap H) callerA [] s₁ H := ⟨rfl, hM, fun b o e => of_hidT e, Nat.le_of_eq (hidT_size _ _), trivial, fun b hb => absurd (show b ∈ ([] : List Addr) from hb) (by simp), hok, .of_eq hg⟩
  have hl : vals.length = ps.length := by rw [wellAll_len hwl]; exact hlen
  refine codeAny_mono ((F _ hKb (nsK hns)).run callerA [] s₁ H ⟨vals, []⟩ vals (vals.map toV) _ _ hr e0 (hbind s₁ vals hl) hV (hsp H _ hO hS)) fun r s' x => ?_
  cases r with
  | error e => exact (hCX H e s' x).elim
  | ok fl =>
    cases fl with
    | next => exact False.elim x
    | brk => exact False.elim x
    | cont => exact False.elim x
    | ret u =>
      obtain ⟨v, H', os, bare, un, hok', r', q⟩ := x
      have kept : ∀ b o, s₁.heap.get? b = some o → s'.heap.get? b = some o := fun b o e => by
        cases q2 : H b with
        | none => exact un.keep b o e q2 (by intro z; exact absurd (show b ∈ ([] : List Addr) from z) (by simp)) (by simp)
        | some u2 =>
          rcases hO b with z | ⟨ob, u3, z⟩
          · rw [q2] at z
            cases z
          · have z2 := un.frzs b ob _ z
            obtain ⟨e1, _⟩ := hok b _ z
            obtain ⟨e2, _⟩ := hok' b _ z2
            rw [e] at e1
            cases e1
            exact e2
      have KX' : K.In s'.heap := fun b o e => kept b o (KX b o e)
      obtain ⟨as, hrd⟩ := Dw.reads (R := R) (cl := cl) hok' KX' d0 v u q r'
      exact ⟨u, as, rfl, hrd, OldK.of_keep kept, os, bare⟩
theorem layable_weight {ds : List WData} (h : WData.layableAll ds = true) : ∀ d ∈ ds, d.weight ≤ 1048576 := fun d hd =>
  (PySem.W.layableW_iff.mp (List.all_eq_true.mp h d hd)).2.2
theorem encAll_len : ∀ (cs : List Codec) (a : Codec.denoteAll cs), (Codec.encAll cs a).length = cs.length
  | [], _ => rfl
  | c :: cs, a => by
    show (Codec.encAll cs a.2).length + 1 = cs.length + 1
    rw [encAll_len cs a.2]
theorem walk_spec {r : OpenSpec} {k : Nat} {q : Program} {loose : List Str} {XP : (Str → Option Value) → Heap → Prop} {YP : World → Heap → Prop} {d : DefRec} {K : Params → PySem.W.Frag} {CX : World → CXT} {ps : List Str} {sp : World → Sp}
    (hwell : r.wellSaid = true) (hdf : d.params.defaults = []) (hlen : r.args.length = ps.length) (hr : Room k callerA)
    (hY : ∀ (w : World) (h : Heap), YP w h → (K w.params).In h)
    (F : ∀ (w : World) (mg : Str → Option Value) (fa : Addr) (h : Heap), YP w h → (K w.params).In h → h.Ns mainGlobals mg → mg d.name = some (.ref fa) →
      ∃ fd : FuncData, (∀ (s : Shared) (us : List Value), us.length = ps.length → BindsTo s fd ⟨us, []⟩ (ps.zip us)) ∧
        ∀ base : Heap, (K w.params).In base → base.Ns mainGlobals mg → FnOk r.prog w (K w.params) mg base (CX w) k fa fd ps (sp w))
    (hsp : ∀ (w : World) (H : Hp) (xs : List V) (a : Codec.denoteAll r.args), OnlyF H → Codec.withinAll r.args a = true → Codec.app r.args r.asked a = true → DwAll (K w.params) H xs (Codec.encAll r.args a) →
      sp w xs H (fun v H' => Dw (K w.params) H' v (r.ret.enc (Codec.app r.args r.f a))) fun _ _ _ => False)
    (hCX : ∀ (w : World) (H : Hp) (s : Shared) (e : Value) (s' : Shared), CX w [] H s (fun _ _ _ => False) e s' → False) :
    PySem.W.WalkOS q loose XP YP r d [] (fun f vs => PySem.call f vs) := by
  intro w s_0 s₁ mg mb G Y fa o pm cd doc dV kV ho hd hcd hD hmg hg args vals as hpre hlay hrd hwl hlo
  obtain ⟨a, e1, e2⟩ := PySem.W.os_pre_some hpre
  obtain ⟨e3, hwi⟩ := Codec.encAll_of_decAll r.args args a e1
  subst e3
  have KX := hY w _ Y
  obtain ⟨fd, hb, hF⟩ := F w mg fa _ Y KX G.T.g hmg
  refine PySem.W.enter_call (codeAny_mono (spec_call (R := []) (cl := classAt s_0.heap) (d0 := r.ret.enc (Codec.app r.args r.f a)) KX G.T.g G.T.b G.T.builtins G.T.nolimit hg hwl (pl_encAll _ _) (layable_weight hlay) hr hF hb (by rw [encAll_len]; exact hlen)
    (fun H xs hO hS => hsp w H xs a hO hwi e2 hS) fun H e s' => hCX w H s₁ e s') fun r' s' hq => ?_)
  obtain ⟨u, as', rfl, h1, h2, h3, h4⟩ := hq
  exact ⟨.inl ⟨u, _, as', rfl, fun _ => rfl, h1, (OpenSpec.post_iff hwell hwi _ _).mpr rfl, fun z => Bool.noConfusion (show false = true from z)⟩, h2, h3, h4⟩
theorem walk_specK {r : OpenSpec} {k : Nat} {q : Program} {loose : List Str} {XP : (Str → Option Value) → Heap → Prop} {YP : World → Heap → Prop} {d : DefRec} {K : Params → PySem.W.Frag} {CX : CXT} {ps : List Str} {sp : PySem.W.Frag → Sp}
    (hwell : r.wellSaid = true) (hdf : d.params.defaults = []) (hlen : r.args.length = ps.length) (hr : Room k callerA)
    (hY : ∀ (w : World) (h : Heap), YP w h → (K w.params).In h)
    (F : ∀ (w : World) (mg : Str → Option Value) (fa : Addr) (h : Heap), YP w h → (K w.params).In h → h.Ns mainGlobals mg → mg d.name = some (.ref fa) →
      ∃ fd : FuncData, (∀ (s : Shared) (us : List Value), us.length = ps.length → BindsTo s fd ⟨us, []⟩ (ps.zip us)) ∧
        ∀ base : Heap, (K w.params).In base → base.Ns mainGlobals mg → FnOk r.prog w (K w.params) mg base CX k fa fd ps (sp (K w.params)))
    (hsp : ∀ (K : PySem.W.Frag) (H : Hp) (xs : List V) (a : Codec.denoteAll r.args), OnlyF H → Codec.withinAll r.args a = true → Codec.app r.args r.asked a = true → DwAll K H xs (Codec.encAll r.args a) →
      sp K xs H (fun v H' => Dw K H' v (r.ret.enc (Codec.app r.args r.f a))) fun _ _ _ => False)
    (hCX : ∀ (H : Hp) (s : Shared) (e : Value) (s' : Shared), CX [] H s (fun _ _ _ => False) e s' → False) :
    PySem.W.WalkOS q loose XP YP r d [] (fun f vs => PySem.call f vs) :=
  walk_spec (K := K) (CX := fun _ => CX) (sp := fun w => sp (K w.params)) hwell hdf hlen hr hY F (fun w H xs a h1 h2 h3 h4 => hsp (K w.params) H xs a h1 h2 h3 h4) fun _ H s e s' => hCX H s e s'
end L2
end
set_option linter.all false
namespace PM
open Sv14
def mstep (o : List Span) (s : Span) : List Span := match o with
  | p :: r => if s.1 ≤ p.2 + 1 then (p.1, max p.2 s.2) :: r else s :: o
  | [] => [s]
theorem merged_eq (l : List Span) : merged l = (l.foldl mstep []).reverse := by
  unfold merged
  congr 1
def fl (l : List Span) : List Int := l.flatMap fun s => [(s.1 : Int), (s.2 : Int) + 1]
theorem fl_cons (s : Span) (l : List Span) : fl (s :: l) = (s.1 : Int) :: ((s.2 : Int) + 1) :: fl l := rfl
theorem fl_append (l m : List Span) : fl (l ++ m) = fl l ++ fl m := by
  unfold fl; rw [List.flatMap_append]
theorem fl_snoc (l : List Span) (s : Span) : fl (l ++ [s]) = fl l ++ [(s.1 : Int), (s.2 : Int) + 1] := by
  rw [fl_append]; rfl
theorem fl_length (l : List Span) : (fl l).length = 2 * l.length := by
  induction l with
  | nil => rfl
  | cons s l ih => rw [fl_cons, List.length_cons, List.length_cons, ih, List.length_cons]; omega
theorem fl_even : ∀ (l : List Span) (i : Nat) (s : Span), l[i]? = some s → (fl l)[2 * i]? = some (s.1 : Int)
  | [], i, s, h => by simp at h
  | t :: l, 0, s, h => by
    have e : t = s := Option.some.inj h
    subst e; rfl
  | t :: l, i + 1, s, h => by
    rw [fl_cons, show 2 * (i + 1) = 2 * i + 1 + 1 by omega, List.getElem?_cons_succ, List.getElem?_cons_succ]
    exact fl_even l i s (by simpa using h)
theorem fl_odd : ∀ (l : List Span) (i : Nat) (s : Span), l[i]? = some s → (fl l)[2 * i + 1]? = some ((s.2 : Int) + 1)
  | [], i, s, h => by simp at h
  | t :: l, 0, s, h => by
    have e : t = s := Option.some.inj h
    subst e; rfl
  | t :: l, i + 1, s, h => by
    rw [fl_cons, show 2 * (i + 1) + 1 = 2 * i + 1 + 1 + 1 by omega, List.getElem?_cons_succ, List.getElem?_cons_succ]
    exact fl_odd l i s (by simpa using h)
def Ok (l : List Span) : Prop := ∀ s, s ∈ l → s.1 ≤ s.2
theorem size_cons (s : Span) (l : List Span) : sizeOf_ (s :: l) = (s.2 + 1 - s.1) + sizeOf_ l := by
  unfold sizeOf_; rw [List.map_cons, List.sum_cons]
theorem size_nil : sizeOf_ [] = 0 := rfl
theorem size_append (l m : List Span) : sizeOf_ (l ++ m) = sizeOf_ l + sizeOf_ m := by
  induction l with
  | nil => rw [List.nil_append, size_nil]; omega
  | cons s l ih => rw [List.cons_append, size_cons, size_cons, ih]; omega
theorem fm_congr {α β : Type} {f g : α → Option β} : ∀ l : List α, (∀ x, x ∈ l → f x = g x) → l.filterMap f = l.filterMap g
  | [], _ => rfl
  | x :: l, h => by
    rw [List.filterMap_cons, List.filterMap_cons, h x (List.mem_cons_self ..), fm_congr l fun y hy => h y (List.mem_cons_of_mem _ hy)]
def evens {α : Type} : List α → List α
  | [] => []
  | [x] => [x]
  | x :: _ :: r => x :: evens r
theorem evens_map {α β : Type} (f : α → β) : ∀ l : List α, evens (l.map f) = (evens l).map f
  | [] => rfl
  | [x] => rfl
  | x :: y :: r => by
    show f x :: evens (r.map f) = f x :: (evens r).map f
    rw [evens_map f r]
theorem evens_len {α : Type} : ∀ l : List α, (evens l).length ≤ l.length
  | [] => Nat.le_refl _
  | [x] => Nat.le_refl _
  | x :: y :: r => by
    have := evens_len r
    show (evens r).length + 1 ≤ r.length + 1 + 1
    omega
theorem evens_pick {α : Type} : ∀ l : List α, ((List.range ((l.length + 1) / 2)).map (2 * ·)).filterMap (l[·]?) = evens l
  | [] => by simp [evens]
  | [x] => by simp [evens, List.range_succ]
  | x :: y :: r => by
    have ih := evens_pick r
    have e : ((x :: y :: r).length + 1) / 2 = (r.length + 1) / 2 + 1 := by simp only [List.length_cons]; omega
    rw [e, List.range_succ_eq_map, List.map_cons, List.map_map, List.filterMap_cons]
    show x :: _ = x :: evens r
    congr 1
    rw [← ih, List.filterMap_map, List.filterMap_map]
    apply fm_congr
    intro j _
    show (x :: y :: r)[2 * (j + 1)]? = r[2 * j]?
    rw [show 2 * (j + 1) = 2 * j + 1 + 1 by omega, List.getElem?_cons_succ, List.getElem?_cons_succ]
theorem evens_fl : ∀ l : List Span, (evens (fl l)).sum = (l.map fun s => (s.1 : Int)).sum
  | [] => rfl
  | s :: l => by
    rw [fl_cons]; show ((s.1 : Int) :: evens (fl l)).sum = _
    rw [List.sum_cons, evens_fl l, List.map_cons, List.sum_cons]
theorem odds_fl : ∀ l : List Span, (evens ((fl l).drop 1)).sum = (l.map fun s => (s.2 : Int) + 1).sum
  | [] => rfl
  | [s] => by rfl
  | s :: t :: l => by
    rw [fl_cons, fl_cons]
    show (((s.2 : Int) + 1) :: evens (((t.2 : Int) + 1) :: fl l)).sum = _
    have ih := odds_fl (t :: l)
    rw [fl_cons] at ih
    have ih' : (evens (((t.2 : Int) + 1) :: fl l)).sum = (((t :: l).map fun s => (s.2 : Int) + 1)).sum := ih
    rw [List.sum_cons, ih']
    simp only [List.map_cons, List.sum_cons]
theorem count_fl : ∀ l : List Span, Ok l → (l.map fun s => (s.2 : Int) + 1).sum - (l.map fun s => (s.1 : Int)).sum = (sizeOf_ l : Int)
  | [], _ => rfl
  | s :: l, h => by
    have ih := count_fl l fun t ht => h t (List.mem_cons_of_mem _ ht)
    have hs := h s (List.mem_cons_self ..)
    rw [List.map_cons, List.map_cons, List.sum_cons, List.sum_cons, size_cons]
    omega
def Sorted1 (l : List Span) : Prop := l.Pairwise fun a b => a.1 ≤ b.1
def RevOk (o : List Span) : Prop := (∀ s, s ∈ o → s.1 ≤ s.2) ∧ o.Pairwise fun a b => b.2 + 1 < a.1
theorem mstep_ok {o : List Span} {s : Span} (h : RevOk o) (hs : s.1 ≤ s.2) (hf : ∀ p r, o = p :: r → p.1 ≤ s.1) : RevOk (mstep o s) := by
  cases o with
  | nil => exact ⟨fun t ht => by rw [List.mem_singleton.mp ht]; exact hs, by simp [mstep]⟩
  | cons p r =>
    have hp := hf p r rfl
    obtain ⟨h1, h2⟩ := h
    rw [List.pairwise_cons] at h2
    have hpp := h1 p (List.mem_cons_self ..)
    unfold mstep
    dsimp only
    by_cases c : s.1 ≤ p.2 + 1
    · rw [if_pos c]
      refine ⟨fun t ht => ?_, ?_⟩
      · rcases List.mem_cons.mp ht with e | e
        · subst e; dsimp only; omega
        · exact h1 t (List.mem_cons_of_mem _ e)
      · rw [List.pairwise_cons]
        exact ⟨fun t ht => h2.1 t ht, h2.2⟩
    · rw [if_neg c]
      refine ⟨fun t ht => ?_, ?_⟩
      · rcases List.mem_cons.mp ht with e | e
        · subst e; exact hs
        · exact h1 t e
      · rw [List.pairwise_cons]
        refine ⟨fun t ht => ?_, List.pairwise_cons.mpr h2⟩
        rcases List.mem_cons.mp ht with e | e
        · subst e; omega
        · have := h2.1 t e; omega
theorem mstep_head {o : List Span} {s : Span} {p : Span} {r : List Span} (e : mstep o s = p :: r) (hf : ∀ p r, o = p :: r → p.1 ≤ s.1) : p.1 ≤ s.1 := by
  cases o with
  | nil => unfold mstep at e; cases e; exact Nat.le_refl _
  | cons q t =>
    have hq := hf q t rfl
    unfold mstep at e
    dsimp only at e
    by_cases c : s.1 ≤ q.2 + 1
    · rw [if_pos c] at e; cases e; exact hq
    · rw [if_neg c] at e; cases e; exact Nat.le_refl _
theorem fold_ok : ∀ (l o : List Span), RevOk o → (∀ s, s ∈ l → s.1 ≤ s.2) → Sorted1 l → (∀ s, s ∈ l → ∀ p r, o = p :: r → p.1 ≤ s.1) → RevOk (l.foldl mstep o)
  | [], o, h, _, _, _ => h
  | s :: l, o, h, h1, h2, h3 => by
    rw [List.foldl_cons]
    have h2' := List.pairwise_cons.mp h2
    refine fold_ok l _ (mstep_ok h (h1 s (List.mem_cons_self ..)) fun p r e => h3 s (List.mem_cons_self ..) p r e) (fun t ht => h1 t (List.mem_cons_of_mem _ ht)) h2'.2 fun t ht p r e => ?_
    exact Nat.le_trans (mstep_head e fun p r e => h3 s (List.mem_cons_self ..) p r e) (h2'.1 t ht)
theorem mstep_below {o : List Span} {s : Span} {n : Nat} (h : ∀ t, t ∈ o → t.2 < n) (hs : s.2 < n) : ∀ t, t ∈ mstep o s → t.2 < n := by
  intro t ht
  cases o with
  | nil => unfold mstep at ht; rw [List.mem_singleton.mp ht]; exact hs
  | cons p r =>
    unfold mstep at ht
    dsimp only at ht
    have hp := h p (List.mem_cons_self ..)
    by_cases c : s.1 ≤ p.2 + 1
    · rw [if_pos c] at ht
      rcases List.mem_cons.mp ht with e | e
      · subst e; dsimp only; omega
      · exact h t (List.mem_cons_of_mem _ e)
    · rw [if_neg c] at ht
      rcases List.mem_cons.mp ht with e | e
      · subst e; exact hs
      · exact h t e
theorem fold_below {n : Nat} : ∀ (l o : List Span), (∀ t, t ∈ o → t.2 < n) → (∀ t, t ∈ l → t.2 < n) → ∀ t, t ∈ l.foldl mstep o → t.2 < n
  | [], o, h, _ => h
  | s :: l, o, h, h1 => fold_below l _ (mstep_below h (h1 s (List.mem_cons_self ..))) fun t ht => h1 t (List.mem_cons_of_mem _ ht)
theorem merged_proper {l : List Span} (h1 : ∀ s, s ∈ l → s.1 ≤ s.2 ∧ s.2 < ALL) (h2 : Sorted1 l) : Proper (merged l) := by
  rw [merged_eq]
  have a := fold_ok l [] ⟨by simp, by simp⟩ (fun s hs => (h1 s hs).1) h2 (by intro s _ p r e; cases e)
  have b := fold_below l [] (by simp) (fun s hs => (h1 s hs).2)
  refine ⟨fun s hs => ?_, ?_⟩
  · rw [List.mem_reverse] at hs
    exact ⟨a.1 s hs, b s hs⟩
  · rw [List.pairwise_reverse]
    exact a.2
theorem mstep_len (o : List Span) (s : Span) : (mstep o s).length ≤ o.length + 1 := by
  cases o with
  | nil => simp [mstep]
  | cons p r =>
    unfold mstep; dsimp only
    by_cases c : s.1 ≤ p.2 + 1
    · rw [if_pos c]; simp
    · rw [if_neg c]; simp
theorem fold_len : ∀ (l o : List Span), (l.foldl mstep o).length ≤ o.length + l.length
  | [], o => by simp
  | s :: l, o => by
    rw [List.foldl_cons, List.length_cons]
    have := fold_len l (mstep o s)
    have := mstep_len o s
    omega
end PM
set_option linter.all false
namespace PM
open Sv14
abbrev Chunk := Nat × Span
def chunks (l : List Span) : List Chunk := l.flatMap byKey
def lo (x : Chunk) : Nat := PART * x.1 + x.2.1
def hi (x : Chunk) : Nat := PART * x.1 + x.2.2
def COk (x : Chunk) : Prop := x.2.1 ≤ x.2.2 ∧ x.2.2 < PART
theorem byKey_len (s : Span) : (byKey s).length = s.2 / PART + 1 - s.1 / PART := by
  unfold byKey; rw [List.length_map, List.length_range]
theorem byKey_get {s : Span} {i : Nat} (h : i < s.2 / PART + 1 - s.1 / PART) :
    (byKey s)[i]? = some (s.1 / PART + i, (if i = 0 then s.1 % PART else 0, if s.1 / PART + i = s.2 / PART then s.2 % PART else PART - 1)) := by
  unfold byKey
  rw [List.getElem?_map, List.getElem?_range h]
  rfl
theorem byKey_mem {s : Span} {x : Chunk} (hs : s.1 ≤ s.2) (hx : x ∈ byKey s) : COk x ∧ s.1 ≤ lo x ∧ hi x ≤ s.2 := by
  unfold byKey at hx
  obtain ⟨i, hi', rfl⟩ := List.mem_map.mp hx
  rw [List.mem_range] at hi'
  unfold COk lo hi
  dsimp only
  have hP : PART = 65536 := rfl
  simp only [hP] at hi' ⊢
  by_cases c : i = 0
  · subst c
    rw [if_pos rfl]
    by_cases d : s.1 / 65536 + 0 = s.2 / 65536
    · rw [if_pos d]; omega
    · rw [if_neg d]; omega
  · rw [if_neg c]
    by_cases d : s.1 / 65536 + i = s.2 / 65536
    · rw [if_pos d]; omega
    · rw [if_neg d]; omega
def Ord (x y : Chunk) : Prop := hi x < lo y
theorem byKey_ord {s : Span} (hs : s.1 ≤ s.2) : (byKey s).Pairwise Ord := by
  unfold byKey
  rw [List.pairwise_map]
  refine (List.pairwise_lt_range).imp_of_mem ?_
  intro i j hi' hj hij
  rw [List.mem_range] at hi' hj
  unfold Ord lo hi
  dsimp only
  have hP : PART = 65536 := rfl
  simp only [hP] at hi' hj ⊢
  rw [if_neg (show ¬ j = 0 by omega), if_neg (show ¬ s.1 / 65536 + i = s.2 / 65536 by omega)]
  omega
theorem chunks_ok {l : List Span} (h : Proper l) : (∀ x, x ∈ chunks l → COk x ∧ hi x < ALL) ∧ (chunks l).Pairwise Ord := by
  refine ⟨fun x hx => ?_, ?_⟩
  · obtain ⟨s, hs, hx'⟩ := List.mem_flatMap.mp hx
    have := h.1 s hs
    have b := byKey_mem this.1 hx'
    exact ⟨b.1, Nat.lt_of_le_of_lt b.2.2 this.2⟩
  · unfold chunks
    rw [List.pairwise_flatMap]
    refine ⟨fun s hs => byKey_ord (h.1 s hs).1, ?_⟩
    refine h.2.imp_of_mem ?_
    intro a b ha hb hab x hx y hy
    have h1 := byKey_mem (h.1 a ha).1 hx
    have h2 := byKey_mem (h.1 b hb).1 hy
    unfold Ord
    omega
abbrev Group := Nat × List Span
def gsnoc (g : List Group) (x : Chunk) : List Group := match g.getLast? with
  | some (k, m) => if k = x.1 then g.dropLast ++ [(k, m ++ [x.2])] else g ++ [(x.1, [x.2])]
  | none => [(x.1, [x.2])]
def gcons (x : Chunk) (o : List Group) : List Group := match o with
  | (k, m) :: r => if k = x.1 then (k, x.2 :: m) :: r else (x.1, [x.2]) :: o
  | [] => [(x.1, [x.2])]
theorem grouped_cons (x : Chunk) (l : List Chunk) : grouped (x :: l) = gcons x (grouped l) := by
  unfold grouped
  rw [List.foldr_cons]
  generalize List.foldr _ _ l = o
  cases o with
  | nil => rfl
  | cons p r => rfl
theorem gsnoc_cons (h : Group) (g : List Group) (hg : g ≠ []) (x : Chunk) : gsnoc (h :: g) x = h :: gsnoc g x := by
  unfold gsnoc
  cases g with
  | nil => exact absurd rfl hg
  | cons a r =>
    rw [List.getLast?_cons_cons]
    cases e : (a :: r).getLast? with
    | none => simp at e
    | some p =>
      obtain ⟨k, m⟩ := p
      dsimp only
      by_cases c : k = x.1
      · rw [if_pos c, if_pos c]; rfl
      · rw [if_neg c, if_neg c]; rfl
theorem gcons_gsnoc (x y : Chunk) (o : List Group) : gcons x (gsnoc o y) = gsnoc (gcons x o) y := by
  cases o with
  | nil =>
    show gcons x [(y.1, [y.2])] = gsnoc [(x.1, [x.2])] y
    unfold gcons gsnoc
    simp only [List.getLast?_singleton]
    by_cases c : y.1 = x.1
    · rw [if_pos c, if_pos c.symm]; simp [c]
    · rw [if_neg c, if_neg (fun e => c e.symm)]; simp
  | cons p r =>
    obtain ⟨k, m⟩ := p
    cases r with
    | nil =>
      have e1 : gsnoc [(k, m)] y = if k = y.1 then [(k, m ++ [y.2])] else [(k, m), (y.1, [y.2])] := by
        unfold gsnoc; simp only [List.getLast?_singleton]; rfl
      rw [e1]
      by_cases c : k = y.1
      · rw [if_pos c]
        unfold gcons
        dsimp only
        by_cases d : k = x.1
        · rw [if_pos d, if_pos d]
          unfold gsnoc; simp only [List.getLast?_singleton]; rw [if_pos c]; rfl
        · rw [if_neg d, if_neg d, gsnoc_cons _ _ (by simp), e1, if_pos c]
      · rw [if_neg c]
        unfold gcons
        dsimp only
        by_cases d : k = x.1
        · rw [if_pos d, if_pos d]
          unfold gsnoc; simp only [List.getLast?_singleton]; rw [if_neg c]; rfl
        · rw [if_neg d, if_neg d, gsnoc_cons _ _ (by simp), e1, if_neg c]
    | cons q t =>
      rw [gsnoc_cons _ _ (by simp)]
      unfold gcons
      dsimp only
      by_cases d : k = x.1
      · rw [if_pos d, if_pos d, gsnoc_cons (k, x.2 :: m) (q :: t) (by simp)]
      · rw [if_neg d, if_neg d, gsnoc_cons (x.1, [x.2]) ((k, m) :: q :: t) (by simp), gsnoc_cons (k, m) (q :: t) (by simp)]
theorem grouped_snoc : ∀ (l : List Chunk) (x : Chunk), grouped (l ++ [x]) = gsnoc (grouped l) x
  | [], x => rfl
  | y :: l, x => by
    rw [List.cons_append, grouped_cons, grouped_snoc l x, grouped_cons, gcons_gsnoc]
def GOk (m : List Span) : Prop := m ≠ [] ∧ (∀ s, s ∈ m → s.1 ≤ s.2 ∧ s.2 < PART) ∧ m.Pairwise fun a b => a.2 < b.1
structure GsOk (g : List Group) : Prop where
  one : ∀ p, p ∈ g → GOk p.2 ∧ p.1 < 65536
  keys : g.Pairwise fun a b => a.1 < b.1
theorem grouped_ok : ∀ (l : List Chunk), (∀ x, x ∈ l → COk x ∧ hi x < ALL) → l.Pairwise Ord → GsOk (grouped l) ∧ ∀ p r, grouped l = p :: r → ∃ s m x t, p.2 = s :: m ∧ l = x :: t ∧ x.1 = p.1 ∧ x.2 = s
  | [], _, _ => ⟨⟨(by intro p hp; cases hp), List.Pairwise.nil⟩, (by intro p r e; cases e)⟩
  | x :: l, h1, h2 => by
    have h2' := List.pairwise_cons.mp h2
    obtain ⟨g1, g2⟩ := grouped_ok l (fun y hy => h1 y (List.mem_cons_of_mem _ hy)) h2'.2
    have hx := h1 x (List.mem_cons_self ..)
    have hP : PART = 65536 := rfl
    have hA : ALL = 4294967296 := rfl
    have hk : x.1 < 65536 := by have := hx.2; unfold hi at this; rw [hP, hA] at this; omega
    rw [grouped_cons]
    cases e : grouped l with
    | nil =>
      refine ⟨⟨fun p hp => ?_, ?_⟩, ?_⟩
      · have : p = (x.1, [x.2]) := List.mem_singleton.mp hp
        subst this
        exact ⟨⟨by simp, fun s hs => by rw [List.mem_singleton.mp hs]; exact hx.1, by simp⟩, hk⟩
      · show ([(x.1, [x.2])] : List Group).Pairwise _
        simp
      · intro p r e'
        have : [(x.1, [x.2])] = p :: r := e'
        cases this
        exact ⟨x.2, [], x, l, rfl, rfl, rfl, rfl⟩
    | cons p r =>
      obtain ⟨k, m⟩ := p
      obtain ⟨s, m', y, t, es, el, ek, ex⟩ := g2 _ _ e
      have es : m = s :: m' := es
      have ek : y.1 = k := ek
      rw [e] at g1
      have gp := g1.one _ (List.mem_cons_self ..)
      have gk := List.pairwise_cons.mp g1.keys
      have hy : Ord x y := h2'.1 y (by rw [el]; exact List.mem_cons_self ..)
      have hyo := h1 y (List.mem_cons_of_mem _ (by rw [el]; exact List.mem_cons_self ..))
      unfold gcons
      dsimp only
      by_cases c : k = x.1
      · rw [if_pos c]
        have hlt : x.2.2 < s.1 := by
          have := hy
          unfold Ord lo hi at this
          rw [ek, c, ex] at this
          omega
        refine ⟨⟨fun q hq => ?_, ?_⟩, ?_⟩
        · rcases List.mem_cons.mp hq with e' | e'
          · subst e'
            obtain ⟨⟨a1, a2, a3⟩, a4⟩ := gp
            refine ⟨⟨by simp, fun z hz => ?_, ?_⟩, a4⟩
            · rcases List.mem_cons.mp hz with e2 | e2
              · subst e2; exact hx.1
              · exact a2 z e2
            · show (x.2 :: m).Pairwise _
              rw [List.pairwise_cons]
              refine ⟨fun z hz => ?_, a3⟩
              have a3' : (s :: m').Pairwise fun a b => a.2 < b.1 := by rw [← es]; exact a3
              rw [es] at hz
              rcases List.mem_cons.mp hz with e2 | e2
              · subst e2; exact hlt
              · have q1 := (List.pairwise_cons.mp a3').1 z e2
                have q2 := (a2 s (by show s ∈ m; rw [es]; exact List.mem_cons_self ..)).1
                omega
          · exact g1.one q (List.mem_cons_of_mem _ e')
        · rw [List.pairwise_cons]
          exact ⟨fun q hq => gk.1 q hq, gk.2⟩
        · intro q r' e'
          cases e'
          exact ⟨x.2, m, x, l, rfl, rfl, c.symm, rfl⟩
      · rw [if_neg c]
        have hlt : x.1 < k := by
          have := hy
          unfold Ord lo hi at this
          have b1 := hyo.1
          have b2 := hx.1
          unfold COk at b1 b2
          rw [hP] at this b1 b2
          rw [ek] at this
          omega
        refine ⟨⟨fun q hq => ?_, ?_⟩, ?_⟩
        · rcases List.mem_cons.mp hq with e' | e'
          · subst e'
            exact ⟨⟨by simp, fun s hs => by rw [List.mem_singleton.mp hs]; exact hx.1, by simp⟩, hk⟩
          · exact g1.one q e'
        · rw [List.pairwise_cons]
          refine ⟨fun q hq => ?_, g1.keys⟩
          rcases List.mem_cons.mp hq with e' | e'
          · subst e'; exact hlt
          · exact Nat.lt_trans hlt (gk.1 q e')
        · intro q r' e'
          cases e'
          exact ⟨x.2, [], x, l, rfl, rfl, rfl, rfl⟩
theorem rise_len : ∀ (l : List Nat) (a n : Nat), l.Pairwise (· < ·) → (∀ x, x ∈ l → a ≤ x ∧ x < n) → l.length ≤ n - a
  | [], a, n, _, _ => by simp
  | x :: l, a, n, h, hb => by
    have h' := List.pairwise_cons.mp h
    have hx := hb x (List.mem_cons_self ..)
    have := rise_len l (x + 1) n h'.2 fun y hy => ⟨h'.1 y hy, (hb y (List.mem_cons_of_mem _ hy)).2⟩
    rw [List.length_cons]
    omega
theorem GsOk.len {g : List Group} (h : GsOk g) : g.length ≤ 65536 := by
  have := rise_len (g.map (·.1)) 0 65536 (by rw [List.pairwise_map]; exact h.keys) (fun x hx => by
    obtain ⟨p, hp, rfl⟩ := List.mem_map.mp hx
    exact ⟨Nat.zero_le _, (h.one p hp).2⟩)
  rw [List.length_map] at this
  exact this
theorem apart_size : ∀ (m : List Span) (a n : Nat), (m.Pairwise fun a b => a.2 < b.1) → (∀ s, s ∈ m → a ≤ s.1 ∧ s.1 ≤ s.2 ∧ s.2 < n) → sizeOf_ m ≤ n - a ∧ m.length ≤ sizeOf_ m
  | [], a, n, _, _ => by rw [size_nil]; simp
  | x :: l, a, n, h, hb => by
    have h' := List.pairwise_cons.mp h
    have hx := hb x (List.mem_cons_self ..)
    have := apart_size l (x.2 + 1) n h'.2 fun y hy => ⟨h'.1 y hy, (hb y (List.mem_cons_of_mem _ hy)).2⟩
    rw [List.length_cons, size_cons]
    omega
theorem GOk.size {m : List Span} (h : GOk m) : sizeOf_ m ≤ 65536 ∧ m.length ≤ sizeOf_ m ∧ 1 ≤ sizeOf_ m := by
  obtain ⟨a, b, c⟩ := h
  have := apart_size m 0 65536 c fun s hs => ⟨Nat.zero_le _, b s hs⟩
  have hl : 0 < m.length := List.length_pos_iff.mpr a
  omega
theorem GOk.ok {m : List Span} (h : GOk m) : Ok m := fun s hs => (h.2.1 s hs).1
end PM
set_option linter.all false
namespace PM
open Sv14
def nums (l : List Span) : List Nat := l.flatMap fun s => (List.range (s.2 + 1 - s.1)).map fun i => s.1 + i
theorem nums_cons (s : Span) (l : List Span) : nums (s :: l) = (List.range (s.2 + 1 - s.1)).map (fun i => s.1 + i) ++ nums l := rfl
theorem nums_length : ∀ l : List Span, (nums l).length = sizeOf_ l
  | [] => rfl
  | s :: l => by rw [nums_cons, List.length_append, List.length_map, List.length_range, nums_length l, size_cons]
theorem some_all : ∀ (l : List Span) (n : Nat), Ok l → sizeOf_ l ≤ n → some_ l n = nums l
  | [], n, _, _ => rfl
  | s :: l, n, h, hn => by
    have hs := h s (List.mem_cons_self ..)
    have hl : Ok l := fun t ht => h t (List.mem_cons_of_mem _ ht)
    rw [size_cons] at hn
    unfold some_
    dsimp only
    have e : min n (s.2 + 1 - s.1) = s.2 + 1 - s.1 := by omega
    rw [e, nums_cons]
    congr 1
    by_cases c : s.2 + 1 - s.1 = n
    · rw [if_pos c]
      cases l with
      | nil => rfl
      | cons t l =>
        have ht := hl t (List.mem_cons_self ..)
        rw [size_cons] at hn
        omega
    · rw [if_neg c]
      exact some_all l _ hl (by omega)
theorem nums_below {l : List Span} {n : Nat} (h : ∀ s, s ∈ l → s.2 < n) : ∀ x, x ∈ nums l → x < n := by
  intro x hx
  obtain ⟨s, hs, hx'⟩ := List.mem_flatMap.mp hx
  obtain ⟨i, hi', rfl⟩ := List.mem_map.mp hx'
  rw [List.mem_range] at hi'
  have := h s hs
  omega
def bstep (t : List Nat) (x : Nat) : List Nat := t.modify (x / 8) fun y => y + 2 ^ (x % 8)
theorem bits_list : ∀ (l : List Nat) (t : Array Nat), (l.foldl (fun (t : Array Nat) x => t.modify (x / 8) fun y => y + 2 ^ (x % 8)) t).toList = l.foldl bstep t.toList
  | [], t => rfl
  | x :: l, t => by
    rw [List.foldl_cons, List.foldl_cons, bits_list l, Array.toList_modify]
    rfl
theorem bitBytes_eq (l : List Span) : bitBytes l = (nums l).foldl bstep (List.replicate 8192 0) := by
  unfold bitBytes
  rw [bits_list]
  rfl
theorem bstep_len (t : List Nat) (x : Nat) : (bstep t x).length = t.length := by unfold bstep; rw [List.length_modify]
theorem bfold_len : ∀ (l t : List Nat), (l.foldl bstep t).length = t.length
  | [], t => rfl
  | x :: l, t => by rw [List.foldl_cons, bfold_len l, bstep_len]
theorem bstep_set {t : List Nat} {x y : Nat} (h : t[x / 8]? = some y) : bstep t x = t.set (x / 8) (y + 2 ^ (x % 8)) := by
  unfold bstep
  apply List.ext_getElem?
  intro i
  rw [List.getElem?_modify, List.getElem?_set]
  have hl := (List.getElem?_eq_some_iff.mp h).1
  by_cases c : x / 8 = i
  · subst c
    rw [h, if_pos rfl, if_pos hl]
    simp
  · rw [if_neg c]
    simp [c]
theorem little_len (k n : Nat) : (little k n).length = k := by unfold little; rw [List.length_map, List.length_range]
theorem flat_len {α β : Type} {f : α → List β} {k : Nat} (h : ∀ x, (f x).length = k) : ∀ l : List α, (l.flatMap f).length = k * l.length
  | [] => rfl
  | x :: l => by rw [List.flatMap_cons, List.length_append, h, flat_len h l, List.length_cons, Nat.mul_add]; omega
theorem bytes_len {p : Part} (h : Ok p.spans) : p.bytes.length = p.long := by
  unfold Part.bytes Part.long
  by_cases c : p.runs = true
  · rw [if_pos c, if_pos c, List.length_append, little_len, flat_len (k := 4) (by intro x; rw [List.length_append, little_len, little_len])]
    unfold runsLong
    rfl
  · rw [if_neg c, if_neg c]
    unfold plainLong
    by_cases d : sizeOf_ p.spans ≤ 4096
    · rw [if_pos d, if_pos d, flat_len (k := 2) (little_len 2), some_all _ _ h d, nums_length]
    · rw [if_neg d, if_neg d, bitBytes_eq, bfold_len, List.length_replicate]
theorem allBytes_len : ∀ l : List Part, (∀ p, p ∈ l → Ok p.spans) → (l.flatMap Part.bytes).length = (l.map Part.long).sum
  | [], _ => rfl
  | p :: l, h => by
    rw [List.flatMap_cons, List.length_append, bytes_len (h p (List.mem_cons_self ..)), allBytes_len l fun q hq => h q (List.mem_cons_of_mem _ hq), List.map_cons, List.sum_cons]
theorem placesOf_len : ∀ (l : List Part) (n : Nat), (placesOf n l).length = l.length
  | [], _ => rfl
  | p :: l, n => by unfold placesOf; rw [List.length_cons, placesOf_len l, List.length_cons]
def anyRuns (l : List Part) : Bool := l.any fun x => x.runs
theorem all_any (l : List Part) : (l.all fun x => !x.runs) = !(anyRuns l) := by
  unfold anyRuns
  induction l with
  | nil => rfl
  | cons p l ih => rw [List.all_cons, List.any_cons, ih, Bool.not_or]
def heads (l : List Part) : Bytes := l.flatMap fun x => little 2 x.key ++ little 2 (sizeOf_ x.spans - 1)
def places (l : List Part) : Bytes := (placesOf (frontLong l) l).flatMap (little 4)
def mark (f : List Bool) (n i : Nat) : Nat := ((List.range 8).map fun j => if 8 * i + j < n ∧ f.getD (8 * i + j) false = true then 2 ^ j else 0).sum
def marks (f : List Bool) (n : Nat) : List Nat := (List.range ((f.length + 7) / 8)).map (mark f n)
theorem mark_all (f : List Bool) (i : Nat) : mark f f.length i = ((List.range 8).map fun j => if f.toArray.getD (8 * i + j) false = true then 2 ^ j else 0).sum := by
  unfold mark
  congr 1
  apply List.map_congr_left
  intro j hj
  have e : f.toArray.getD (8 * i + j) false = f.getD (8 * i + j) false := by
    simp [Array.getD_eq_getD_getElem?, List.getD_eq_getElem?_getD]
  rw [e]
  by_cases c : f.getD (8 * i + j) false = true
  · have : 8 * i + j < f.length := by
      rw [List.getD_eq_getElem?_getD] at c
      cases h : f[8 * i + j]? with
      | none => rw [h] at c; cases c
      | some b => exact (List.getElem?_eq_some_iff.mp h).1
    rw [if_pos ⟨this, c⟩, if_pos c]
  · rw [if_neg (fun h => c h.2), if_neg c]
theorem sum8 (g : Nat → Nat) : ((List.range 8).map g).sum = g 0 + g 1 + g 2 + g 3 + g 4 + g 5 + g 6 + g 7 := by
  show g 0 + (g 1 + (g 2 + (g 3 + (g 4 + (g 5 + (g 6 + (g 7 + 0))))))) = _
  omega
theorem mark_zero (f : List Bool) (i : Nat) : mark f 0 i = 0 := by
  unfold mark; rw [sum8]; simp
theorem mark_other {f : List Bool} {n i : Nat} (h : n / 8 ≠ i ∨ f.getD n false = false) : mark f (n + 1) i = mark f n i := by
  unfold mark
  congr 1
  apply List.map_congr_left
  intro j hj
  rw [List.mem_range] at hj
  by_cases c : 8 * i + j = n
  · rcases h with h | h
    · omega
    · rw [c, if_neg (by intro q; rw [h] at q; exact Bool.noConfusion q.2), if_neg (by omega)]
  · by_cases d : 8 * i + j < n ∧ f.getD (8 * i + j) false = true
    · rw [if_pos d, if_pos ⟨by omega, d.2⟩]
    · rw [if_neg d, if_neg (fun q => d ⟨by omega, q.2⟩)]
theorem sum_none (f : Nat → Nat) (c k : Nat) : ∀ n, n ≤ k → ((List.range n).map fun j => f j + if j = k then c else 0).sum = ((List.range n).map f).sum
  | 0, _ => rfl
  | n + 1, h => by
    rw [List.range_succ, List.map_append, List.map_append, List.sum_append, List.sum_append, sum_none f c k n (Nat.le_of_succ_le h)]
    show _ + ((f n + if n = k then c else 0) + 0) = _ + (f n + 0)
    rw [if_neg (Nat.ne_of_lt h)]
theorem sum_one (f : Nat → Nat) (c k : Nat) : ∀ n, k < n → ((List.range n).map fun j => f j + if j = k then c else 0).sum = ((List.range n).map f).sum + c
  | 0, h => absurd h (Nat.not_lt_zero _)
  | n + 1, h => by
    rw [List.range_succ, List.map_append, List.map_append, List.sum_append, List.sum_append]
    show _ + ((f n + if n = k then c else 0) + 0) = _ + (f n + 0) + c
    by_cases e : n = k
    · rw [if_pos e, sum_none f c k n (Nat.le_of_eq e), Nat.add_zero, Nat.add_zero, Nat.add_assoc]
    · rw [if_neg e, sum_one f c k n (Nat.lt_of_le_of_ne (Nat.le_of_lt_succ h) (Ne.symm e)), Nat.add_zero, Nat.add_right_comm]
theorem mark_this {f : List Bool} {n : Nat} (h : f.getD n false = true) : mark f (n + 1) (n / 8) = mark f n (n / 8) + 2 ^ (n % 8) := by
  have hn : 8 * (n / 8) + n % 8 = n := Nat.div_add_mod n 8
  unfold mark
  rw [← sum_one _ (2 ^ (n % 8)) (n % 8) 8 (Nat.mod_lt _ (by decide))]
  congr 1
  apply List.map_congr_left
  intro j _
  generalize n / 8 = q at *
  generalize n % 8 = r at *
  by_cases c : j = r
  · subst c
    rw [hn, if_pos ⟨Nat.lt_succ_self n, h⟩, if_neg (fun z => Nat.lt_irrefl _ z.1), if_pos rfl, Nat.zero_add]
  · rw [if_neg c, Nat.add_zero]
    congr 1
    refine propext ⟨fun d => ⟨?_, d.2⟩, fun d => ⟨Nat.lt_succ_of_lt d.1, d.2⟩⟩
    have := d.1
    clear d h
    omega
theorem marks_len (f : List Bool) (n : Nat) : (marks f n).length = (f.length + 7) / 8 := by unfold marks; rw [List.length_map, List.length_range]
theorem marks_get {f : List Bool} {n i : Nat} (h : i < (f.length + 7) / 8) : (marks f n)[i]? = some (mark f n i) := by
  unfold marks; rw [List.getElem?_map, List.getElem?_range h]; rfl
theorem marks_zero (f : List Bool) : marks f 0 = List.replicate ((f.length + 7) / 8) 0 := by
  unfold marks
  apply List.ext_getElem?
  intro i
  by_cases c : i < (f.length + 7) / 8
  · rw [List.getElem?_map, List.getElem?_range c, List.getElem?_replicate, if_pos c]
    show some (mark f 0 i) = _
    rw [mark_zero]
  · rw [List.getElem?_eq_none (by simp; omega), List.getElem?_eq_none (by simp; omega)]
theorem marks_no {f : List Bool} {n : Nat} (h : f.getD n false = false) : marks f (n + 1) = marks f n := by
  unfold marks
  apply List.map_congr_left
  intro i _
  exact mark_other (.inr h)
theorem marks_yes {f : List Bool} {n : Nat} (hn : n < f.length) (h : f.getD n false = true) : marks f (n + 1) = (marks f n).set (n / 8) (mark f n (n / 8) + 2 ^ (n % 8)) := by
  apply List.ext_getElem?
  intro i
  rw [List.getElem?_set, marks_len]
  by_cases c : i < (f.length + 7) / 8
  · rw [marks_get c]
    by_cases d : n / 8 = i
    · rw [if_pos d, if_pos (by omega), ← d, mark_this h]
    · rw [if_neg d, marks_get c, mark_other (.inl d)]
  · rw [List.getElem?_eq_none (by rw [marks_len]; omega)]
    by_cases d : n / 8 = i
    · rw [if_pos d, if_neg (by omega)]
    · rw [if_neg d, List.getElem?_eq_none (by rw [marks_len]; omega)]
theorem wholeOf_plain {l : List Part} (h : anyRuns l = false) : wholeOf l = little 4 12346 ++ little 4 l.length ++ heads l ++ places l ++ l.flatMap Part.bytes := by
  unfold wholeOf
  dsimp only
  rw [all_any, h, if_pos (by rfl)]
  simp only [heads, places, List.append_assoc]
theorem wholeOf_runs {l : List Part} (h : anyRuns l = true) : wholeOf l = little 4 (12347 + PART * (l.length - 1)) ++ marks (l.map fun x => x.runs) l.length ++ heads l ++ (if l.length < 4 then [] else places l) ++ l.flatMap Part.bytes := by
  unfold wholeOf
  dsimp only
  rw [all_any, h, if_neg (by decide)]
  have e : marks (l.map fun x => x.runs) l.length = (List.range ((l.length + 7) / 8)).map (fun i => ((List.range 8).map fun j => if (l.map fun x => x.runs).toArray.getD (8 * i + j) false = true then 2 ^ j else 0).sum) := by
    unfold marks
    rw [List.length_map]
    apply List.map_congr_left
    intro i _
    have := mark_all (l.map fun x => x.runs) i
    rw [List.length_map] at this
    exact this
  rw [e]
  simp only [heads, places, List.append_assoc]
theorem whole_len {l : List Part} (h : ∀ p, p ∈ l → Ok p.spans) : (wholeOf l).length = wholeLong l := by
  unfold wholeLong frontLong
  dsimp only
  have e1 : (heads l).length = 4 * l.length := flat_len (k := 4) (by intro x; rw [List.length_append, little_len, little_len]) l
  have e2 : (places l).length = 4 * l.length := by unfold places; rw [flat_len (k := 4) (little_len 4), placesOf_len]
  rw [all_any]
  cases c : anyRuns l with
  | false =>
    rw [wholeOf_plain c, if_pos (by rfl)]
    simp only [List.length_append, little_len, allBytes_len l h, e1, e2]
    omega
  | true =>
    rw [wholeOf_runs c, if_neg (show ¬ ((!true) = true) by decide)]
    simp only [List.length_append, little_len, allBytes_len l h, e1, marks_len, List.length_map]
    by_cases d : l.length < 4
    · rw [if_pos d, if_pos d]; simp
    · rw [if_neg d, if_neg d, e2]
theorem partsFor_eq (l : List Span) (r : Bool) : partsFor l r = (grouped (chunks l)).map fun x => ⟨x.1, x.2, r && decide (runsLong x.2 < plainLong x.2)⟩ := rfl
end PM
set_option linter.all false
namespace PM
open Sv14
theorem holds_cons (s : Span) (l : List Span) (x : Nat) : holds (s :: l) x = ((decide (s.1 ≤ x) && decide (x ≤ s.2)) || holds l x) := by unfold holds; rw [List.any_cons]
theorem holds_iff (l : List Span) (x : Nat) : holds l x = true ↔ ∃ s, s ∈ l ∧ s.1 ≤ x ∧ x ≤ s.2 := by
  unfold holds; rw [List.any_eq_true]
  constructor
  · rintro ⟨s, h, e⟩; rw [Bool.and_eq_true, decide_eq_true_eq, decide_eq_true_eq] at e; exact ⟨s, h, e⟩
  · rintro ⟨s, h, e⟩; exact ⟨s, h, by rw [Bool.and_eq_true, decide_eq_true_eq, decide_eq_true_eq]; exact e⟩
theorem holds_no {l : List Span} {x : Nat} (h : ∀ s, s ∈ l → s.1 ≤ x → x ≤ s.2 → False) : holds l x = false := by
  cases e : holds l x with
  | false => rfl
  | true => obtain ⟨s, hs, a, b⟩ := (holds_iff l x).mp e; exact (h s hs a b).elim
theorem holds_yes {l : List Span} {x : Nat} {s : Span} (h : s ∈ l) (a : s.1 ≤ x) (b : x ≤ s.2) : holds l x = true := (holds_iff l x).mpr ⟨s, h, a, b⟩
theorem holds_same {l m : List Span} (h : ∀ s, s ∈ l ↔ s ∈ m) (x : Nat) : holds l x = holds m x := by
  rw [Bool.eq_iff_iff, holds_iff, holds_iff]
  constructor
  · rintro ⟨s, a, b⟩; exact ⟨s, (h s).mp a, b⟩
  · rintro ⟨s, a, b⟩; exact ⟨s, (h s).mpr a, b⟩
def Apart (l : List Span) : Prop := (∀ s, s ∈ l → s.1 ≤ s.2) ∧ l.Pairwise fun a b => a.2 + 1 < b.1
theorem Apart.tail {s : Span} {l : List Span} (h : Apart (s :: l)) : Apart l := ⟨fun t ht => h.1 t (List.mem_cons_of_mem _ ht), (List.pairwise_cons.mp h.2).2⟩
theorem apart_of_proper {l : List Span} (h : Proper l) : Apart l := ⟨fun s hs => (h.1 s hs).1, h.2⟩
theorem apart_unique : ∀ (l m : List Span), Apart l → Apart m → (∀ x, holds l x = holds m x) → l = m
  | [], [], _, _, _ => rfl
  | [], t :: m, _, hm, h => by
    have := h t.1
    rw [holds_yes (l := t :: m) (List.mem_cons_self ..) (Nat.le_refl _) (hm.1 t (List.mem_cons_self ..))] at this
    cases this
  | s :: l, [], hl, _, h => by
    have := h s.1
    rw [holds_yes (l := s :: l) (List.mem_cons_self ..) (Nat.le_refl _) (hl.1 s (List.mem_cons_self ..))] at this
    cases this
  | s :: l, t :: m, hl, hm, h => by
    have ls := List.pairwise_cons.mp hl.2
    have ms := List.pairwise_cons.mp hm.2
    have vs := hl.1 s (List.mem_cons_self ..)
    have vt := hm.1 t (List.mem_cons_self ..)
    have e1 : s.1 = t.1 := by
      rcases Nat.lt_trichotomy s.1 t.1 with c | c | c
      · have := h s.1
        rw [holds_yes (l := s :: l) (List.mem_cons_self ..) (Nat.le_refl _) vs, holds_no] at this
        · cases this
        · intro u hu a b
          rcases List.mem_cons.mp hu with e | e
          · subst e; omega
          · have := ms.1 u e; omega
      · exact c
      · have := h t.1
        rw [holds_yes (l := t :: m) (List.mem_cons_self ..) (Nat.le_refl _) vt, holds_no] at this
        · cases this
        · intro u hu a b
          rcases List.mem_cons.mp hu with e | e
          · subst e; omega
          · have := ls.1 u e; omega
    have e2 : s.2 = t.2 := by
      rcases Nat.lt_trichotomy s.2 t.2 with c | c | c
      · have := h (s.2 + 1)
        rw [holds_yes (l := t :: m) (List.mem_cons_self ..) (by omega) (by omega), holds_no] at this
        · cases this
        · intro u hu a b
          rcases List.mem_cons.mp hu with e | e
          · subst e; omega
          · have := ls.1 u e; omega
      · exact c
      · have := h (t.2 + 1)
        rw [holds_yes (l := s :: l) (List.mem_cons_self ..) (by omega) (by omega), holds_no] at this
        · cases this
        · intro u hu a b
          rcases List.mem_cons.mp hu with e | e
          · subst e; omega
          · have := ms.1 u e; omega
    have e : s = t := by
      obtain ⟨a, b⟩ := s; obtain ⟨c, d⟩ := t
      dsimp only at e1 e2; rw [e1, e2]
    subst e
    rw [apart_unique l m hl.tail hm.tail fun x => ?_]
    by_cases c : x ≤ s.2
    · rw [holds_no, holds_no]
      · intro u hu a b; have := ms.1 u hu; omega
      · intro u hu a b; have := ls.1 u hu; omega
    · have := h x
      rw [holds_cons, holds_cons, decide_eq_false c, Bool.and_false, Bool.false_or, Bool.false_or] at this
      exact this
theorem holds_mstep {o : List Span} {s : Span} (hs : s.1 ≤ s.2) (hf : ∀ p r, o = p :: r → p.1 ≤ s.1 ∧ p.1 ≤ p.2) (x : Nat) : holds (mstep o s) x = (holds o x || (decide (s.1 ≤ x) && decide (x ≤ s.2))) := by
  cases o with
  | nil => unfold mstep; rw [holds_cons, Bool.or_comm]
  | cons p r =>
    have ⟨h1, h2⟩ := hf p r rfl
    unfold mstep; dsimp only
    by_cases c : s.1 ≤ p.2 + 1
    · rw [if_pos c, holds_cons, holds_cons]
      rw [Bool.eq_iff_iff]
      simp only [Bool.or_eq_true, Bool.and_eq_true, decide_eq_true_eq]
      constructor
      · rintro (⟨a, b⟩ | a)
        · by_cases d : x ≤ p.2
          · exact .inl (.inl ⟨a, d⟩)
          · exact .inr ⟨by omega, by omega⟩
        · exact .inl (.inr a)
      · rintro ((⟨a, b⟩ | a) | ⟨a, b⟩)
        · exact .inl ⟨a, by omega⟩
        · exact .inr a
        · exact .inl ⟨by omega, by omega⟩
    · rw [if_neg c, holds_cons, Bool.or_comm]
theorem holds_fold : ∀ (l o : List Span), RevOk o → (∀ s, s ∈ l → s.1 ≤ s.2) → Sorted1 l → (∀ s, s ∈ l → ∀ p r, o = p :: r → p.1 ≤ s.1) → ∀ x, holds (l.foldl mstep o) x = (holds o x || holds l x)
  | [], o, h, _, _, _, x => by rw [List.foldl_nil]; show holds o x = (holds o x || false); rw [Bool.or_false]
  | s :: l, o, h, h1, h2, h3, x => by
    have h2' := List.pairwise_cons.mp h2
    have hs := h1 s (List.mem_cons_self ..)
    have hd := fun p r e => h3 s (List.mem_cons_self ..) p r e
    rw [List.foldl_cons, holds_fold l _ (mstep_ok h hs hd) (fun t ht => h1 t (List.mem_cons_of_mem _ ht)) h2'.2 (fun t ht p r e => Nat.le_trans (mstep_head e hd) (h2'.1 t ht)) x,
      holds_mstep hs (fun p r e => ⟨hd p r e, h.1 p (by rw [e]; exact List.mem_cons_self ..)⟩), holds_cons, Bool.or_assoc]
theorem holds_merged {l : List Span} (h1 : ∀ s, s ∈ l → s.1 ≤ s.2) (h2 : Sorted1 l) (x : Nat) : holds (merged l) x = holds l x := by
  rw [merged_eq, holds_same (fun s => List.mem_reverse) x, holds_fold l [] ⟨by simp, by simp⟩ h1 h2 (by intro s _ p r e; cases e)]
  rfl
theorem merged_apart {l : List Span} (h1 : ∀ s, s ∈ l → s.1 ≤ s.2) (h2 : Sorted1 l) : Apart (merged l) := by
  rw [merged_eq]
  have a := fold_ok l [] ⟨by simp, by simp⟩ h1 h2 (by intro s _ p r e; cases e)
  exact ⟨fun s hs => a.1 s (List.mem_reverse.mp hs), by rw [List.pairwise_reverse]; exact a.2⟩
theorem merged_len (l : List Span) : (merged l).length ≤ l.length := by
  rw [merged_eq, List.length_reverse]
  have := fold_len l []
  simpa using this
abbrev Turn := Nat × Bool
def cnt (w : Bool) (x : Nat) (t : List Turn) : Nat := t.countP fun e => e.2 == w && decide (e.1 ≤ x)
def odd (n : Nat) : Bool := decide (n % 2 = 1)
theorem odd_add_two (n : Nat) : odd (n + 2) = odd n := by unfold odd; congr 1; rw [Nat.add_mod_right]
theorem odd_succ (n : Nat) : odd (n + 1) = !(odd n) := by
  unfold odd
  by_cases c : n % 2 = 1
  · rw [decide_eq_true c, decide_eq_false (by omega)]; rfl
  · rw [decide_eq_false c, decide_eq_true (by omega)]; rfl
theorem cnt_cons (w : Bool) (x : Nat) (e : Turn) (t : List Turn) : cnt w x (e :: t) = cnt w x t + if e.2 = w ∧ e.1 ≤ x then 1 else 0 := by
  unfold cnt
  rw [List.countP_cons]
  congr 1
  by_cases c : e.2 = w ∧ e.1 ≤ x
  · rw [if_pos c, if_pos (by rw [c.1, decide_eq_true c.2]; simp)]
  · rw [if_neg c, if_neg (by intro h; apply c; simpa using h)]
theorem turns_cons (w : Bool) (s : Span) (l : List Span) : turns w (s :: l) = (s.1, w) :: (s.2 + 1, w) :: turns w l := rfl
theorem cnt_same (w : Bool) (x : Nat) : ∀ a : List Span, Apart a → odd (cnt w x (turns w a)) = holds a x
  | [], _ => rfl
  | s :: a, h => by
    have ih := cnt_same w x a h.tail
    have hs := h.1 s (List.mem_cons_self ..)
    have ls := List.pairwise_cons.mp h.2
    rw [turns_cons, cnt_cons, cnt_cons, holds_cons]
    dsimp only
    by_cases c1 : s.1 ≤ x
    · by_cases c2 : x ≤ s.2
      · rw [if_neg (by omega), if_pos ⟨rfl, c1⟩, decide_eq_true c1, decide_eq_true c2, Nat.add_zero, odd_succ, ih, holds_no]
        · rfl
        · intro u hu p q; have := ls.1 u hu; omega
      · rw [if_pos ⟨rfl, by omega⟩, if_pos ⟨rfl, c1⟩, decide_eq_false c2, Bool.and_false, Bool.false_or, odd_add_two, ih]
    · rw [if_neg (by omega), if_neg (by omega), decide_eq_false c1, Bool.false_and, Bool.false_or, ← ih, Nat.add_zero]
theorem cnt_other (w v : Bool) (hv : v ≠ w) (x : Nat) : ∀ a : List Span, cnt w x (turns v a) = 0
  | [] => rfl
  | s :: a => by
    rw [turns_cons, cnt_cons, cnt_cons, cnt_other w v hv x a, if_neg (by intro h; exact hv h.1), if_neg (by intro h; exact hv h.1)]
theorem cnt_append (w : Bool) (x : Nat) (s t : List Turn) : cnt w x (s ++ t) = cnt w x s + cnt w x t := List.countP_append
def tot (w : Bool) (t : List Turn) : Nat := t.countP fun e => e.2 == w
theorem cnt_low {w : Bool} {x : Nat} {t : List Turn} (h : ∀ e, e ∈ t → e.1 ≤ x) : cnt w x t = tot w t := by
  unfold cnt tot
  apply List.countP_congr
  intro e he
  rw [decide_eq_true (h e he), Bool.and_true]
theorem cnt_high {w : Bool} {x : Nat} {t : List Turn} (h : ∀ e, e ∈ t → x < e.1) : cnt w x t = 0 := by
  unfold cnt
  rw [List.countP_eq_zero]
  intro e he
  rw [decide_eq_false (by have := h e he; omega), Bool.and_false]
  decide
theorem tot_snoc (w : Bool) (t : List Turn) (e : Turn) : tot w (t ++ [e]) = tot w t + if e.2 = w then 1 else 0 := by
  unfold tot
  rw [List.countP_append, List.countP_cons, List.countP_nil]
  by_cases c : e.2 = w
  · rw [if_pos c, if_pos (by rw [c]; simp)]
  · rw [if_neg c, if_neg (by simpa using c)]
abbrev JSt := Bool × Bool × Nat × List Span
def jstep (how : Int) (s : JSt) (e : Turn) : JSt :=
  let o := if joined how s.1 s.2.1 = true ∧ s.2.2.1 < e.1 then (s.2.2.1, e.1 - 1) :: s.2.2.2 else s.2.2.2
  if e.2 = true then (!s.1, s.2.1, e.1, o) else (s.1, !s.2.1, e.1, o)
def allTurns (a b : List Span) : List Turn := (turns true a ++ turns false b).mergeSort fun x y => decide (x.1 ≤ y.1)
theorem joinSpans_eq (how : Int) (a b : List Span) : joinSpans how a b = merged ((allTurns a b).foldl (jstep how) (false, false, 0, [])).2.2.2.reverse := rfl
structure JInv (T : List Turn) (J : Nat → Bool) (n : Nat) (pre rest : List Turn) (st : JSt) : Prop where
  sa : st.1 = odd (tot true pre)
  sb : st.2.1 = odd (tot false pre)
  low : ∀ e, e ∈ pre → e.1 ≤ st.2.2.1
  high : ∀ e, e ∈ rest → st.2.2.1 ≤ e.1
  val : ∀ s, s ∈ st.2.2.2 → s.1 ≤ s.2 ∧ s.2 < st.2.2.1
  top : st.2.2.1 ≤ n
  srt : st.2.2.2.Pairwise fun a b => b.1 ≤ a.1
  hold : ∀ x, x < st.2.2.1 → holds st.2.2.2 x = J x
theorem joined_off (how : Int) : joined how false false = false := by
  unfold joined
  split
  · rfl
  · split
    · rfl
    · split <;> rfl
theorem JInv.step {how : Int} {T : List Turn} {J : Nat → Bool} {n : Nat} {pre rest : List Turn} {e : Turn} {st : JSt} (hT : T = pre ++ e :: rest) (hs : T.Pairwise fun a b => a.1 ≤ b.1) (hn : e.1 ≤ n)
    (hJ : ∀ x, J x = joined how (odd (cnt true x T)) (odd (cnt false x T))) (I : JInv T J n pre (e :: rest) st) : JInv T J n (pre ++ [e]) rest (jstep how st e) := by
  obtain ⟨sa, sb, pos, o⟩ := st
  obtain ⟨h1, h2, h3, h4, h5, h6, h7, h8⟩ := I
  dsimp only at h1 h2 h3 h4 h5 h6 h7 h8
  have he := h4 e (List.mem_cons_self ..)
  rw [hT] at hs
  have hs' := List.pairwise_append.mp hs
  have hr := (List.pairwise_cons.mp hs'.2.1).1
  have mid : ∀ x, pos ≤ x → x < e.1 → J x = joined how sa sb := by
    intro x a b
    have c : ∀ w, cnt w x T = tot w pre := fun w => by
      rw [hT, cnt_append, cnt_low (fun u hu => Nat.le_trans (h3 u hu) a), cnt_high (t := e :: rest), Nat.add_zero]
      intro u hu
      rcases List.mem_cons.mp hu with q | q
      · subst q; exact b
      · exact Nat.lt_of_lt_of_le b (hr u q)
    rw [hJ, c, c, h1, h2]
  let o' : List Span := if joined how sa sb = true ∧ pos < e.1 then (pos, e.1 - 1) :: o else o
  have v' : ∀ s, s ∈ o' → s.1 ≤ s.2 ∧ s.2 < e.1 := by
    intro s m
    show s.1 ≤ s.2 ∧ s.2 < e.1
    by_cases c : joined how sa sb = true ∧ pos < e.1
    · rw [show o' = (pos, e.1 - 1) :: o from if_pos c] at m
      rcases List.mem_cons.mp m with q | q
      · subst q; dsimp only; omega
      · have := h5 s q; omega
    · rw [show o' = o from if_neg c] at m
      have := h5 s m; omega
  have s' : o'.Pairwise fun a b => b.1 ≤ a.1 := by
    by_cases c : joined how sa sb = true ∧ pos < e.1
    · rw [show o' = (pos, e.1 - 1) :: o from if_pos c, List.pairwise_cons]
      exact ⟨fun u hu => by have := h5 u hu; dsimp only; omega, h7⟩
    · rw [show o' = o from if_neg c]; exact h7
  have k' : ∀ x, x < e.1 → holds o' x = J x := by
    intro x hx
    by_cases d : x < pos
    · rw [← h8 x d]
      by_cases c : joined how sa sb = true ∧ pos < e.1
      · rw [show o' = (pos, e.1 - 1) :: o from if_pos c, holds_cons, decide_eq_false (by dsimp only; omega), Bool.false_and, Bool.false_or]
      · rw [show o' = o from if_neg c]
    · rw [mid x (by omega) hx]
      have z : holds o x = false := holds_no fun u hu p q => by have := h5 u hu; omega
      by_cases c : joined how sa sb = true ∧ pos < e.1
      · rw [show o' = (pos, e.1 - 1) :: o from if_pos c, holds_cons, decide_eq_true (by dsimp only; omega), decide_eq_true (by dsimp only; omega), c.1]; rfl
      · rw [show o' = o from if_neg c, z]
        cases q : joined how sa sb with
        | false => rfl
        | true => exact (c ⟨q, by omega⟩).elim
  have l' : ∀ u, u ∈ pre ++ [e] → u.1 ≤ e.1 := by
    intro u hu
    rcases List.mem_append.mp hu with q | q
    · exact Nat.le_trans (h3 u q) he
    · rw [List.mem_singleton.mp q]; exact Nat.le_refl _
  have ej : jstep how (sa, sb, pos, o) e = if e.2 = true then (!sa, sb, e.1, o') else (sa, !sb, e.1, o') := rfl
  rw [ej]
  cases q : e.2 with
  | true =>
    rw [if_pos rfl]
    exact ⟨by rw [tot_snoc, q, if_pos rfl, odd_succ, h1], by rw [tot_snoc, q, if_neg (by decide), Nat.add_zero]; exact h2, l', hr, v', hn, s', k'⟩
  | false =>
    rw [if_neg (by decide)]
    exact ⟨by rw [tot_snoc, q, if_neg (by decide), Nat.add_zero]; exact h1, by rw [tot_snoc, q, if_pos rfl, odd_succ, h2], l', hr, v', hn, s', k'⟩
theorem JInv.all {how : Int} {T : List Turn} {J : Nat → Bool} {n : Nat} (hs : T.Pairwise fun a b => a.1 ≤ b.1) (hn : ∀ e, e ∈ T → e.1 ≤ n)
    (hJ : ∀ x, J x = joined how (odd (cnt true x T)) (odd (cnt false x T))) : ∀ (rest pre : List Turn) (st : JSt), T = pre ++ rest → JInv T J n pre rest st → JInv T J n T [] (rest.foldl (jstep how) st)
  | [], pre, st, e, I => by rw [List.append_nil] at e; subst e; exact I
  | e :: rest, pre, st, hT, I => by
    rw [List.foldl_cons]
    refine JInv.all hs hn hJ rest (pre ++ [e]) _ (by rw [hT]; simp) ?_
    exact I.step hT hs (hn e (by rw [hT]; simp)) hJ
theorem allTurns_mem {a b : List Span} {e : Turn} : e ∈ allTurns a b ↔ e ∈ turns true a ∨ e ∈ turns false b := by
  unfold allTurns
  rw [(List.mergeSort_perm _ _).mem_iff, List.mem_append]
theorem turns_mem {w : Bool} {a : List Span} {e : Turn} (h : e ∈ turns w a) : ∃ s, s ∈ a ∧ (e = (s.1, w) ∨ e = (s.2 + 1, w)) := by
  unfold turns at h
  obtain ⟨s, hs, h⟩ := List.mem_flatMap.mp h
  refine ⟨s, hs, ?_⟩
  simpa using h
theorem mem_turns {w : Bool} {a : List Span} {s : Span} (h : s ∈ a) : (s.2 + 1, w) ∈ turns w a := by
  unfold turns
  exact List.mem_flatMap.mpr ⟨s, h, by simp⟩
theorem join_facts (how : Int) {a b : List Span} {n : Nat} (ha : Apart a) (hb : Apart b) (na : ∀ s, s ∈ a → s.2 < n) (nb : ∀ s, s ∈ b → s.2 < n) :
    let o := ((allTurns a b).foldl (jstep how) (false, false, 0, [])).2.2.2
    (∀ s, s ∈ o → s.1 ≤ s.2 ∧ s.2 < n) ∧ (o.Pairwise fun a b => b.1 ≤ a.1) ∧ ∀ x, holds o x = joined how (holds a x) (holds b x) := by
  have hs : (allTurns a b).Pairwise fun a b => a.1 ≤ b.1 := by
    have s1 := List.pairwise_mergeSort (le := fun (a b : Turn) => decide (a.1 ≤ b.1)) (by intro a b c; simp; omega) (by intro a b; simp; omega) (turns true a ++ turns false b)
    exact s1.imp (by simp)
  have hc : ∀ w x, cnt w x (allTurns a b) = cnt w x (turns true a) + cnt w x (turns false b) := fun w x => by
    rw [← cnt_append]
    exact (List.mergeSort_perm _ _).countP_eq _
  have ht : ∀ e, e ∈ allTurns a b → e.1 ≤ n := by
    intro e he
    rcases allTurns_mem.mp he with h | h
    · obtain ⟨s, hs, q | q⟩ := turns_mem h
      · have := na s hs; have := ha.1 s hs; rw [q]; dsimp only; omega
      · have := na s hs; rw [q]; dsimp only; omega
    · obtain ⟨s, hs, q | q⟩ := turns_mem h
      · have := nb s hs; have := hb.1 s hs; rw [q]; dsimp only; omega
      · have := nb s hs; rw [q]; dsimp only; omega
  have hJ : ∀ x, joined how (holds a x) (holds b x) = joined how (odd (cnt true x (allTurns a b))) (odd (cnt false x (allTurns a b))) := fun x => by
    rw [hc, hc, cnt_other true false (by decide), cnt_other false true (by decide), Nat.add_zero, Nat.zero_add, cnt_same true x a ha, cnt_same false x b hb]
  have I := JInv.all (n := n) hs ht hJ (allTurns a b) [] (false, false, 0, []) rfl ⟨rfl, rfl, by simp, by simp, by simp, Nat.zero_le _, by simp, by intro x h; exact absurd h (Nat.not_lt_zero x)⟩
  refine ⟨fun s hs => ⟨(I.val s hs).1, Nat.lt_of_lt_of_le (I.val s hs).2 I.top⟩, I.srt, fun x => ?_⟩
  by_cases c : x < ((allTurns a b).foldl (jstep how) (false, false, 0, [])).2.2.1
  · exact I.hold x c
  · rw [holds_no, holds_no (l := a), holds_no (l := b), joined_off]
    · intro u hu p q
      have := I.low _ (allTurns_mem.mpr (.inr (mem_turns hu)))
      dsimp only at this; omega
    · intro u hu p q
      have := I.low _ (allTurns_mem.mpr (.inl (mem_turns hu)))
      dsimp only at this; omega
    · intro u hu p q
      have := (I.val u hu).2; omega
theorem join_holds (how : Int) {a b : List Span} (ha : Proper a) (hb : Proper b) (x : Nat) : holds (joinSpans how a b) x = joined how (holds a x) (holds b x) := by
  obtain ⟨v, s, h⟩ := join_facts how (apart_of_proper ha) (apart_of_proper hb) (fun s hs => (ha.1 s hs).2) (fun s hs => (hb.1 s hs).2)
  rw [joinSpans_eq, holds_merged (fun s hs => (v s (List.mem_reverse.mp hs)).1) (by unfold Sorted1; rw [List.pairwise_reverse]; exact s), ← h x]
  exact holds_same (fun s => List.mem_reverse) x
theorem join_proper (how : Int) {a b : List Span} (ha : Proper a) (hb : Proper b) : Proper (joinSpans how a b) := by
  obtain ⟨v, s, h⟩ := join_facts how (apart_of_proper ha) (apart_of_proper hb) (fun s hs => (ha.1 s hs).2) (fun s hs => (hb.1 s hs).2)
  rw [joinSpans_eq]
  exact merged_proper (fun s hs => v s (List.mem_reverse.mp hs)) (by unfold Sorted1; rw [List.pairwise_reverse]; exact s)
def ecnt (E : List Int) (x : Int) : Nat := E.countP fun e => decide (e ≤ x)
theorem ecnt_cons (e : Int) (E : List Int) (x : Int) : ecnt (e :: E) x = ecnt E x + if e ≤ x then 1 else 0 := by
  unfold ecnt
  rw [List.countP_cons]
  congr 1
  by_cases c : e ≤ x
  · rw [if_pos c, if_pos (decide_eq_true c)]
  · rw [if_neg c, if_neg (by simpa using c)]
theorem ecnt_append (E F : List Int) (x : Int) : ecnt (E ++ F) x = ecnt E x + ecnt F x := List.countP_append
theorem ecnt_low {E : List Int} {x : Int} (h : ∀ e, e ∈ E → e ≤ x) : ecnt E x = E.length := by
  unfold ecnt
  rw [List.countP_eq_length]
  intro e he; exact decide_eq_true (h e he)
theorem ecnt_high {E : List Int} {x : Int} (h : ∀ e, e ∈ E → x < e) : ecnt E x = 0 := by
  unfold ecnt
  rw [List.countP_eq_zero]
  intro e he q; have := h e he; have := of_decide_eq_true q; omega
theorem ecnt_fl (x : Nat) : ∀ a : List Span, Apart a → odd (ecnt (fl a) (x : Int)) = holds a x
  | [], _ => rfl
  | s :: a, h => by
    have ih := ecnt_fl x a h.tail
    have hs := h.1 s (List.mem_cons_self ..)
    have ls := List.pairwise_cons.mp h.2
    rw [fl_cons, ecnt_cons, ecnt_cons, holds_cons]
    by_cases c1 : s.1 ≤ x
    · by_cases c2 : x ≤ s.2
      · rw [if_neg (by omega), if_pos (by omega), decide_eq_true c1, decide_eq_true c2, Nat.add_zero, odd_succ, ih, holds_no]
        · rfl
        · intro u hu p q; have := ls.1 u hu; omega
      · rw [if_pos (by omega), if_pos (by omega), decide_eq_false c2, Bool.and_false, Bool.false_or, odd_add_two, ih]
    · rw [if_neg (by omega), if_neg (by omega), decide_eq_false c1, Bool.false_and, Bool.false_or, ← ih, Nat.add_zero]
theorem fl_rising : ∀ a : List Span, Apart a → (fl a).Pairwise (· < ·) ∧ ∀ e, e ∈ fl a → 0 ≤ e
  | [], _ => ⟨by simp [fl], by simp [fl]⟩
  | s :: a, h => by
    obtain ⟨i1, i2⟩ := fl_rising a h.tail
    have hs := h.1 s (List.mem_cons_self ..)
    have ls := List.pairwise_cons.mp h.2
    have hf : ∀ e, e ∈ fl a → (s.2 : Int) + 1 < e := by
      intro e he
      unfold fl at he
      obtain ⟨t, ht, q⟩ := List.mem_flatMap.mp he
      have := ls.1 t ht; have := h.1 t (List.mem_cons_of_mem _ ht)
      simp at q
      rcases q with q | q <;> omega
    rw [fl_cons]
    refine ⟨List.pairwise_cons.mpr ⟨?_, List.pairwise_cons.mpr ⟨hf, i1⟩⟩, ?_⟩
    · intro e he
      rcases List.mem_cons.mp he with q | q
      · omega
      · have := hf e q; omega
    · intro e he
      rcases List.mem_cons.mp he with q | q
      · omega
      · rcases List.mem_cons.mp q with q | q
        · omega
        · exact i2 e q
theorem fl_of_rising : ∀ E : List Int, E.Pairwise (· < ·) → (∀ e, e ∈ E → 0 ≤ e) → E.length % 2 = 0 → ∃ m, E = fl m ∧ Apart m
  | [], _, _, _ => ⟨[], rfl, by simp [Apart], by simp⟩
  | [x], _, _, h => by simp at h
  | x :: y :: E, h1, h2, h3 => by
    have p1 := List.pairwise_cons.mp h1
    have p2 := List.pairwise_cons.mp p1.2
    obtain ⟨m, e, hm⟩ := fl_of_rising E p2.2 (fun e he => h2 e (by simp [he])) (by simp at h3; omega)
    have hx := h2 x (by simp)
    have hxy := p1.1 y (by simp)
    refine ⟨(x.toNat, (y - 1).toNat) :: m, ?_, ?_, ?_⟩
    · rw [fl_cons, ← e]
      dsimp only
      rw [show ((x.toNat : Nat) : Int) = x by omega, show (((y - 1).toNat : Nat) : Int) + 1 = y by omega]
    · intro s hs
      rcases List.mem_cons.mp hs with q | q
      · subst q; dsimp only; omega
      · exact hm.1 s q
    · rw [List.pairwise_cons]
      refine ⟨fun t ht => ?_, hm.2⟩
      have : ((t.1 : Nat) : Int) ∈ E := by rw [e]; unfold fl; exact List.mem_flatMap.mpr ⟨t, ht, by simp⟩
      have := p2.1 _ this
      dsimp only; omega
theorem le_fl {m : List Span} {n : Nat} (h : ∀ s, s ∈ m → s.1 ≤ s.2 ∧ s.2 < n) : ∀ e, e ∈ fl m → e ≤ (n : Int) := by
  intro e he
  unfold fl at he
  obtain ⟨t, ht, q⟩ := List.mem_flatMap.mp he
  have := h t ht
  simp at q
  rcases q with q | q <;> omega
end PM
set_option linter.all false
namespace PM
open Sv14
def cuts (s : Span) : Nat := s.2 / PART + 1 - s.1 / PART
def at_cut (s : Span) (j : Nat) : Nat := if j = 0 then s.1 else min (s.2 + 1) (65536 * (s.1 / 65536 + j))
theorem div_hi {x m : Nat} (h : x / 65536 = m) : x < 65536 * (m + 1) := by omega
theorem div_lo {x m : Nat} (h : x / 65536 = m) : 65536 * m ≤ x := by omega
theorem mod_as (x : Nat) : x % 65536 = x - 65536 * (x / 65536) := by omega
theorem mod_end (x : Nat) : x % 65536 = x + 1 - 65536 * (x / 65536) - 1 := by omega
theorem all_end (x : Nat) : 65535 = 65536 * (x + 1) - 65536 * x - 1 := by omega
theorem cut_at {a b j : Nat} (hj : j ≠ 0) (h : a / 65536 + j ≤ b / 65536) : min (b + 1) (65536 * (a / 65536 + j)) = 65536 * (a / 65536 + j) := by
  generalize a / 65536 + j = q at *
  exact Nat.min_eq_right (Nat.le_succ_of_le (Nat.le_trans (Nat.mul_le_mul_left _ h) (div_lo rfl)))
theorem cut_piece {s : Span} {j : Nat} (hs : s.1 ≤ s.2) (hj : j < cuts s) : at_cut s j ≤ s.2 ∧ at_cut s j / 65536 = s.1 / 65536 + j ∧ at_cut s (j + 1) = min (s.2 + 1) (65536 * (at_cut s j / 65536) + 65536) ∧ at_cut s j < at_cut s (j + 1) ∧
    (byKey s)[j]? = some (at_cut s j / 65536, (at_cut s j - 65536 * (at_cut s j / 65536), at_cut s (j + 1) - 65536 * (at_cut s j / 65536) - 1)) := by
  have hj' : j < s.2 / 65536 + 1 - s.1 / 65536 := hj
  have hq : s.1 / 65536 + j ≤ s.2 / 65536 := by clear hj; generalize s.1 / 65536 = q at *; generalize s.2 / 65536 = r at *; omega
  have e1 : at_cut s (j + 1) = min (s.2 + 1) (65536 * (s.1 / 65536 + j + 1)) := by unfold at_cut; rw [if_neg (Nat.succ_ne_zero j)]; rfl
  have a : at_cut s j ≤ s.2 ∧ at_cut s j / 65536 = s.1 / 65536 + j ∧ (j = 0 → at_cut s j = s.1) ∧ (j ≠ 0 → at_cut s j = 65536 * (s.1 / 65536 + j)) := by
    by_cases c : j = 0
    · subst c
      have : at_cut s 0 = s.1 := if_pos rfl
      rw [this]; exact ⟨hs, rfl, fun _ => rfl, fun h => absurd rfl h⟩
    · have : at_cut s j = 65536 * (s.1 / 65536 + j) := by unfold at_cut; rw [if_neg c]; exact cut_at c hq
      rw [this]
      exact ⟨Nat.le_trans (Nat.mul_le_mul_left _ hq) (div_lo rfl), Nat.mul_div_cancel_left _ (by decide), fun h => absurd h c, fun _ => rfl⟩
  obtain ⟨a1, a2, a3, a4⟩ := a
  refine ⟨a1, a2, by rw [e1, a2, Nat.mul_succ], by rw [e1]; exact Nat.lt_min.mpr ⟨Nat.lt_succ_of_le a1, div_hi a2⟩, ?_⟩
  rw [byKey_get (by exact hj'), a2, e1]
  show some (s.1 / 65536 + j, ((if j = 0 then s.1 % 65536 else 0), if s.1 / 65536 + j = s.2 / 65536 then s.2 % 65536 else 65535)) = _
  congr 2
  congr 1
  · by_cases c : j = 0
    · rw [if_pos c, a3 c, c, Nat.add_zero]; exact mod_as _
    · rw [if_neg c, a4 c, Nat.sub_self]
  · by_cases c : s.1 / 65536 + j = s.2 / 65536
    · rw [if_pos c, c, Nat.min_eq_left (div_hi rfl)]; exact mod_end _
    · rw [if_neg c]
      have hq' : s.1 / 65536 + j + 1 ≤ s.2 / 65536 := Nat.lt_of_le_of_ne hq c
      rw [Nat.min_eq_right (Nat.le_succ_of_le (Nat.le_trans (Nat.mul_le_mul_left _ hq') (div_lo rfl)))]
      exact all_end _
theorem cut_end {s : Span} (hs : s.1 ≤ s.2) : at_cut s (cuts s) = s.2 + 1 := by
  have hP : PART = 65536 := rfl
  unfold at_cut cuts
  rw [hP, if_neg (by omega)]
  omega
theorem cuts_len (s : Span) : (byKey s).length = cuts s := byKey_len s
theorem chunks_snoc (l : List Span) (s : Span) : chunks (l ++ [s]) = chunks l ++ byKey s := by
  unfold chunks; rw [List.flatMap_append, List.flatMap_cons, List.flatMap_nil, List.append_nil]
end PM
set_option linter.all false
namespace PM
open Sv14
def lf (A : List Int) (i : Nat) : Int := (A ++ [4294967297]).getD i 0
theorem lf_in {A : List Int} {i : Nat} {e : Int} (h : A[i]? = some e) : lf A i = e := by
  unfold lf
  have := (List.getElem?_eq_some_iff.mp h).1
  rw [List.getD_eq_getElem?_getD, List.getElem?_append_left this, h]; rfl
theorem lf_end {A : List Int} {i : Nat} (h : i = A.length) : lf A i = 4294967297 := by
  unfold lf
  subst h
  rw [List.getD_eq_getElem?_getD, List.getElem?_append_right (Nat.le_refl _), Nat.sub_self]; rfl
theorem lf_get {A : List Int} {i : Nat} (h : i ≤ A.length) : (A ++ [4294967297])[i]? = some (lf A i) := by
  unfold lf
  have : i < (A ++ [(4294967297 : Int)]).length := by rw [List.length_append]; simp; omega
  rw [List.getD_eq_getElem?_getD, List.getElem?_eq_getElem this]; rfl
structure Side (A : List Int) (i : Nat) (t : Int) : Prop where
  le : i ≤ A.length
  low : ∀ e, e ∈ A.take i → e < t
  high : ∀ e, e ∈ A.drop i → t ≤ e
theorem Side.cnt_lt {A : List Int} {i : Nat} {t : Int} (S : Side A i t) {x : Int} (h : x < t) (h0 : ∀ e, e ∈ A.take i → e ≤ x) : ecnt A x = i := by
  have e : A = A.take i ++ A.drop i := (List.take_append_drop i A).symm
  rw [e, ecnt_append, ecnt_low h0, ecnt_high (fun u hu => by have := S.high u hu; omega), List.length_take]
  have := S.le; omega
def nxt (A : List Int) (i : Nat) (t : Int) : Nat := if lf A i = t then i + 1 else i
theorem drop_head {A : List Int} {i : Nat} {e : Int} {r : List Int} (h : A.drop i = e :: r) : A[i]? = some e ∧ A.drop (i + 1) = r := by
  constructor
  · have : (A.drop i)[0]? = some e := by rw [h]; rfl
    rw [List.getElem?_drop, Nat.add_zero] at this; exact this
  · rw [← List.drop_drop, h]; rfl
theorem Side.next {A : List Int} {i : Nat} {t : Int} (hA : A.Pairwise (· < ·)) (hm : ∀ e, e ∈ A → e ≤ 4294967296) (S : Side A i t) (ht : t < 4294967297) :
    nxt A i t ≤ A.length ∧ (∀ e, e ∈ A.take (nxt A i t) → e ≤ t) ∧ (∀ e, e ∈ A.drop (nxt A i t) → lf A (nxt A i t) ≤ e) ∧ t < lf A (nxt A i t) := by
  have hle := S.le
  cases hd : A.drop i with
  | nil =>
    have hl : i = A.length := by have := List.drop_eq_nil_iff.mp hd; omega
    have e1 : lf A i = 4294967297 := lf_end hl
    have e2 : nxt A i t = i := by unfold nxt; rw [if_neg (by omega)]
    rw [e2, e1]
    refine ⟨hle, fun e he => by have := S.low e he; omega, fun e he => ?_, ht⟩
    rw [hd] at he; cases he
  | cons u r =>
    obtain ⟨g, d⟩ := drop_head hd
    have lt := (List.getElem?_eq_some_iff.mp g).1
    have e1 : lf A i = u := lf_in g
    have hu := S.high u (by rw [hd]; exact List.mem_cons_self ..)
    have pw : (u :: r).Pairwise (· < ·) := by rw [← hd]; exact hA.sublist (List.drop_sublist _ _)
    have pr := List.pairwise_cons.mp pw
    have mu := hm u (List.mem_of_getElem? g)
    by_cases c : u = t
    · have e2 : nxt A i t = i + 1 := by unfold nxt; rw [if_pos (by omega)]
      rw [e2]
      refine ⟨lt, fun e he => ?_, ?_⟩
      · rw [show A.take (i + 1) = A.take i ++ [u] by rw [List.take_succ, g]; rfl] at he
        rcases List.mem_append.mp he with q | q
        · have := S.low e q; omega
        · rw [List.mem_singleton.mp q]; omega
      · rw [d]
        cases hr : r with
        | nil =>
          have : lf A (i + 1) = 4294967297 := lf_end (by
            have := List.drop_eq_nil_iff.mp (d.trans hr); omega)
          rw [this]
          exact ⟨fun e he => (by cases he), ht⟩
        | cons v r' =>
          obtain ⟨g', d'⟩ := drop_head (d.trans hr)
          rw [lf_in g']
          rw [hr] at pr
          have q := List.pairwise_cons.mp pr.2
          refine ⟨fun e he => ?_, ?_⟩
          · rcases List.mem_cons.mp he with z | z
            · omega
            · have := q.1 e z; omega
          · have := pr.1 v (List.mem_cons_self ..); omega
    · have e2 : nxt A i t = i := by unfold nxt; rw [if_neg (by omega)]
      rw [e2, e1]
      refine ⟨hle, fun e he => by have := S.low e he; omega, fun e he => ?_, by omega⟩
      rw [hd] at he
      rcases List.mem_cons.mp he with z | z
      · omega
      · have := pr.1 e z; omega
structure JE (how : Int) (A B : List Int) (t : Int) (i j : Nat) (E : List Int) : Prop where
  sa : Side A i t
  sb : Side B j t
  tat : t = min (lf A i) (lf B j)
  rise : E.Pairwise (· < ·)
  pos : ∀ e, e ∈ E → 0 ≤ e ∧ e < t
  len : E.length ≤ i + j
  par : ∀ x : Nat, (x : Int) < t → odd (ecnt E x) = joined how (odd (ecnt A x)) (odd (ecnt B x))
theorem JE.start (how : Int) {A B : List Int} (hA : A.Pairwise (· < ·)) (hB : B.Pairwise (· < ·)) (mA : ∀ e, e ∈ A → e ≤ 4294967296) (mB : ∀ e, e ∈ B → e ≤ 4294967296) : JE how A B (min (lf A 0) (lf B 0)) 0 0 [] := by
  have hd : ∀ C : List Int, C.Pairwise (· < ·) → (∀ e, e ∈ C → e ≤ 4294967296) → ∀ e, e ∈ C.drop 0 → lf C 0 ≤ e := by
    intro C hC mC e he
    rw [List.drop_zero] at he
    cases C with
    | nil => cases he
    | cons u r =>
      rw [lf_in (e := u) rfl]
      rcases List.mem_cons.mp he with q | q
      · omega
      · have := (List.pairwise_cons.mp hC).1 e q; omega
  have ha := hd A hA mA
  have hb := hd B hB mB
  refine ⟨⟨Nat.zero_le _, by simp, fun e he => ?_⟩, ⟨Nat.zero_le _, by simp, fun e he => ?_⟩, rfl, by simp, by simp, Nat.zero_le _, fun x hx => ?_⟩
  · have := ha e he; omega
  · have := hb e he; omega
  · rw [ecnt_high (E := A), ecnt_high (E := B)]
    · show odd 0 = _
      exact (joined_off how).symm
    · intro e he; have := hb e (by rw [List.drop_zero]; exact he); omega
    · intro e he; have := ha e (by rw [List.drop_zero]; exact he); omega
theorem JE.step {how : Int} {A B : List Int} {t : Int} {i j : Nat} {E : List Int} (hA : A.Pairwise (· < ·)) (hB : B.Pairwise (· < ·)) (mA : ∀ e, e ∈ A → 0 ≤ e ∧ e ≤ 4294967296) (mB : ∀ e, e ∈ B → 0 ≤ e ∧ e ≤ 4294967296)
    (I : JE how A B t i j E) (ht : t < 4294967297) {E' : List Int} (hE : E' = if joined how (odd (nxt A i t)) (odd (nxt B j t)) ≠ odd E.length then E ++ [t] else E) :
    JE how A B (min (lf A (nxt A i t)) (lf B (nxt B j t))) (nxt A i t) (nxt B j t) E' := by
  obtain ⟨a1, a2, a3, a4⟩ := I.sa.next hA (fun e he => (mA e he).2) ht
  obtain ⟨b1, b2, b3, b4⟩ := I.sb.next hB (fun e he => (mB e he).2) ht
  have t0 : 0 ≤ t := by
    rw [I.tat]
    have q : ∀ C : List Int, ∀ k, k ≤ C.length → (∀ e, e ∈ C → 0 ≤ e ∧ e ≤ 4294967296) → 0 ≤ lf C k := by
      intro C k hk m
      rcases Nat.lt_or_ge k C.length with c | c
      · rw [lf_in (List.getElem?_eq_getElem c)]; exact (m _ (List.getElem_mem c)).1
      · rw [lf_end (by omega)]; omega
    have := q A i I.sa.le mA
    have := q B j I.sb.le mB
    omega
  have S1 : Side A (nxt A i t) (min (lf A (nxt A i t)) (lf B (nxt B j t))) := ⟨a1, fun e he => by have := a2 e he; omega, fun e he => by have := a3 e he; omega⟩
  have S2 : Side B (nxt B j t) (min (lf A (nxt A i t)) (lf B (nxt B j t))) := ⟨b1, fun e he => by have := b2 e he; omega, fun e he => by have := b3 e he; omega⟩
  have hlen : E'.length ≤ nxt A i t + nxt B j t := by
    have h1 : i ≤ nxt A i t := by unfold nxt; split <;> omega
    have h2 : j ≤ nxt B j t := by unfold nxt; split <;> omega
    have h3 : i + j < nxt A i t + nxt B j t := by
      have := I.tat
      unfold nxt
      by_cases c : lf A i = t
      · rw [if_pos c]; split <;> omega
      · rw [if_neg c, if_pos (by omega)]; omega
    have := I.len
    rw [hE]; split
    · rw [List.length_append, List.length_singleton]; omega
    · omega
  refine ⟨S1, S2, rfl, ?_, ?_, hlen, ?_⟩
  · rw [hE]; split
    · rw [List.pairwise_append]
      exact ⟨I.rise, by simp, fun e he u hu => by rw [List.mem_singleton.mp hu]; exact (I.pos e he).2⟩
    · exact I.rise
  · intro e he
    have q : e ∈ E ∨ e = t := by
      rw [hE] at he
      split at he
      · rcases List.mem_append.mp he with z | z
        · exact .inl z
        · exact .inr (List.mem_singleton.mp z)
      · exact .inl he
    rcases q with q | q
    · have := I.pos e q; omega
    · omega
  · intro x hx
    by_cases c : (x : Int) < t
    · rw [← I.par x c, hE]
      split
      · rw [ecnt_append, ecnt_high (E := [t]) (by intro e he; rw [List.mem_singleton.mp he]; exact c), Nat.add_zero]
      · rfl
    · rw [S1.cnt_lt hx (fun e he => by have := a2 e he; omega), S2.cnt_lt hx (fun e he => by have := b2 e he; omega)]
      have low : ∀ e, e ∈ E → e ≤ (x : Int) := fun e he => by have := (I.pos e he).2; omega
      rw [hE]
      by_cases d : joined how (odd (nxt A i t)) (odd (nxt B j t)) = odd E.length
      · rw [if_neg (by simpa using d), ecnt_low low, d]
      · rw [if_pos d, ecnt_append, ecnt_low low, ecnt_low (E := [t]) (by intro e he; rw [List.mem_singleton.mp he]; omega), List.length_singleton, odd_succ]
        cases q : joined how (odd (nxt A i t)) (odd (nxt B j t)) <;> cases r : odd E.length <;> rw [q, r] at d <;> simp at d ⊢
theorem odd_double (n : Nat) : odd (2 * n) = false := by unfold odd; exact decide_eq_false (by omega)
theorem even_of_odd {n : Nat} (h : odd n = false) : n % 2 = 0 := by unfold odd at h; have := of_decide_eq_false h; omega
theorem JE.done {how : Int} {a b : List Span} {t : Int} {i j : Nat} {E : List Int} (ha : Proper a) (hb : Proper b) (I : JE how (fl a) (fl b) t i j E) (ht : ¬ t < 4294967297) : E = fl (joinSpans how a b) := by
  have la : ∀ e, e ∈ fl a → e ≤ ((4294967296 : Nat) : Int) := le_fl (n := 4294967296) fun s hs => ha.1 s hs
  have lb : ∀ e, e ∈ fl b → e ≤ ((4294967296 : Nat) : Int) := le_fl (n := 4294967296) fun s hs => hb.1 s hs
  have tt : t ≤ 4294967297 := by
    have q : ∀ C : List Int, ∀ k, k ≤ C.length → (∀ e, e ∈ C → e ≤ ((4294967296 : Nat) : Int)) → lf C k ≤ 4294967297 := by
      intro C k hk m
      rcases Nat.lt_or_ge k C.length with c | c
      · rw [lf_in (List.getElem?_eq_getElem c)]; have := m _ (List.getElem_mem c); omega
      · rw [lf_end (by omega)]; omega
    have := q _ i I.sa.le la
    have := I.tat; omega
  have le : ∀ e, e ∈ E → e ≤ ((4294967296 : Nat) : Int) := fun e he => by have := (I.pos e he).2; omega
  have evE : odd E.length = false := by
    have := I.par 4294967296 (by omega)
    rw [ecnt_low le, ecnt_low la, ecnt_low lb, fl_length, fl_length, odd_double, odd_double, joined_off] at this
    exact this
  obtain ⟨m, rfl, hm⟩ := fl_of_rising E I.rise (fun e he => (I.pos e he).1) (even_of_odd evE)
  rw [apart_unique m (joinSpans how a b) hm (apart_of_proper (join_proper how ha hb)) fun x => ?_]
  rw [join_holds how ha hb, ← ecnt_fl x m hm, ← ecnt_fl x a (apart_of_proper ha), ← ecnt_fl x b (apart_of_proper hb)]
  by_cases c : (x : Int) < t
  · exact I.par x c
  · have g : ∀ C : List Int, (∀ e, e ∈ C → e ≤ ((4294967296 : Nat) : Int)) → ecnt C x = C.length := fun C hC => ecnt_low fun e he => by have := hC e he; omega
    rw [g _ le, g _ la, g _ lb, evE, fl_length, fl_length, odd_double, odd_double, joined_off]
end PM
set_option linter.all false
namespace PM
open Sv14
def fstep (b : Fast) (i : Nat) (j n : Nat) : Nat := b.getD (i + j) 0 + 256 * n
theorem at_eq (b : Fast) (i k : Nat) : at_ b i k = (List.range k).foldr (fstep b i) 0 := rfl
theorem fstep_lin (b : Fast) (i z : Nat) : ∀ k, (List.range k).foldr (fstep b i) z = (List.range k).foldr (fstep b i) 0 + 256 ^ k * z := by
  intro k
  induction k generalizing z with
  | zero => simp
  | succ k ih =>
    rw [List.range_succ, List.foldr_append, List.foldr_append]
    show (List.range k).foldr (fstep b i) (fstep b i k z) = (List.range k).foldr (fstep b i) (fstep b i k 0) + _
    rw [ih, ih (fstep b i k 0)]
    unfold fstep
    rw [Nat.pow_succ, Nat.mul_add, Nat.mul_zero, Nat.add_zero, ← Nat.add_assoc, Nat.mul_assoc]
theorem at_succ (b : Fast) (i k : Nat) : at_ b i (k + 1) = at_ b i k + b.getD (i + k) 0 * 256 ^ k := by
  rw [at_eq, at_eq, List.range_succ, List.foldr_append]
  show (List.range k).foldr (fstep b i) (fstep b i k 0) = _
  rw [fstep_lin]
  unfold fstep
  rw [Nat.mul_zero, Nat.add_zero, Nat.mul_comm]
theorem at_zero (b : Fast) (i : Nat) : at_ b i 0 = 0 := rfl
def Bytes8 (l : List Nat) : Prop := ∀ c, c ∈ l → c < 256
theorem getD_lt {l : List Nat} (h : Bytes8 l) (i : Nat) : l.toArray.getD i 0 < 256 := by
  rw [Array.getD_eq_getD_getElem?, List.getElem?_toArray]
  cases e : l[i]? with
  | none => decide
  | some c => exact h c (List.mem_of_getElem? e)
theorem getD_some {l : List Nat} {i c : Nat} (h : l[i]? = some c) : l.toArray.getD i 0 = c := by
  rw [Array.getD_eq_getD_getElem?, List.getElem?_toArray, h]; rfl
theorem at_lt {l : List Nat} (h : Bytes8 l) (i k : Nat) : at_ l.toArray i k < 256 ^ k := by
  induction k with
  | zero => rw [at_zero]; decide
  | succ k ih =>
    rw [at_succ, Nat.pow_succ]
    have := getD_lt h (i + k)
    have : l.toArray.getD (i + k) 0 * 256 ^ k ≤ 255 * 256 ^ k := Nat.mul_le_mul_right _ (by omega)
    omega
def seg (l : List Nat) (i k : Nat) : List Nat := (l.drop i).take k
theorem seg_zero (l : List Nat) (i : Nat) : seg l i 0 = [] := List.take_zero
theorem seg_add (l : List Nat) (i a c : Nat) : seg l i (a + c) = seg l i a ++ seg l (i + a) c := by
  unfold seg; rw [List.take_add, List.drop_drop]
theorem seg_all (l : List Nat) : seg l 0 l.length = l := by unfold seg; rw [List.drop_zero, List.take_length]
theorem seg_len {l : List Nat} {i k : Nat} (h : i + k ≤ l.length) : (seg l i k).length = k := by unfold seg; rw [List.length_take, List.length_drop]; omega
theorem seg_get (l : List Nat) (i k j : Nat) : (seg l i k)[j]? = if j < k then l[i + j]? else none := by
  unfold seg; rw [List.getElem?_take, List.getElem?_drop]
theorem little_zero (n : Nat) : little 0 n = [] := rfl
theorem little_succ (k n : Nat) : little (k + 1) n = little k n ++ [n / 256 ^ k % 256] := by
  unfold little; rw [List.range_succ, List.map_append]; rfl
theorem little_low (k n m : Nat) : little k (n + 256 ^ k * m) = little k n := by
  unfold little
  apply List.map_congr_left
  intro i hi
  have hi := List.mem_range.mp hi
  obtain ⟨d, rfl⟩ : ∃ d, k = i + 1 + d := ⟨k - i - 1, by omega⟩
  rw [Nat.pow_add, Nat.pow_succ, Nat.mul_assoc, Nat.mul_assoc, Nat.add_mul_div_left _ _ (Nat.pow_pos (by decide)), Nat.add_mul_mod_self_left]
theorem little_at {l : List Nat} (h : Bytes8 l) {i k : Nat} (hk : i + k ≤ l.length) : little k (at_ l.toArray i k) = seg l i k := by
  induction k with
  | zero => rw [little_zero, seg_zero]
  | succ k ih =>
    have lt : i + k < l.length := by omega
    have e : l[i + k]? = some l[i + k] := List.getElem?_eq_getElem lt
    rw [little_succ, at_succ, Nat.mul_comm, little_low, ih (by omega), seg_add, getD_some e, Nat.add_mul_div_left _ _ (Nat.pow_pos (by decide)), Nat.div_eq_of_lt (at_lt h i k), Nat.zero_add,
      Nat.mod_eq_of_lt (h _ (List.getElem_mem lt))]
    congr 1
    apply List.ext_getElem?
    intro j
    rw [seg_get]
    cases j with
    | zero => rw [if_pos (by omega), Nat.add_zero, e]; rfl
    | succ j => rw [if_neg (by omega)]; rfl
theorem seg_rows' {l : List Nat} {f : Nat → List Nat} {i w : Nat} : ∀ n, (∀ k, k < n → f k = seg l (i + w * k) w) → ((List.range n).map f).flatten = seg l i (w * n)
  | 0, h => by rw [Nat.mul_zero, seg_zero]; rfl
  | n + 1, h => by
    rw [List.range_succ, List.map_append, List.flatten_append, seg_rows' n (fun k hk => h k (by omega)), Nat.mul_succ, seg_add, ← h n (by omega)]
    show _ ++ (f n ++ []) = _
    rw [List.append_nil]
def Rise (l : List Nat) : Prop := l.Pairwise (· < ·)
theorem rise_ext : ∀ (l m : List Nat), Rise l → Rise m → (∀ x, x ∈ l ↔ x ∈ m) → l = m
  | [], [], _, _, _ => rfl
  | [], y :: m, _, _, h => by have := (h y).mpr (List.mem_cons_self ..); cases this
  | x :: l, [], _, _, h => by have := (h x).mp (List.mem_cons_self ..); cases this
  | x :: l, y :: m, hl, hm, h => by
    have pl := List.pairwise_cons.mp hl
    have pm := List.pairwise_cons.mp hm
    have e : x = y := by
      rcases List.mem_cons.mp ((h x).mp (List.mem_cons_self ..)) with q | q
      · exact q
      · rcases List.mem_cons.mp ((h y).mpr (List.mem_cons_self ..)) with r | r
        · exact r.symm
        · have := pm.1 x q; have := pl.1 y r; omega
    subst e
    rw [rise_ext l m pl.2 pm.2 fun z => ?_]
    constructor
    · intro hz
      have := pl.1 z hz
      rcases List.mem_cons.mp ((h z).mp (List.mem_cons_of_mem _ hz)) with q | q
      · omega
      · exact q
    · intro hz
      have := pm.1 z hz
      rcases List.mem_cons.mp ((h z).mpr (List.mem_cons_of_mem _ hz)) with q | q
      · omega
      · exact q
theorem nums_mem {l : List Span} {x : Nat} : x ∈ nums l ↔ holds l x = true := by
  rw [holds_iff]
  unfold nums
  rw [List.mem_flatMap]
  constructor
  · rintro ⟨s, hs, h⟩
    obtain ⟨i, hi, rfl⟩ := List.mem_map.mp h
    have := List.mem_range.mp hi
    exact ⟨s, hs, by omega, by omega⟩
  · rintro ⟨s, hs, a, b⟩
    exact ⟨s, hs, List.mem_map.mpr ⟨x - s.1, List.mem_range.mpr (by omega), by omega⟩⟩
theorem nums_rise : ∀ l : List Span, Apart l → Rise (nums l)
  | [], _ => by simp [Rise, nums]
  | s :: l, h => by
    have ls := List.pairwise_cons.mp h.2
    rw [nums_cons]
    unfold Rise
    rw [List.pairwise_append]
    refine ⟨?_, nums_rise l h.tail, ?_⟩
    · rw [List.pairwise_map]
      exact List.pairwise_lt_range.imp (by intro a b q; omega)
    · intro a ha b hb
      obtain ⟨i, hi, rfl⟩ := List.mem_map.mp ha
      have := List.mem_range.mp hi
      obtain ⟨t, ht, p, q⟩ := (holds_iff l b).mp (nums_mem.mp hb)
      have := ls.1 t ht
      omega
def singles (l : List Nat) : List Span := l.map fun x => (x, x)
theorem singles_ok (l : List Nat) : ∀ s, s ∈ singles l → s.1 ≤ s.2 := by
  intro s hs
  obtain ⟨x, _, rfl⟩ := List.mem_map.mp hs
  exact Nat.le_refl _
theorem singles_sorted {l : List Nat} (h : Rise l) : Sorted1 (singles l) := by
  unfold Sorted1 singles
  rw [List.pairwise_map]
  exact h.imp (by intro a b q; exact Nat.le_of_lt q)
theorem singles_holds {l : List Nat} {x : Nat} : holds (singles l) x = true ↔ x ∈ l := by
  rw [holds_iff]
  constructor
  · rintro ⟨s, hs, a, b⟩
    obtain ⟨y, hy, rfl⟩ := List.mem_map.mp hs
    have : x = y := Nat.le_antisymm b a
    rw [this]; exact hy
  · intro h
    exact ⟨(x, x), List.mem_map.mpr ⟨x, h, rfl⟩, Nat.le_refl _, Nat.le_refl _⟩
theorem merged_singles_apart {l : List Nat} (h : Rise l) : Apart (merged (singles l)) := merged_apart (singles_ok l) (singles_sorted h)
theorem nums_merged {l : List Nat} (h : Rise l) : nums (merged (singles l)) = l := by
  refine rise_ext _ _ (nums_rise _ (merged_singles_apart h)) h fun x => ?_
  rw [nums_mem, holds_merged (singles_ok l) (singles_sorted h), singles_holds]
theorem zip_all {α : Type} {l : List α} {f : α × α → Bool} : (l.zip (l.drop 1)).all f = true ↔ ∀ i a b, l[i]? = some a → l[i + 1]? = some b → f (a, b) = true := by
  rw [List.all_eq_true]
  constructor
  · intro h i a b ha hb
    refine h (a, b) (List.mem_of_getElem? (i := i) ?_)
    rw [List.getElem?_zip_eq_some]
    exact ⟨ha, by rw [List.getElem?_drop, Nat.add_comm]; exact hb⟩
  · rintro h ⟨a, b⟩ hx
    obtain ⟨i, hi⟩ := List.getElem?_of_mem hx
    rw [List.getElem?_zip_eq_some] at hi
    have h2 := hi.2
    rw [List.getElem?_drop, Nat.add_comm] at h2
    exact h i a b hi.1 h2
theorem rise_iff (l : List Nat) : Rise l ↔ ∀ i a b, l[i]? = some a → l[i + 1]? = some b → a < b := by
  constructor
  · intro h i a b ha hb
    obtain ⟨h1, rfl⟩ := List.getElem?_eq_some_iff.mp ha
    obtain ⟨h2, rfl⟩ := List.getElem?_eq_some_iff.mp hb
    exact List.pairwise_iff_getElem.mp h i (i + 1) h1 h2 (by omega)
  · intro h
    refine List.pairwise_iff_getElem.mpr ?_
    intro i j hi hj hij
    obtain ⟨d, rfl⟩ : ∃ d, j = i + 1 + d := ⟨j - i - 1, by omega⟩
    clear hij
    induction d with
    | zero => exact h i _ _ (List.getElem?_eq_getElem hi) (List.getElem?_eq_getElem hj)
    | succ d ih =>
      have := ih (by omega)
      have := h (i + 1 + d) _ _ (List.getElem?_eq_getElem (by omega)) (List.getElem?_eq_getElem hj)
      omega
theorem fold_gap : ∀ (r : List Span) (x : Span) (o : List Span), Apart (x :: r) → r.foldl mstep (x :: o) = r.reverse ++ (x :: o)
  | [], x, o, _ => rfl
  | s :: r, x, o, h => by
    have p := List.pairwise_cons.mp h.2
    have := p.1 s (List.mem_cons_self ..)
    rw [List.foldl_cons]
    have e : mstep (x :: o) s = s :: x :: o := by unfold mstep; dsimp only; rw [if_neg (by omega)]
    rw [e, fold_gap r s (x :: o) h.tail, List.reverse_cons, List.append_assoc]; rfl
theorem fold_apart {l : List Span} (h : Apart l) : l.foldl mstep [] = l.reverse := by
  cases l with
  | nil => rfl
  | cons x r =>
    rw [List.foldl_cons]
    show r.foldl mstep [x] = _
    rw [fold_gap r x [] h, List.reverse_cons]
theorem touching_iff : ∀ l : List Span, (∀ s, s ∈ l → s.1 ≤ s.2) → (touching l = false ↔ Apart l)
  | [], _ => ⟨fun _ => ⟨by simp, by simp⟩, fun _ => rfl⟩
  | [s], h => ⟨fun _ => ⟨h, by simp⟩, fun _ => rfl⟩
  | s :: t :: r, h => by
    have ih := touching_iff (t :: r) fun u hu => h u (List.mem_cons_of_mem _ hu)
    show (decide (t.1 ≤ s.2 + 1) || touching (t :: r)) = false ↔ _
    rw [Bool.or_eq_false_iff, ih]
    constructor
    · rintro ⟨a, b⟩
      have a := of_decide_eq_false a
      refine ⟨h, List.pairwise_cons.mpr ⟨?_, b.2⟩⟩
      intro u hu
      rcases List.mem_cons.mp hu with q | q
      · subst q; omega
      · have := (List.pairwise_cons.mp b.2).1 u q
        have := b.1 t (List.mem_cons_self ..)
        omega
    · intro a
      exact ⟨decide_eq_false (by have := (List.pairwise_cons.mp a.2).1 t (List.mem_cons_self ..); omega), a.tail⟩
theorem mod_pow_succ (x n : Nat) : x % 2 ^ (n + 1) = x % 2 ^ n + (if x.testBit n = true then 2 ^ n else 0) := by
  rw [Nat.pow_succ, Nat.mod_mul, Nat.testBit_eq_decide_div_mod_eq]
  by_cases c : x / 2 ^ n % 2 = 1
  · rw [if_pos (decide_eq_true c), c, Nat.mul_one]
  · have : x / 2 ^ n % 2 = 0 := by omega
    rw [if_neg (by simpa using c), this, Nat.mul_zero]
def bitOf (b : Fast) (i x : Nat) : Bool := (b.getD (i + x / 8) 0).testBit (x % 8)
def partBits (b : Fast) (i m k : Nat) : Nat := b.getD (i + k) 0 % 2 ^ (min 8 (m - 8 * k))
theorem bits_fold (b : Fast) (i : Nat) : ∀ m, m ≤ 65536 → (((List.range m).filter (bitOf b i)).foldl bstep (List.replicate 8192 0)) = (List.range 8192).map (partBits b i m) := by
  intro m
  induction m with
  | zero =>
    intro _
    apply List.ext_getElem?
    intro j
    show (List.replicate 8192 0)[j]? = _
    rw [List.getElem?_replicate, List.getElem?_map]
    by_cases c : j < 8192
    · rw [if_pos c, List.getElem?_range c]
      show some 0 = some (partBits b i 0 j)
      unfold partBits
      rw [Nat.zero_sub, Nat.min_zero, Nat.pow_zero, Nat.mod_one]
    · rw [if_neg c, List.getElem?_eq_none (by rw [List.length_range]; omega)]; rfl
  | succ m ih =>
    intro hm
    have ih := ih (by omega)
    rw [List.range_succ, List.filter_append, List.foldl_append, ih]
    have same : ∀ k, k ≠ m / 8 → partBits b i (m + 1) k = partBits b i m k := by
      intro k hk
      unfold partBits
      congr 2
      omega
    have here : partBits b i (m + 1) (m / 8) = partBits b i m (m / 8) + if bitOf b i m = true then 2 ^ (m % 8) else 0 := by
      unfold partBits bitOf
      rw [show min 8 (m + 1 - 8 * (m / 8)) = m % 8 + 1 by omega, show min 8 (m - 8 * (m / 8)) = m % 8 by omega, mod_pow_succ]
    by_cases c : bitOf b i m = true
    · rw [List.filter_cons, if_pos c, List.filter_nil, List.foldl_cons, List.foldl_nil]
      have g : ((List.range 8192).map (partBits b i m))[m / 8]? = some (partBits b i m (m / 8)) := by
        rw [List.getElem?_map, List.getElem?_range (by omega)]; rfl
      rw [bstep_set g]
      apply List.ext_getElem?
      intro j
      rw [List.getElem?_set]
      by_cases d : m / 8 = j
      · subst d
        rw [if_pos rfl, if_pos (by rw [List.length_map, List.length_range]; omega), List.getElem?_map, List.getElem?_range (by omega)]
        show some _ = some (partBits b i (m + 1) (m / 8))
        rw [here, if_pos c]
      · rw [if_neg d, List.getElem?_map, List.getElem?_map]
        by_cases f : j < 8192
        · rw [List.getElem?_range f]
          show some _ = some _
          rw [same j (fun q => d q.symm)]
        · rw [List.getElem?_eq_none (by rw [List.length_range]; omega)]; rfl
    · rw [List.filter_cons, if_neg c, List.filter_nil, List.foldl_nil]
      apply List.map_congr_left
      intro k _
      by_cases d : k = m / 8
      · subst d; rw [here, if_neg c, Nat.add_zero]
      · rw [same k d]
theorem bits_seg {l : List Nat} (h : Bytes8 l) {i : Nat} (hi : i + 8192 ≤ l.length) : ((List.range 65536).filter (bitOf l.toArray i)).foldl bstep (List.replicate 8192 0) = seg l i 8192 := by
  rw [bits_fold _ _ _ (Nat.le_refl _)]
  apply List.ext_getElem?
  intro j
  rw [seg_get, List.getElem?_map]
  by_cases c : j < 8192
  · have lt : i + j < l.length := by omega
    rw [if_pos c, List.getElem?_range c, List.getElem?_eq_getElem lt]
    show some (partBits l.toArray i 65536 j) = _
    unfold partBits
    rw [show min 8 (65536 - 8 * j) = 8 by omega, getD_some (List.getElem?_eq_getElem lt)]
    congr 1
    exact Nat.mod_eq_of_lt (h _ (List.getElem_mem lt))
  · rw [if_neg c, List.getElem?_eq_none (by rw [List.length_range]; omega)]; rfl
end PM
set_option linter.all false
namespace PM
open Sv14
structure Got (bs : List Nat) (i : Nat) (r : Bool) (l : List Span) (e : Nat) : Prop where
  ap : Apart l
  top : ∀ s, s ∈ l → s.2 < PART
  le : e ≤ bs.length
  long : ∀ k, e = i + (Part.mk k l r).long
  seg : ∀ k, seg bs i (Part.mk k l r).long = (Part.mk k l r).bytes
def runL (b : Fast) (i k : Nat) : Span := (at_ b (i + 2 + 4 * k) 2, at_ b (i + 2 + 4 * k) 2 + at_ b (i + 4 + 4 * k) 2)
def runsL (b : Fast) (i n : Nat) : List Span := (List.range n).map (runL b i)
theorem runsAt_eq (b : Fast) (i : Nat) : runsAt b i = if b.size < i + 2 + 4 * at_ b i 2 then none else
    if ((runsL b i (at_ b i 2)).any fun s => decide (PART ≤ s.2)) = true ∨ touching (runsL b i (at_ b i 2)) = true then none else some (runsL b i (at_ b i 2), i + 2 + 4 * at_ b i 2) := rfl
theorem runsL_ok (b : Fast) (i n : Nat) : ∀ s, s ∈ runsL b i n → s.1 ≤ s.2 := by
  intro s hs
  obtain ⟨k, _, rfl⟩ := List.mem_map.mp hs
  exact Nat.le_add_right _ _
structure RunsOk (b : Fast) (i : Nat) : Prop where
  le : i + 2 + 4 * at_ b i 2 ≤ b.size
  top : ∀ s, s ∈ runsL b i (at_ b i 2) → s.2 < PART
  ap : Apart (runsL b i (at_ b i 2))
theorem runsAt_some {b : Fast} {i : Nat} (h : RunsOk b i) : runsAt b i = some (runsL b i (at_ b i 2), i + 2 + 4 * at_ b i 2) := by
  rw [runsAt_eq, if_neg (by have := h.le; omega), if_neg]
  rintro (q | q)
  · obtain ⟨s, hs, q⟩ := List.any_eq_true.mp q
    have := h.top s hs; have := of_decide_eq_true q; omega
  · rw [(touching_iff _ (runsL_ok b i _)).mpr h.ap] at q; cases q
theorem runsAt_none {b : Fast} {i : Nat} (h : ¬ RunsOk b i) : runsAt b i = none := by
  rw [runsAt_eq]
  by_cases c : b.size < i + 2 + 4 * at_ b i 2
  · rw [if_pos c]
  · rw [if_neg c]
    by_cases d : ((runsL b i (at_ b i 2)).any fun s => decide (PART ≤ s.2)) = true ∨ touching (runsL b i (at_ b i 2)) = true
    · rw [if_pos d]
    · exfalso
      apply h
      refine ⟨by omega, fun s hs => ?_, ?_⟩
      · rcases Nat.lt_or_ge s.2 PART with q | q
        · exact q
        · exact (d (.inl (List.any_eq_true.mpr ⟨s, hs, decide_eq_true q⟩))).elim
      · refine (touching_iff _ (runsL_ok b i _)).mp ?_
        cases q : touching (runsL b i (at_ b i 2)) with
        | false => rfl
        | true => exact (d (.inr q)).elim
theorem runsL_len (b : Fast) (i n : Nat) : (runsL b i n).length = n := by unfold runsL; rw [List.length_map, List.length_range]
theorem flatMap_map_range {α β : Type} (f : Nat → α) (g : α → List β) (n : Nat) : ((List.range n).map f).flatMap g = ((List.range n).map fun k => g (f k)).flatten := by
  rw [← List.flatMap_def, List.flatMap_map]
theorem runsAt_got {bs : List Nat} (hb : Bytes8 bs) {i e : Nat} {l : List Span} (h : runsAt bs.toArray i = some (l, e)) : Got bs i true l e := by
  by_cases ok : RunsOk bs.toArray i
  · rw [runsAt_some ok] at h
    cases h
    have hle : i + 2 + 4 * at_ bs.toArray i 2 ≤ bs.length := by have := ok.le; rw [List.size_toArray] at this; exact this
    have lng : ∀ k, (Part.mk k (runsL bs.toArray i (at_ bs.toArray i 2)) true).long = 2 + 4 * at_ bs.toArray i 2 := by
      intro k; unfold Part.long; rw [if_pos rfl]; unfold runsLong; dsimp only; rw [runsL_len]
    refine ⟨ok.ap, ok.top, hle, fun k => by rw [lng k]; omega, fun k => ?_⟩
    rw [lng k]
    unfold Part.bytes
    rw [if_pos rfl]
    dsimp only
    rw [runsL_len, seg_add, little_at hb (by omega)]
    congr 1
    unfold runsL
    rw [flatMap_map_range]
    symm
    refine seg_rows' _ fun k hk => ?_
    unfold runL
    dsimp only
    rw [Nat.add_sub_cancel_left, little_at hb (by omega), little_at hb (by omega), show i + 4 + 4 * k = i + 2 + 4 * k + 2 by omega, ← seg_add]
  · rw [runsAt_none ok] at h; cases h
def listL (b : Fast) (i n : Nat) : List Nat := (List.range n).map fun k => at_ b (i + 2 * k) 2
theorem listL_len (b : Fast) (i n : Nat) : (listL b i n).length = n := by unfold listL; rw [List.length_map, List.length_range]
theorem listAt_eq (b : Fast) (i n : Nat) : listAt b i n = if b.size < i + 2 * n then none else if (((listL b i n).zip ((listL b i n).drop 1)).all fun x => decide (x.1 < x.2)) = true then some (merged (singles (listL b i n)), i + 2 * n) else none := rfl
theorem listAt_some {b : Fast} {i n : Nat} (h1 : i + 2 * n ≤ b.size) (h2 : Rise (listL b i n)) : listAt b i n = some (merged (singles (listL b i n)), i + 2 * n) := by
  rw [listAt_eq, if_neg (by omega), if_pos]
  rw [zip_all]
  intro k x y hx hy
  exact decide_eq_true ((rise_iff _).mp h2 k x y hx hy)
theorem listAt_none {b : Fast} {i n : Nat} (h : ¬ (i + 2 * n ≤ b.size ∧ Rise (listL b i n))) : listAt b i n = none := by
  rw [listAt_eq]
  by_cases c : b.size < i + 2 * n
  · rw [if_pos c]
  · rw [if_neg c, if_neg]
    intro q
    rw [zip_all] at q
    exact h ⟨by omega, (rise_iff _).mpr fun k x y hx hy => of_decide_eq_true (q k x y hx hy)⟩
theorem sizeOf_nums (l : List Span) : sizeOf_ l = (nums l).length := (nums_length l).symm
theorem listL_lt {bs : List Nat} (hb : Bytes8 bs) (i n : Nat) : ∀ x, x ∈ listL bs.toArray i n → x < 65536 := by
  intro x hx
  obtain ⟨k, _, rfl⟩ := List.mem_map.mp hx
  exact at_lt hb _ 2
theorem merged_top {l : List Nat} {n : Nat} (h : ∀ x, x ∈ l → x < n) (hr : Rise l) : ∀ s, s ∈ merged (singles l) → s.2 < n := by
  intro s hs
  have ap := (merged_singles_apart hr).1 s hs
  have : holds (merged (singles l)) s.2 = true := holds_yes hs ap (Nat.le_refl _)
  rw [holds_merged (singles_ok l) (singles_sorted hr), singles_holds] at this
  exact h _ this
theorem listAt_got {bs : List Nat} (hb : Bytes8 bs) {i n e : Nat} {l : List Span} (hn : n ≤ 4096) (h : listAt bs.toArray i n = some (l, e)) : Got bs i false l e ∧ sizeOf_ l = n := by
  by_cases ok : i + 2 * n ≤ bs.toArray.size ∧ Rise (listL bs.toArray i n)
  · rw [listAt_some ok.1 ok.2] at h
    cases h
    have hle : i + 2 * n ≤ bs.length := by have := ok.1; rw [List.size_toArray] at this; exact this
    have sz : sizeOf_ (merged (singles (listL bs.toArray i n))) = n := by rw [sizeOf_nums, nums_merged ok.2, listL_len]
    have lng : ∀ k, (Part.mk k (merged (singles (listL bs.toArray i n))) false).long = 2 * n := by
      intro k; unfold Part.long; rw [if_neg (by simp)]; unfold plainLong; dsimp only; rw [sz, if_pos hn]
    refine ⟨⟨merged_singles_apart ok.2, merged_top (listL_lt hb i n) ok.2, hle, fun k => by rw [lng k], fun k => ?_⟩, sz⟩
    rw [lng k]
    unfold Part.bytes
    rw [if_neg (by simp)]
    dsimp only
    rw [sz, if_pos hn, some_all _ _ (merged_singles_apart ok.2).1 (by rw [sz]; exact hn), nums_merged ok.2]
    unfold listL
    rw [flatMap_map_range]
    symm
    exact seg_rows' _ fun k hk => little_at hb (by omega)
  · rw [listAt_none ok] at h; cases h
def bitsL (b : Fast) (i : Nat) : List Nat := (List.range PART).filter (bitOf b i)
theorem bitsAt_eq (b : Fast) (i : Nat) : bitsAt b i = if b.size < i + 8192 then none else some (merged (singles (bitsL b i)), i + 8192) := rfl
theorem bitsL_rise (b : Fast) (i : Nat) : Rise (bitsL b i) := List.pairwise_lt_range.sublist List.filter_sublist
theorem bitsL_lt (b : Fast) (i : Nat) : ∀ x, x ∈ bitsL b i → x < 65536 := fun x hx => List.mem_range.mp (List.mem_filter.mp hx).1
theorem bitsAt_got {bs : List Nat} (hb : Bytes8 bs) {i e : Nat} {l : List Span} (h : bitsAt bs.toArray i = some (l, e)) (hs : ¬ sizeOf_ l ≤ 4096) : Got bs i false l e := by
  rw [bitsAt_eq] at h
  by_cases c : bs.toArray.size < i + 8192
  · rw [if_pos c] at h; cases h
  · rw [if_neg c] at h
    have h1 := (Prod.mk.inj (Option.some.inj h)).1
    have h2 := (Prod.mk.inj (Option.some.inj h)).2
    subst h1 h2
    rw [List.size_toArray] at c
    have rs := bitsL_rise bs.toArray i
    have lng : ∀ k, (Part.mk k (merged (singles (bitsL bs.toArray i))) false).long = 8192 := by
      intro k; unfold Part.long; rw [if_neg (by simp)]; unfold plainLong; rw [if_neg hs]
    refine ⟨merged_singles_apart rs, merged_top (bitsL_lt _ i) rs, by omega, fun k => by rw [lng k], fun k => ?_⟩
    rw [lng k]
    unfold Part.bytes
    rw [if_neg (by simp), if_neg hs, bitBytes_eq]
    dsimp only
    rw [nums_merged rs]
    exact (bits_seg hb (by omega)).symm
def rdPart (b : Fast) (i : Nat) (r : Bool) (c : Nat) : Option (List Span × Nat) :=
  (if r = true then runsAt b i else if c ≤ 4096 then listAt b i c else bitsAt b i).bind fun x => if sizeOf_ x.1 ≠ c then none else some x
theorem rdPart_got {bs : List Nat} (hb : Bytes8 bs) {i c e : Nat} {r : Bool} {l : List Span} (h : rdPart bs.toArray i r c = some (l, e)) : Got bs i r l e ∧ sizeOf_ l = c := by
  unfold rdPart at h
  rw [Option.bind_eq_some_iff] at h
  obtain ⟨x, hx, h⟩ := h
  by_cases q : sizeOf_ x.1 = c
  · rw [if_neg (by simpa using q)] at h
    cases h
    refine ⟨?_, q⟩
    cases r with
    | true => rw [if_pos rfl] at hx; exact runsAt_got hb hx
    | false =>
      rw [if_neg (by simp)] at hx
      by_cases d : c ≤ 4096
      · rw [if_pos d] at hx; exact (listAt_got hb d hx).1
      · rw [if_neg d] at hx; exact bitsAt_got hb hx (by dsimp only at q; omega)
  · rw [if_pos q] at h; cases h
abbrev Head := Nat × Nat × Bool
def partStep (b : Fast) (h : Head) (i : Nat) : Option (Part × Nat) := (rdPart b i h.2.2 h.2.1).map fun x => (⟨h.1, x.1, h.2.2⟩, x.2)
theorem partsAt_cons (b : Fast) (h : Head) (t : List Head) (i : Nat) : partsAt b (h :: t) i = (partStep b h i).bind fun x => (partsAt b t x.2).map fun y => (x.1 :: y.1, y.2) := by
  obtain ⟨k, c, r⟩ := h
  unfold partStep rdPart
  show (Option.bind _ _) = _
  dsimp only
  cases (if r = true then runsAt b i else if c ≤ 4096 then listAt b i c else bitsAt b i) with
  | none => rfl
  | some x =>
    show (if sizeOf_ x.1 ≠ c then none else _) = _
    by_cases q : sizeOf_ x.1 = c
    · rw [if_neg (by simpa using q)]
      show _ = (Option.map _ (if sizeOf_ x.1 ≠ c then none else some x)).bind _
      rw [if_neg (by simpa using q)]
      rfl
    · rw [if_pos q]
      show _ = (Option.map _ (if sizeOf_ x.1 ≠ c then none else some x)).bind _
      rw [if_pos q]
      rfl
theorem partsAt_snoc (b : Fast) (h : Head) : ∀ (t : List Head) (i : Nat), partsAt b (t ++ [h]) i = (partsAt b t i).bind fun y => (partStep b h y.2).map fun x => (y.1 ++ [x.1], x.2)
  | [], i => by
    rw [List.nil_append, partsAt_cons, show partsAt b [] i = some ([], i) from rfl, Option.bind_some]
    dsimp only
    cases partStep b h i with
    | none => rfl
    | some x => rfl
  | g :: t, i => by
    rw [List.cons_append, partsAt_cons, partsAt_cons]
    cases partStep b g i with
    | none => rfl
    | some x =>
      show (partsAt b (t ++ [h]) x.2).map _ = ((partsAt b t x.2).map _).bind _
      rw [partsAt_snoc b h t x.2]
      cases partsAt b t x.2 with
      | none => rfl
      | some y =>
        show Option.map _ (Option.map _ (partStep b h y.2)) = Option.map _ (partStep b h y.2)
        cases partStep b h y.2 <;> rfl
structure PsOk (bs : List Nat) (hs : List Head) (i : Nat) (ps : List Part) (e : Nat) : Prop where
  heads : ps.map (fun p => (p.key, sizeOf_ p.spans, p.runs)) = hs
  ok : ∀ p, p ∈ ps → Apart p.spans ∧ ∀ s, s ∈ p.spans → s.2 < PART
  le : e ≤ bs.length
  long : e = i + (ps.map Part.long).sum
  seg : seg bs i (ps.map Part.long).sum = ps.flatMap Part.bytes
theorem partsAt_ok {bs : List Nat} (hb : Bytes8 bs) : ∀ (hs : List Head) (i : Nat) (ps : List Part) (e : Nat), i ≤ bs.length → partsAt bs.toArray hs i = some (ps, e) → PsOk bs hs i ps e
  | [], i, ps, e, hi, h => by
    have h : some (([] : List Part), i) = some (ps, e) := h
    cases h
    exact ⟨rfl, by simp, hi, rfl, seg_zero _ _⟩
  | g :: t, i, ps, e, hi, h => by
    rw [partsAt_cons, Option.bind_eq_some_iff] at h
    obtain ⟨⟨p, j⟩, h1, h2⟩ := h
    rw [Option.map_eq_some_iff] at h2
    obtain ⟨⟨qs, f⟩, h2, h3⟩ := h2
    cases h3
    unfold partStep at h1
    rw [Option.map_eq_some_iff] at h1
    obtain ⟨⟨l, j'⟩, h1, h4⟩ := h1
    cases h4
    obtain ⟨G, sz⟩ := rdPart_got hb h1
    have ih := partsAt_ok hb t _ qs _ G.le h2
    have lg := G.long g.1
    dsimp only at lg ih ⊢
    refine ⟨by rw [List.map_cons, ih.heads]; dsimp only; rw [sz], ?_, ih.le, ?_, ?_⟩
    · intro p hp
      rcases List.mem_cons.mp hp with q | q
      · subst q; exact ⟨G.ap, G.top⟩
      · exact ih.ok p q
    · rw [List.map_cons, List.sum_cons, ih.long, lg]; omega
    · rw [List.map_cons, List.sum_cons, List.flatMap_cons, seg_add, ← ih.seg, G.seg g.1, ← lg]
end PM
set_option linter.all false
namespace PM
open Sv14
def num? (bs : List Nat) (i k : Nat) : Option Nat := if i + k ≤ bs.length then some (at_ bs.toArray i k) else none
theorem num_some {bs : List Nat} {i k : Nat} (h : i + k ≤ bs.length) : num? bs i k = some (at_ bs.toArray i k) := if_pos h
theorem num_none {bs : List Nat} {i k : Nat} (h : ¬ i + k ≤ bs.length) : num? bs i k = none := if_neg h
theorem num_iff {bs : List Nat} {i k v : Nat} : num? bs i k = some v ↔ i + k ≤ bs.length ∧ at_ bs.toArray i k = v := by
  unfold num?
  by_cases c : i + k ≤ bs.length
  · rw [if_pos c]; exact ⟨fun h => ⟨c, Option.some.inj h⟩, fun h => congrArg some h.2⟩
  · rw [if_neg c]; exact ⟨fun h => (by cases h), fun h => absurd h.1 c⟩
def msz (p : Nat) : Nat := (p + 7) / 8
def bitAt (bs : List Nat) (q : Nat) : Bool := bitOf bs.toArray 4 q
def bitsAll (bs : List Nat) (p : Nat) : List Bool := (List.range (8 * msz p)).map (bitAt bs)
def rdRunMarks (bs : List Nat) (p : Nat) : Option (List Bool) :=
  if 4 + msz p ≤ bs.length ∧ true ∈ (bitsAll bs p).take p ∧ true ∉ (bitsAll bs p).drop p then some ((bitsAll bs p).take p) else none
def rdMarks (bs : List Nat) : Option (List Bool) := (num? bs 0 4).bind fun first =>
  if first = 12346 then (num? bs 4 4).bind fun p => if p ≤ 65536 then some (List.replicate p false) else none
  else if first % 65536 = 12347 then rdRunMarks bs (first / 65536 + 1) else none
def keysL (bs : List Nat) (head p : Nat) : List Nat := (List.range p).map fun i => at_ bs.toArray (head + 4 * i) 2
def rises (l : List Nat) : Bool := (l.zip (l.drop 1)).all fun x => decide (x.1 < x.2)
def rdKeys (bs : List Nat) (p head : Nat) : Option (List Nat) := if (p = 0 ∨ head + 4 * (p - 1) + 2 ≤ bs.length) ∧ rises (keysL bs head p) = true then some (keysL bs head p) else none
def rdStep (bs : List Nat) (head p : Nat) (tl : Bool) (k : Nat) (r : Bool) (i place : Nat) : Option (Part × Nat) :=
  if tl = true ∧ num? bs (head + 4 * p + 4 * i) 4 ≠ some place then none else
  (num? bs (head + 4 * i + 2) 2).bind fun c => partStep bs.toArray (k, c + 1, r) place
def rdSt (bs : List Nat) (head p : Nat) (tl : Bool) (ks : List Nat) (ms : List Bool) (front : Nat) : Nat → Option (List Part × Nat)
  | 0 => some ([], front)
  | i + 1 => (rdSt bs head p tl ks ms front i).bind fun y => (rdStep bs head p tl (ks.getD i 0) (ms.getD i false) i y.2).map fun x => (y.1 ++ [x.1], x.2)
def headOf (p : Nat) (wr : Bool) : Nat := if wr = true then 4 + msz p else 8
def tellsOf (p : Nat) (wr : Bool) : Bool := !wr || decide (4 ≤ p)
def frontOf (p : Nat) (wr : Bool) : Nat := headOf p wr + (if tellsOf p wr = true then 8 else 4) * p
def flat (ps : List Part) : List Span := ps.flatMap fun p => p.spans.map fun s => (PART * p.key + s.1, PART * p.key + s.2)
def rdParts (bs : List Nat) : Option (List Part) := (rdMarks bs).bind fun ms =>
  (rdKeys bs ms.length (headOf ms.length (ms.contains true))).bind fun ks =>
    (rdSt bs (headOf ms.length (ms.contains true)) ms.length (tellsOf ms.length (ms.contains true)) ks ms (frontOf ms.length (ms.contains true)) ms.length).bind fun y =>
      if y.2 = bs.length then some y.1 else none
def rd (bs : List Nat) : Option (List Span) := (rdParts bs).map fun ps => merged (flat ps)
def headL (bs : List Nat) (head : Nat) (ms : Nat → Bool) (i : Nat) : Head := (at_ bs.toArray (head + 4 * i) 2, at_ bs.toArray (head + 4 * i + 2) 2 + 1, ms i)
def headsL (bs : List Nat) (head : Nat) (ms : Nat → Bool) (p : Nat) : List Head := (List.range p).map (headL bs head ms)
def PlOk (bs : List Nat) (q : Nat) (tl : Bool) (front : Nat) (ps : List Part) : Prop := tl = true → ∀ i v, (placesOf front ps)[i]? = some v → at_ bs.toArray (q + 4 * i) 4 = v
theorem placesOf_snoc : ∀ (l : List Part) (n : Nat) (x : Part), placesOf n (l ++ [x]) = placesOf n l ++ [n + (l.map Part.long).sum]
  | [], n, x => by show [n] = [n + 0]; rfl
  | p :: l, n, x => by
    show n :: placesOf (n + p.long) (l ++ [x]) = n :: (placesOf (n + p.long) l ++ [n + ((p :: l).map Part.long).sum])
    rw [placesOf_snoc l, List.map_cons, List.sum_cons, Nat.add_assoc]
theorem rdSt_iff {bs : List Nat} (hb : Bytes8 bs) {head p front : Nat} {tl : Bool} {ks : List Nat} {ms : List Bool} (hk : ks = keysL bs head p) (hf : front ≤ bs.length) (hc : head + 4 * p ≤ bs.length) (ht : tl = true → head + 4 * p + 4 * p ≤ bs.length) :
    ∀ i, i ≤ p → ∀ ps e, rdSt bs head p tl ks ms front i = some (ps, e) ↔ partsAt bs.toArray (headsL bs head (fun i => ms.getD i false) i) front = some (ps, e) ∧ PlOk bs (head + 4 * p) tl front ps := by
  intro i
  induction i with
  | zero =>
    intro _ ps e
    show some ([], front) = some (ps, e) ↔ some ([], front) = some (ps, e) ∧ _
    constructor
    · intro h
      refine ⟨h, ?_⟩
      cases h
      intro _ i v h
      cases h
    · exact fun h => h.1
  | succ i ih =>
    intro hi ps e
    have ih := ih (by omega)
    have ek : ks.getD i 0 = at_ bs.toArray (head + 4 * i) 2 := by
      rw [hk, List.getD_eq_getElem?_getD]; unfold keysL; rw [List.getElem?_map, List.getElem?_range (by omega)]; rfl
    have eh : headsL bs head (fun i => ms.getD i false) (i + 1) = headsL bs head (fun i => ms.getD i false) i ++ [headL bs head (fun i => ms.getD i false) i] := by
      unfold headsL; rw [List.range_succ, List.map_append]; rfl
    have es : ∀ pl, rdStep bs head p tl (ks.getD i 0) (ms.getD i false) i pl = if tl = true ∧ at_ bs.toArray (head + 4 * p + 4 * i) 4 ≠ pl then none else partStep bs.toArray (headL bs head (fun i => ms.getD i false) i) pl := by
      intro pl
      unfold rdStep
      rw [num_some (i := head + 4 * i + 2) (by omega), Option.bind_some, ek]
      by_cases c : tl = true
      · rw [num_some (by have := ht c; omega)]
        by_cases d : at_ bs.toArray (head + 4 * p + 4 * i) 4 = pl
        · rw [if_neg (by rw [d]; simp), if_neg (by rw [d]; simp)]; rfl
        · rw [if_pos ⟨c, by simpa using d⟩, if_pos ⟨c, d⟩]
      · rw [if_neg (fun h => c h.1), if_neg (fun h => c h.1)]; rfl
    rw [eh, partsAt_snoc]
    show (Option.bind _ _) = _ ↔ _
    rw [Option.bind_eq_some_iff, Option.bind_eq_some_iff]
    constructor
    · rintro ⟨⟨qs, f⟩, h1, h2⟩
      rw [Option.map_eq_some_iff] at h2
      obtain ⟨⟨x, f'⟩, h2, h3⟩ := h2
      cases h3
      obtain ⟨h4, h5⟩ := (ih qs f).mp h1
      dsimp only at h2
      rw [es] at h2
      by_cases d : tl = true ∧ at_ bs.toArray (head + 4 * p + 4 * i) 4 ≠ f
      · rw [if_pos d] at h2; cases h2
      · rw [if_neg d] at h2
        have P := partsAt_ok hb _ _ _ _ hf h4
        refine ⟨⟨(qs, f), h4, by dsimp only; rw [h2]; rfl⟩, ?_⟩
        intro t j v hv
        dsimp only at hv
        rw [placesOf_snoc, List.getElem?_append] at hv
        have hl : (placesOf front qs).length = i := by
          rw [placesOf_len]; have := congrArg List.length P.heads; rw [List.length_map] at this; rw [this]; unfold headsL; rw [List.length_map, List.length_range]
        split at hv
        · exact h5 t j v hv
        · rename_i hj
          rw [hl] at hj
          have : j = i := by
            have := (List.getElem?_eq_some_iff.mp hv).1
            rw [List.length_singleton] at this; omega
          subst this
          rw [hl, Nat.sub_self] at hv
          have hv : front + (qs.map Part.long).sum = v := Option.some.inj hv
          rw [← hv, ← P.long]
          rcases Nat.decEq (at_ bs.toArray (head + 4 * p + 4 * j) 4) f with q | q
          · exact (d ⟨t, q⟩).elim
          · exact q
    · rintro ⟨⟨⟨qs, f⟩, h4, h2⟩, h5⟩
      rw [Option.map_eq_some_iff] at h2
      obtain ⟨⟨x, f'⟩, h2, h3⟩ := h2
      cases h3
      dsimp only at h5
      have P := partsAt_ok hb _ _ _ _ hf h4
      have hl : (placesOf front qs).length = i := by
        rw [placesOf_len]; have := congrArg List.length P.heads; rw [List.length_map] at this; rw [this]; unfold headsL; rw [List.length_map, List.length_range]
      have h6 : PlOk bs (head + 4 * p) tl front qs := by
        intro t j v hv
        refine h5 t j v ?_
        rw [placesOf_snoc, List.getElem?_append_left (List.getElem?_eq_some_iff.mp hv).1]; exact hv
      refine ⟨(qs, f), (ih qs f).mpr ⟨h4, h6⟩, ?_⟩
      dsimp only at h2 ⊢
      rw [es, if_neg]
      · rw [h2]; rfl
      · rintro ⟨t, q⟩
        apply q
        refine (h5 t i f ?_)
        rw [placesOf_snoc, List.getElem?_append_right (by omega), hl, Nat.sub_self]
        show some _ = some f
        rw [P.long]
theorem rdSt_bound {bs : List Nat} {head p front : Nat} {tl : Bool} {ks : List Nat} {ms : List Bool} {i : Nat} {y : List Part × Nat} (h : rdSt bs head p tl ks ms front (i + 1) = some y) : head + 4 * i + 4 ≤ bs.length ∧ (tl = true → head + 4 * p + 4 * i + 4 ≤ bs.length) := by
  have h : Option.bind _ _ = some y := h
  rw [Option.bind_eq_some_iff] at h
  obtain ⟨z, _, h2⟩ := h
  rw [Option.map_eq_some_iff] at h2
  obtain ⟨x, h2, _⟩ := h2
  unfold rdStep at h2
  by_cases c : tl = true ∧ num? bs (head + 4 * p + 4 * i) 4 ≠ some z.2
  · rw [if_pos c] at h2; cases h2
  · rw [if_neg c, Option.bind_eq_some_iff] at h2
    obtain ⟨v, h3, _⟩ := h2
    have := (num_iff.mp h3).1
    refine ⟨by omega, fun t => ?_⟩
    rcases Nat.lt_or_ge bs.length (head + 4 * p + 4 * i + 4) with q | q
    · exfalso; apply c; refine ⟨t, ?_⟩; rw [num_none (by omega)]; simp
    · exact q
theorem little_inj : ∀ (k a b : Nat), a < 256 ^ k → b < 256 ^ k → little k a = little k b → a = b
  | 0, a, b, ha, hb, _ => by simp at ha hb; omega
  | k + 1, a, b, ha, hb, h => by
    rw [little_succ, little_succ] at h
    obtain ⟨h1, h2⟩ := List.append_inj h (by rw [little_len, little_len])
    have pk : 0 < 256 ^ k := Nat.pow_pos (by decide)
    rw [Nat.pow_succ] at ha hb
    have ea : a / 256 ^ k < 256 := (Nat.div_lt_iff_lt_mul pk).mpr (by rw [Nat.mul_comm]; exact ha)
    have eb : b / 256 ^ k < 256 := (Nat.div_lt_iff_lt_mul pk).mpr (by rw [Nat.mul_comm]; exact hb)
    have h2 : a / 256 ^ k % 256 = b / 256 ^ k % 256 := (List.cons.inj h2).1
    rw [Nat.mod_eq_of_lt ea, Nat.mod_eq_of_lt eb] at h2
    have la : little k a = little k (a % 256 ^ k) := by
      conv => lhs; rw [← Nat.mod_add_div a (256 ^ k), little_low]
    have lb : little k b = little k (b % 256 ^ k) := by
      conv => lhs; rw [← Nat.mod_add_div b (256 ^ k), little_low]
    have h3 := little_inj k _ _ (Nat.mod_lt a pk) (Nat.mod_lt b pk) (by rw [← la, ← lb, h1])
    rw [← Nat.mod_add_div a (256 ^ k), ← Nat.mod_add_div b (256 ^ k), h2, h3]
theorem rows_len {f : Nat → List Nat} {w : Nat} (hf : ∀ k, (f k).length = w) : ∀ n, (((List.range n).map f).flatten).length = w * n
  | 0 => rfl
  | n + 1 => by
    rw [List.range_succ, List.map_append, List.flatten_append, List.length_append, rows_len hf n]
    show _ + (f n ++ []).length = _
    rw [List.append_nil, hf, Nat.mul_succ]
theorem rows_seg {l : List Nat} {f : Nat → List Nat} {i w : Nat} (hf : ∀ k, (f k).length = w) : ∀ n, i + w * n ≤ l.length → ((List.range n).map f).flatten = seg l i (w * n) → ∀ k, k < n → f k = seg l (i + w * k) w
  | 0, _, _, k, hk => absurd hk (Nat.not_lt_zero k)
  | n + 1, hl, h, k, hk => by
    rw [Nat.mul_succ] at hl
    rw [List.range_succ, List.map_append, List.flatten_append, Nat.mul_succ, seg_add] at h
    obtain ⟨h1, h2⟩ := List.append_inj h (by rw [rows_len hf, seg_len (by omega)])
    rcases Nat.lt_or_ge k n with c | c
    · exact rows_seg hf n (by omega) h1 k c
    · have : k = n := by omega
      subst this
      have h2 : f k ++ [] = _ := h2
      rw [List.append_nil] at h2
      exact h2
theorem range_of (l : List Nat) : l = (List.range l.length).map fun i => l.getD i 0 := by
  apply List.ext_getElem?
  intro i
  rw [List.getElem?_map]
  by_cases c : i < l.length
  · rw [List.getElem?_range c, List.getElem?_eq_getElem c]
    show some _ = some (l.getD i 0)
    rw [List.getD_eq_getElem?_getD, List.getElem?_eq_getElem c]; rfl
  · rw [List.getElem?_eq_none (by omega), List.getElem?_eq_none (by rw [List.length_range]; omega)]; rfl
theorem places_seg {bs : List Nat} (hb : Bytes8 bs) (hn : bs.length < 4294967296) {q front p : Nat} {ps : List Part} (hp : ps.length = p) (hq : q + 4 * p ≤ bs.length) (hf : front + (ps.map Part.long).sum ≤ bs.length) :
    (placesOf front ps).flatMap (little 4) = seg bs q (4 * p) ↔ ∀ i v, (placesOf front ps)[i]? = some v → at_ bs.toArray (q + 4 * i) 4 = v := by
  have hl : (placesOf front ps).length = p := by rw [placesOf_len, hp]
  have top : ∀ (l : List Part) (n : Nat), ∀ v, v ∈ placesOf n l → v ≤ n + (l.map Part.long).sum := by
    intro l
    induction l with
    | nil => intro n v h; cases h
    | cons x l ih =>
      intro n v h
      rw [List.map_cons, List.sum_cons]
      rcases List.mem_cons.mp h with c | c
      · omega
      · have := ih _ v c; omega
  have e : (placesOf front ps).flatMap (little 4) = ((List.range p).map fun i => little 4 ((placesOf front ps).getD i 0)).flatten := by
    conv => lhs; rw [range_of (placesOf front ps), hl]
    rw [flatMap_map_range]
  rw [e]
  constructor
  · intro h i v hv
    have hi : i < p := by have := (List.getElem?_eq_some_iff.mp hv).1; omega
    have := rows_seg (w := 4) (fun k => little_len _ _) p hq h i hi
    rw [List.getD_eq_getElem?_getD, hv] at this
    rw [← little_at hb (by omega)] at this
    refine (little_inj 4 _ _ ?_ (at_lt hb _ 4) this).symm
    have := top ps front v (List.mem_of_getElem? hv)
    show v < 256 ^ 4
    omega
  · intro h
    refine seg_rows' p fun k hk => ?_
    have : k < (placesOf front ps).length := by omega
    rw [List.getD_eq_getElem?_getD, List.getElem?_eq_getElem this]
    show little 4 ((placesOf front ps)[k]) = _
    rw [← h k _ (List.getElem?_eq_getElem this), little_at hb (by omega)]
theorem heads_seg {bs : List Nat} (hb : Bytes8 bs) {head p : Nat} {ms : Nat → Bool} {ps : List Part} (hh : ps.map (fun p => (p.key, sizeOf_ p.spans, p.runs)) = headsL bs head ms p) (hc : head + 4 * p ≤ bs.length) : heads ps = seg bs head (4 * p) := by
  have e : heads ps = (ps.map (fun p => (p.key, sizeOf_ p.spans, p.runs))).flatMap fun h => little 2 h.1 ++ little 2 (h.2.1 - 1) := by
    unfold heads; rw [List.flatMap_map]
  rw [e, hh]
  unfold headsL
  rw [flatMap_map_range]
  refine seg_rows' p fun k hk => ?_
  unfold headL
  dsimp only
  rw [Nat.add_sub_cancel, little_at hb (by omega), little_at hb (by omega), ← seg_add]
theorem runs_of {bs : List Nat} {head p : Nat} {ms : Nat → Bool} {ps : List Part} (hh : ps.map (fun p => (p.key, sizeOf_ p.spans, p.runs)) = headsL bs head ms p) : ps.map (fun x => x.runs) = (List.range p).map ms ∧ ps.length = p := by
  constructor
  · have := congrArg (List.map fun h : Head => h.2.2) hh
    rw [List.map_map] at this
    unfold headsL at this
    rw [List.map_map] at this
    exact this
  · have := congrArg List.length hh
    rw [List.length_map] at this
    unfold headsL at this
    rw [List.length_map, List.length_range] at this
    exact this
theorem app5 {a b c d e a' b' c' d' e' : List Nat} (h : a ++ b ++ c ++ d ++ e = a' ++ b' ++ c' ++ d' ++ e') (ha : a.length = a'.length) (hb : b.length = b'.length) (hc : c.length = c'.length) (hd : d.length = d'.length) : a = a' ∧ b = b' ∧ c = c' ∧ d = d' ∧ e = e' := by
  obtain ⟨h, e1⟩ := List.append_inj h (by simp [ha, hb, hc, hd])
  obtain ⟨h, e2⟩ := List.append_inj h (by simp [ha, hb, hc])
  obtain ⟨h, e3⟩ := List.append_inj h (by simp [ha, hb])
  obtain ⟨h, e4⟩ := List.append_inj h ha
  exact ⟨h, e4, e3, e2, e1⟩
theorem bs_five {bs : List Nat} {x y z : Nat} (h : 4 + x + y + z ≤ bs.length) : bs = seg bs 0 4 ++ seg bs 4 x ++ seg bs (4 + x) y ++ seg bs (4 + x + y) z ++ seg bs (4 + x + y + z) (bs.length - (4 + x + y + z)) := by
  conv => lhs; rw [← seg_all bs, show bs.length = 4 + x + y + z + (bs.length - (4 + x + y + z)) by omega, seg_add, seg_add, seg_add, seg_add]
  simp only [Nat.zero_add]
end PM
set_option linter.all false
namespace PM
open Sv14
theorem byte_sum {c : Nat} (h : c < 256) : ((List.range 8).map fun j => if c.testBit j = true then 2 ^ j else 0).sum = c :=
  (by decide +kernel : ∀ c : Fin 256, ((List.range 8).map fun j => if c.1.testBit j = true then 2 ^ j else 0).sum = c.1) ⟨c, h⟩
theorem sum_le {g h : Nat → Nat} (le : ∀ j, g j ≤ h j) : ∀ l : List Nat, (l.map g).sum ≤ (l.map h).sum
  | [] => Nat.le_refl _
  | x :: l => by
    rw [List.map_cons, List.map_cons, List.sum_cons, List.sum_cons]
    exact Nat.add_le_add (le x) (sum_le le l)
theorem sum_each {g h : Nat → Nat} (le : ∀ j, g j ≤ h j) : ∀ l : List Nat, (l.map g).sum = (l.map h).sum → ∀ j, j ∈ l → g j = h j
  | [], _, j, hj => by cases hj
  | x :: l, e, j, hj => by
    rw [List.map_cons, List.map_cons, List.sum_cons, List.sum_cons] at e
    have a := le x
    have b := sum_le le l
    rcases List.mem_cons.mp hj with rfl | hj
    · clear hj; generalize (l.map g).sum = u at *; generalize (l.map h).sum = v at *; omega
    · exact sum_each le l (by generalize (l.map g).sum = u at *; generalize (l.map h).sum = v at *; omega) j hj
theorem sum8_each {g h : Nat → Nat} (le : ∀ j, g j ≤ h j) (e : ((List.range 8).map g).sum = ((List.range 8).map h).sum) : ∀ j, j < 8 → g j = h j := fun j hj => sum_each le _ e j (List.mem_range.mpr hj)
theorem bit_here (bs : List Nat) (i j : Nat) (hj : j < 8) : bitAt bs (8 * i + j) = (bs.toArray.getD (4 + i) 0).testBit j := by
  unfold bitAt bitOf
  rw [show (8 * i + j) / 8 = i by omega, show (8 * i + j) % 8 = j by omega]
theorem flag_get {bs : List Nat} {p q : Nat} : ((List.range p).map (bitAt bs)).getD q false = (decide (q < p) && bitAt bs q) := by
  rw [List.getD_eq_getElem?_getD, List.getElem?_map]
  by_cases c : q < p
  · rw [List.getElem?_range c, decide_eq_true c]; rfl
  · rw [List.getElem?_eq_none (by rw [List.length_range]; omega), decide_eq_false c]; rfl
theorem mark_flag (bs : List Nat) (p i : Nat) : mark ((List.range p).map (bitAt bs)) p i = ((List.range 8).map fun j => if 8 * i + j < p ∧ bitAt bs (8 * i + j) = true then 2 ^ j else 0).sum := by
  unfold mark
  congr 1
  apply List.map_congr_left
  intro j _
  congr 1
  rw [flag_get]
  by_cases c : 8 * i + j < p
  · rw [decide_eq_true c, Bool.true_and]
  · apply propext; constructor
    · intro h; exact absurd h.1 c
    · intro h; exact absurd h.1 c
theorem marks_seg {bs : List Nat} (hb : Bytes8 bs) {p : Nat} (h : 4 + msz p ≤ bs.length) : marks ((List.range p).map (bitAt bs)) p = seg bs 4 (msz p) ↔ ∀ q, p ≤ q → q < 8 * msz p → bitAt bs q = false := by
  have lf : ((List.range p).map (bitAt bs)).length = p := by rw [List.length_map, List.length_range]
  have bs_at : ∀ i, i < msz p → bs[4 + i]? = some (bs.toArray.getD (4 + i) 0) := by
    intro i hi
    have : 4 + i < bs.length := by omega
    rw [getD_some (List.getElem?_eq_getElem this), List.getElem?_eq_getElem this]
  have sum : ∀ i, ((List.range 8).map fun j => if (bs.toArray.getD (4 + i) 0).testBit j = true then 2 ^ j else 0).sum = bs.toArray.getD (4 + i) 0 := fun i => byte_sum (getD_lt hb _)
  constructor
  · intro e q h1 h2
    have hi : q / 8 < msz p := by omega
    have : (marks ((List.range p).map (bitAt bs)) p)[q / 8]? = (seg bs 4 (msz p))[q / 8]? := by rw [e]
    rw [marks_get (by rw [lf]; exact hi), seg_get, if_pos hi, bs_at _ hi, mark_flag] at this
    have this := Option.some.inj this
    rw [← sum] at this
    have := sum8_each (fun j => ?_) this (q % 8) (by omega)
    · rw [← bit_here bs _ _ (by omega), show 8 * (q / 8) + q % 8 = q by omega] at this
      cases c : bitAt bs q with
      | false => rfl
      | true =>
        rw [if_neg (by omega), if_pos c] at this
        have : 0 < 2 ^ (q % 8) := Nat.pow_pos (by decide)
        omega
    · by_cases d : j < 8
      · rw [← bit_here bs _ _ d]
        split
        · rename_i x; rw [if_pos x.2]; exact Nat.le_refl _
        · exact Nat.zero_le _
      · rw [if_neg (by omega)]
        exact Nat.zero_le _
  · intro e
    apply List.ext_getElem?
    intro i
    rw [seg_get]
    by_cases hi : i < msz p
    · rw [marks_get (by rw [lf]; exact hi), if_pos hi, bs_at _ hi, mark_flag, ← sum]
      congr 2
      apply List.map_congr_left
      intro j hj
      have hj := List.mem_range.mp hj
      rw [← bit_here bs _ _ hj]
      congr 1
      apply propext; constructor
      · exact fun h => h.2
      · intro h
        refine ⟨?_, h⟩
        rcases Nat.lt_or_ge (8 * i + j) p with c | c
        · exact c
        · rw [e _ c (by omega)] at h; cases h
    · rw [if_neg hi, List.getElem?_eq_none (by rw [marks_len, lf]; unfold msz at hi; omega)]
theorem partsRead_plain {bs : List Nat} (hc : at_ bs.toArray 0 4 = 12346) : partsRead bs = if bs.length < 4 ∨ PART < at_ bs.toArray 4 4 ∨ bs.length < 4 * at_ bs.toArray 4 4 then none else
    if bs.length < 8 + 4 * at_ bs.toArray 4 4 + 4 * at_ bs.toArray 4 4 ∨ (((headsL bs 8 (fun _ => false) (at_ bs.toArray 4 4)).zip ((headsL bs 8 (fun _ => false) (at_ bs.toArray 4 4)).drop 1)).all fun x => decide (x.1.1 < x.2.1)) = false then none else
      (partsAt bs.toArray (headsL bs 8 (fun _ => false) (at_ bs.toArray 4 4)) (8 + 4 * at_ bs.toArray 4 4 + 4 * at_ bs.toArray 4 4)).bind fun x => if x.2 = bs.length ∧ wholeOf x.1 = bs then some x.1 else none := by
  unfold partsRead headsL
  simp only [hc, beq_self_eq_true, if_true, Bool.true_eq_false, false_and, false_or, true_or, List.size_toArray]
  rfl
theorem partsRead_runs {bs : List Nat} (hc : at_ bs.toArray 0 4 ≠ 12346) {p : Nat} (hp : p = at_ bs.toArray 0 4 / PART + 1) : partsRead bs = if bs.length < 4 ∨ at_ bs.toArray 0 4 % PART ≠ 12347 ∨ PART < p ∨ bs.length < 4 * p then none else
    if bs.length < 4 + msz p + 4 * p + (if 4 ≤ p then 4 * p else 0) ∨ (((headsL bs (4 + msz p) (bitAt bs) p).zip ((headsL bs (4 + msz p) (bitAt bs) p).drop 1)).all fun x => decide (x.1.1 < x.2.1)) = false then none else
      (partsAt bs.toArray (headsL bs (4 + msz p) (bitAt bs) p) (4 + msz p + 4 * p + (if 4 ≤ p then 4 * p else 0))).bind fun x => if x.2 = bs.length ∧ wholeOf x.1 = bs then some x.1 else none := by
  subst hp
  have hc' : (at_ bs.toArray 0 4 == 12346) = false := by simpa using hc
  unfold partsRead headsL
  simp only [hc', if_false, true_and, Bool.false_eq_true, false_or, List.size_toArray]
  rfl
theorem rise_heads {bs : List Nat} {head p : Nat} {ms : Nat → Bool} : ((headsL bs head ms p).zip ((headsL bs head ms p).drop 1)).all (fun x => decide (x.1.1 < x.2.1)) = rises (keysL bs head p) := by
  unfold rises
  have e : keysL bs head p = (headsL bs head ms p).map fun h => h.1 := by
    unfold keysL headsL; rw [List.map_map]; rfl
  rw [e, Bool.eq_iff_iff, zip_all, zip_all]
  constructor
  · intro h i a b ha hb
    rw [List.getElem?_map, Option.map_eq_some_iff] at ha hb
    obtain ⟨x, hx, rfl⟩ := ha
    obtain ⟨y, hy, rfl⟩ := hb
    exact h i x y hx hy
  · intro h i a b ha hb
    exact h i a.1 b.1 (by rw [List.getElem?_map, ha]; rfl) (by rw [List.getElem?_map, hb]; rfl)
theorem any_runs (ps : List Part) : anyRuns ps = (ps.map fun x => x.runs).contains true := by
  unfold anyRuns
  induction ps with
  | nil => rfl
  | cons p ps ih => rw [List.any_cons, List.map_cons, List.contains_cons, ih]; cases p.runs <;> rfl
theorem whole_plain {bs : List Nat} (hb : Bytes8 bs) (hn : bs.length < 4294967296) {p : Nat} (hc : at_ bs.toArray 0 4 = 12346) (hp : at_ bs.toArray 4 4 = p) {ps : List Part} (hl : 8 + 4 * p + 4 * p ≤ bs.length)
    (P : PsOk bs (headsL bs 8 (fun _ => false) p) (8 + 4 * p + 4 * p) ps bs.length) : wholeOf ps = bs ↔ PlOk bs (8 + 4 * p) true (8 + 4 * p + 4 * p) ps := by
  obtain ⟨r1, r2⟩ := runs_of P.heads
  have ar : anyRuns ps = false := by
    rw [any_runs, r1]
    cases c : ((List.range p).map fun _ => false).contains true with
    | false => rfl
    | true => rw [List.contains_iff_mem] at c; obtain ⟨_, _, h⟩ := List.mem_map.mp c; cases h
  have fr : frontLong ps = 8 + 4 * p + 4 * p := by
    unfold frontLong; dsimp only; rw [all_any, ar, if_pos (by decide), r2]; omega
  have hs := heads_seg hb P.heads (by omega)
  have sm : (ps.map Part.long).sum = bs.length - (8 + 4 * p + 4 * p) := by have := P.long; omega
  have pl := places_seg hb hn r2 (q := 8 + 4 * p) (front := 8 + 4 * p + 4 * p) (by omega) (by omega)
  have five := bs_five (bs := bs) (x := 4) (y := 4 * p) (z := 4 * p) (by omega)
  have e1 : little 4 12346 = seg bs 0 4 := by rw [← hc]; exact little_at hb (by omega)
  have e2 : little 4 ps.length = seg bs 4 4 := by rw [r2, ← hp]; exact little_at hb (by omega)
  have e5 : ps.flatMap Part.bytes = seg bs (8 + 4 * p + 4 * p) (bs.length - (8 + 4 * p + 4 * p)) := by rw [← P.seg, sm]
  have epl : places ps = (placesOf (8 + 4 * p + 4 * p) ps).flatMap (little 4) := by unfold places; rw [fr]
  have lp : (places ps).length = 4 * p := by rw [epl, flat_len (k := 4) (fun _ => little_len _ _), placesOf_len, r2]
  rw [wholeOf_plain ar, e1, e2, hs, e5]
  constructor
  · intro h _
    rw [← pl, ← epl]
    have := app5 (h.trans five) rfl rfl rfl (by rw [lp, seg_len (by omega)])
    exact this.2.2.2.1
  · intro h
    rw [epl, pl.mpr (h rfl)]
    exact five.symm
theorem whole_runs {bs : List Nat} (hb : Bytes8 bs) (hn : bs.length < 4294967296) {p f : Nat} (hc : at_ bs.toArray 0 4 = f) (hm : f % 65536 = 12347) (hp : p = f / 65536 + 1) {ps : List Part} {fr : Nat} (hfr : fr = 4 + msz p + 4 * p + (if 4 ≤ p then 4 * p else 0)) (hl : fr ≤ bs.length)
    (P : PsOk bs (headsL bs (4 + msz p) (bitAt bs) p) fr ps bs.length) :
    wholeOf ps = bs ↔ (true ∈ (List.range p).map (bitAt bs)) ∧ (∀ q, p ≤ q → q < 8 * msz p → bitAt bs q = false) ∧ PlOk bs (4 + msz p + 4 * p) (decide (4 ≤ p)) fr ps := by
  have hf1 : 12347 + 65536 * (p - 1) = f := by clear hl hfr hn hc hb P; omega
  have hf2 : f ≠ 12346 := by clear hl hfr hn hc hb P hf1 hp; omega
  have p0 : 0 < p := by rw [hp]; exact Nat.succ_pos _
  clear hm hp
  have pls := fun {q front p : Nat} {ps : List Part} => @places_seg bs hb hn q front p ps
  clear hn
  obtain ⟨r1, r2⟩ := runs_of P.heads
  have sm : (ps.map Part.long).sum = bs.length - fr := by have := P.long; omega
  have e5 : ps.flatMap Part.bytes = seg bs fr (bs.length - fr) := by rw [← P.seg, sm]
  have hl2 : 4 + msz p + 4 * p ≤ bs.length := by omega
  have hs := heads_seg hb P.heads (by omega)
  have e0 : little 4 f = seg bs 0 4 := by rw [← hc]; exact little_at hb (by omega)
  have ff : f < 256 ^ 4 := by rw [← hc]; exact at_lt hb 0 4
  by_cases ar : anyRuns ps = true
  · have ar' : true ∈ (List.range p).map (bitAt bs) := by
      rw [any_runs, r1, List.contains_iff_mem] at ar; exact ar
    have e1 : little 4 (12347 + PART * (ps.length - 1)) = seg bs 0 4 := by
      rw [← e0, r2]; exact congrArg (little 4) hf1
    have mk := marks_seg hb (p := p) (by omega)
    have lf : (List.map (bitAt bs) (List.range p)).length = p := by rw [List.length_map, List.length_range]
    have mkl : (marks ((List.range p).map (bitAt bs)) p).length = msz p := by rw [marks_len, lf]; rfl
    have frl : frontLong ps = fr := by
      unfold frontLong; dsimp only; rw [all_any, ar, if_neg (by decide), r2, hfr]; unfold msz
      by_cases c : p < 4
      · rw [if_pos c, if_neg (by omega)]
      · rw [if_neg c, if_pos (by omega)]
    have epl : places ps = (placesOf fr ps).flatMap (little 4) := by unfold places; rw [frl]
    have lp : (places ps).length = 4 * p := by rw [epl, flat_len (k := 4) (fun _ => little_len _ _), placesOf_len, r2]
    rw [wholeOf_runs ar, e1, r1, r2, hs, e5]
    by_cases c : p < 4
    · rw [if_pos c]
      have e : fr = 4 + msz p + 4 * p + 0 := by rw [hfr, if_neg (by omega)]
      have five := bs_five (bs := bs) (x := msz p) (y := 4 * p) (z := 0) (by omega)
      rw [← e, seg_zero] at five
      constructor
      · intro h
        have := app5 (h.trans five) rfl (by rw [mkl, seg_len (by omega)]) rfl rfl
        exact ⟨ar', mk.mp this.2.1, fun t => absurd (of_decide_eq_true t) (by omega)⟩
      · rintro ⟨_, h, _⟩
        rw [mk.mpr h]; exact five.symm
    · rw [if_neg c]
      have e : fr = 4 + msz p + 4 * p + 4 * p := by rw [hfr, if_pos (by omega)]
      have five := bs_five (bs := bs) (x := msz p) (y := 4 * p) (z := 4 * p) (by omega)
      rw [← e] at five
      have pl := pls r2 (q := 4 + msz p + 4 * p) (front := fr) (by omega) (by omega)
      constructor
      · intro h
        have := app5 (h.trans five) rfl (by rw [mkl, seg_len (by omega)]) rfl (by rw [lp, seg_len (by omega)])
        exact ⟨ar', mk.mp this.2.1, fun _ => pl.mp (by rw [← epl]; exact this.2.2.2.1)⟩
      · rintro ⟨_, h, g⟩
        rw [mk.mpr h, epl, pl.mpr (g (decide_eq_true (by omega)))]; exact five.symm
  · have ar : anyRuns ps = false := by simpa using ar
    constructor
    · intro h
      exfalso
      have h0 := congrArg (List.take 4) h
      rw [wholeOf_plain ar, List.append_assoc, List.append_assoc, List.append_assoc, List.take_append_of_le_length (by rw [little_len]; exact Nat.le_refl _), List.take_of_length_le (by rw [little_len]; exact Nat.le_refl _)] at h0
      have : little 4 12346 = little 4 f := by rw [h0, e0]; unfold seg; rw [List.drop_zero]
      exact hf2 (little_inj 4 _ _ (by decide) ff this).symm
    · rintro ⟨h, _⟩
      exfalso
      rw [any_runs, r1] at ar
      rw [List.contains_iff_mem.mpr h] at ar
      cases ar
theorem no_true (n : Nat) : (List.replicate n false).contains true = false := by
  cases c : (List.replicate n false).contains true with
  | false => rfl
  | true => rw [List.contains_iff_mem, List.mem_replicate] at c; cases c.2
theorem take_bits {bs : List Nat} {p : Nat} : (bitsAll bs p).take p = (List.range p).map (bitAt bs) := by
  unfold bitsAll
  rw [← List.map_take, List.take_range]
  congr 2
  unfold msz; omega
theorem drop_bits {bs : List Nat} {p : Nat} : true ∉ (bitsAll bs p).drop p ↔ ∀ q, p ≤ q → q < 8 * msz p → bitAt bs q = false := by
  have get : ∀ q, q < 8 * msz p → (bitsAll bs p)[q]? = some (bitAt bs q) := fun q h => by
    unfold bitsAll; rw [List.getElem?_map, List.getElem?_range h]; rfl
  constructor
  · intro h q h1 h2
    cases c : bitAt bs q with
    | false => rfl
    | true =>
      exfalso; apply h
      refine List.mem_of_getElem? (i := q - p) ?_
      rw [List.getElem?_drop, show p + (q - p) = q by omega, get q h2, c]
  · intro h m
    obtain ⟨i, hi⟩ := List.getElem?_of_mem m
    rw [List.getElem?_drop] at hi
    have lt : p + i < 8 * msz p := by
      have := (List.getElem?_eq_some_iff.mp hi).1
      unfold bitsAll at this; rw [List.length_map, List.length_range] at this; exact this
    rw [get _ lt, h _ (by omega) lt] at hi
    cases hi
theorem getD_flag {bs : List Nat} {p : Nat} : headsL bs (4 + msz p) (fun i => ((List.range p).map (bitAt bs)).getD i false) p = headsL bs (4 + msz p) (bitAt bs) p := by
  unfold headsL
  apply List.map_congr_left
  intro i hi
  have := List.mem_range.mp hi
  unfold headL
  dsimp only
  rw [flag_get, decide_eq_true this, Bool.true_and]
theorem getD_plain {bs : List Nat} {p : Nat} : headsL bs 8 (fun i => (List.replicate p false).getD i false) p = headsL bs 8 (fun _ => false) p := by
  unfold headsL
  apply List.map_congr_left
  intro i hi
  have := List.mem_range.mp hi
  unfold headL
  dsimp only
  rw [List.getD_eq_getElem?_getD, List.getElem?_replicate, if_pos this]; rfl
theorem bind_if {α : Type} {o : Option α} {c : α → Prop} [∀ a, Decidable (c a)] {β : Type} {g : α → β} {b : β} : (o.bind fun x => if c x then some (g x) else none) = some b ↔ ∃ x, o = some x ∧ c x ∧ g x = b := by
  rw [Option.bind_eq_some_iff]
  constructor
  · rintro ⟨x, h1, h2⟩
    by_cases d : c x
    · rw [if_pos d] at h2; exact ⟨x, h1, d, Option.some.inj h2⟩
    · rw [if_neg d] at h2; cases h2
  · rintro ⟨x, h1, h2, h3⟩
    exact ⟨x, h1, by rw [if_pos h2, h3]⟩
theorem rdParts_eq {bs : List Nat} (hb : Bytes8 bs) (hn : bs.length < 4294967296) : rdParts bs = partsRead bs := by
  apply Option.ext
  intro ps
  show rdParts bs = some ps ↔ partsRead bs = some ps
  unfold rdParts
  rw [Option.bind_eq_some_iff]
  by_cases n4 : bs.length < 4
  · constructor
    · rintro ⟨ms, h, _⟩
      unfold rdMarks at h
      rw [num_none (by omega)] at h
      cases h
    · intro h
      exfalso
      by_cases hc : at_ bs.toArray 0 4 = 12346
      · rw [partsRead_plain hc, if_pos (.inl n4)] at h; cases h
      · rw [partsRead_runs hc rfl, if_pos (.inl n4)] at h; cases h
  have m0 : rdMarks bs = if at_ bs.toArray 0 4 = 12346 then (num? bs 4 4).bind fun p => if p ≤ 65536 then some (List.replicate p false) else none
      else if at_ bs.toArray 0 4 % 65536 = 12347 then rdRunMarks bs (at_ bs.toArray 0 4 / 65536 + 1) else none := by
    unfold rdMarks; rw [num_some (by omega), Option.bind_some]
  by_cases hc : at_ bs.toArray 0 4 = 12346
  · rw [m0, if_pos hc, partsRead_plain hc]
    generalize hp : at_ bs.toArray 4 4 = p
    constructor
    · rintro ⟨ms, h1, h2⟩
      rw [Option.bind_eq_some_iff] at h1
      obtain ⟨p', h1, h3⟩ := h1
      obtain ⟨n8, e⟩ := num_iff.mp h1
      rw [hp] at e; subst e
      by_cases pp : p ≤ 65536
      · rw [if_pos pp] at h3
        cases h3
        rw [List.length_replicate, no_true, Option.bind_eq_some_iff] at h2
        obtain ⟨ks, h3, h4⟩ := h2
        rw [bind_if (g := fun y : List Part × Nat => y.1)] at h4
        obtain ⟨⟨qs, e⟩, h4, h5, h6⟩ := h4
        dsimp only at h5 h6
        subst h5 h6
        have fr : frontOf p false = 8 + 4 * p + 4 * p := by show 8 + 8 * p = _; omega
        have hle : 8 + 4 * p + 4 * p ≤ bs.length := by
          cases p with
          | zero => omega
          | succ i =>
            have := (rdSt_bound h4).2 rfl
            have q : headOf (i + 1) false = 8 := rfl
            rw [q] at this; omega
        unfold rdKeys at h3
        by_cases ck : (p = 0 ∨ headOf p false + 4 * (p - 1) + 2 ≤ bs.length) ∧ rises (keysL bs (headOf p false) p) = true
        · rw [if_pos ck] at h3
          have h3 := Option.some.inj h3
          rw [fr] at h4
          obtain ⟨g1, g2⟩ := (rdSt_iff hb h3.symm (by omega) (by show 8 + 4 * p ≤ _; omega) (fun _ => by show 8 + 4 * p + 4 * p ≤ _; omega) p (Nat.le_refl _) qs bs.length).mp h4
          have g1 : partsAt bs.toArray (headsL bs 8 (fun i => (List.replicate p false).getD i false) p) (8 + 4 * p + 4 * p) = some (qs, bs.length) := g1
          rw [getD_plain] at g1
          have P := partsAt_ok hb _ _ _ _ hle g1
          rw [if_neg (by rintro (q | q | q) <;> first | (unfold PART at q; omega) | omega), if_neg (by
            rintro (q | q)
            · omega
            · rw [rise_heads] at q; rw [show headOf p false = 8 from rfl] at ck; rw [ck.2] at q; cases q), g1, Option.bind_some, if_pos]
          exact ⟨rfl, (whole_plain hb hn hc hp hle P).mpr g2⟩
        · rw [if_neg ck] at h3; cases h3
      · rw [if_neg pp] at h3; cases h3
    · intro h
      by_cases c1 : bs.length < 4 ∨ PART < p ∨ bs.length < 4 * p
      · rw [if_pos c1] at h; cases h
      rw [if_neg c1] at h
      by_cases c2 : bs.length < 8 + 4 * p + 4 * p ∨ (((headsL bs 8 (fun _ => false) p).zip ((headsL bs 8 (fun _ => false) p).drop 1)).all fun x => decide (x.1.1 < x.2.1)) = false
      · rw [if_pos c2] at h; cases h
      rw [if_neg c2, bind_if (g := fun y : List Part × Nat => y.1)] at h
      obtain ⟨⟨qs, e⟩, g1, ⟨h5, h6⟩, h7⟩ := h
      dsimp only at h5 h6 h7
      subst h5 h7
      have hle : 8 + 4 * p + 4 * p ≤ bs.length := by omega
      have P := partsAt_ok hb _ _ _ _ hle g1
      have g2 := (whole_plain hb hn hc hp hle P).mp h6
      have rs : rises (keysL bs 8 p) = true := by
        rw [← rise_heads (ms := fun _ => false)]
        cases z : ((headsL bs 8 (fun _ => false) p).zip ((headsL bs 8 (fun _ => false) p).drop 1)).all fun x => decide (x.1.1 < x.2.1) with
        | true => rfl
        | false => exact (c2 (.inr z)).elim
      refine ⟨List.replicate p false, ?_, ?_⟩
      · rw [num_some (by omega), Option.bind_some, hp, if_pos (by unfold PART at c1; omega)]
      · rw [List.length_replicate, no_true]
        have hk : rdKeys bs p (headOf p false) = some (keysL bs 8 p) := by
          unfold rdKeys; rw [if_pos]; rfl
          refine ⟨?_, rs⟩
          show p = 0 ∨ 8 + 4 * (p - 1) + 2 ≤ bs.length
          omega
        rw [hk, Option.bind_some]
        rw [bind_if (g := fun y : List Part × Nat => y.1)]
        refine ⟨(qs, bs.length), ?_, rfl, rfl⟩
        have fr : frontOf p false = 8 + 4 * p + 4 * p := by show 8 + 8 * p = _; omega
        rw [fr]
        refine (rdSt_iff hb rfl (by omega) (by show 8 + 4 * p ≤ _; omega) (fun _ => by show 8 + 4 * p + 4 * p ≤ _; omega) p (Nat.le_refl _) qs bs.length).mpr ⟨?_, g2⟩
        show partsAt bs.toArray (headsL bs 8 (fun i => (List.replicate p false).getD i false) p) _ = _
        rw [getD_plain]; exact g1
  · rw [m0, if_neg hc]
    generalize hf : at_ bs.toArray 0 4 = f at hc
    have ff : f < 256 ^ 4 := by rw [← hf]; exact at_lt hb 0 4
    generalize hp : f / 65536 + 1 = p
    have hpP : p ≤ 65536 := by clear m0 n4 hf hc hn hb; omega
    have p0 : 0 < p := by rw [← hp]; exact Nat.succ_pos _
    rw [partsRead_runs (p := p) (by rw [hf]; exact hc) (by rw [hf]; exact hp.symm), hf]
    clear ff m0 hc
    by_cases hm : f % 65536 = 12347
    · rw [if_pos hm]
      have WR := fun {ps : List Part} {fr : Nat} => @whole_runs bs hb hn p f hf hm hp.symm ps fr
      have hm' : ¬ f % PART ≠ 12347 := fun q => q hm
      clear hm hp hn
      generalize hfr : 4 + msz p + 4 * p + (if 4 ≤ p then 4 * p else 0) = fr
      have wr : true ∈ (List.range p).map (bitAt bs) → ((List.range p).map (bitAt bs)).contains true = true := fun h => List.contains_iff_mem.mpr h
      have lf : (List.map (bitAt bs) (List.range p)).length = p := by rw [List.length_map, List.length_range]
      have fro : frontOf p true = fr := by
        rw [← hfr]
        show 4 + msz p + (if decide (4 ≤ p) = true then 8 else 4) * p = _
        by_cases c : 4 ≤ p
        · rw [if_pos (decide_eq_true c), if_pos c]; omega
        · rw [if_neg (by simpa using c), if_neg c]; omega
      constructor
      · rintro ⟨ms, h1, h2⟩
        unfold rdRunMarks at h1
        by_cases cm : 4 + msz p ≤ bs.length ∧ true ∈ (bitsAll bs p).take p ∧ true ∉ (bitsAll bs p).drop p
        · rw [if_pos cm, take_bits] at h1
          cases h1
          rw [take_bits, drop_bits] at cm
          rw [lf, wr cm.2.1, Option.bind_eq_some_iff] at h2
          obtain ⟨ks, h3, h4⟩ := h2
          rw [bind_if (g := fun y : List Part × Nat => y.1)] at h4
          obtain ⟨⟨qs, e⟩, h4, h5, h6⟩ := h4
          dsimp only at h5 h6
          subst h5 h6
          have hh : headOf p true = 4 + msz p := rfl
          have ht : tellsOf p true = decide (4 ≤ p) := rfl
          rw [hh, ht, fro] at h4
          have hbd : 4 + msz p + 4 * p ≤ bs.length ∧ (4 ≤ p → 4 + msz p + 4 * p + 4 * p ≤ bs.length) := by
            obtain ⟨i, rfl⟩ : ∃ i, p = i + 1 := ⟨p - 1, by omega⟩
            have := rdSt_bound h4
            exact ⟨by omega, fun q => by have := this.2 (decide_eq_true q); omega⟩
          have hle : fr ≤ bs.length := by
            rw [← hfr]; split
            · exact hbd.2 (by assumption)
            · have := hbd.1; omega
          unfold rdKeys at h3
          rw [hh] at h3
          by_cases ck : (p = 0 ∨ 4 + msz p + 4 * (p - 1) + 2 ≤ bs.length) ∧ rises (keysL bs (4 + msz p) p) = true
          · rw [if_pos ck] at h3
            have h3 := Option.some.inj h3
            obtain ⟨g1, g2⟩ := (rdSt_iff hb h3.symm hle hbd.1 (fun t => hbd.2 (of_decide_eq_true t)) p (Nat.le_refl _) qs bs.length).mp h4
            rw [getD_flag] at g1
            have P := partsAt_ok hb _ _ _ _ hle g1
            rw [if_neg (by intro q; rcases q with q | q | q | q; exact n4 q; exact hm' q; exact absurd hpP (Nat.not_le.mpr q); have := hbd.1; clear hbd ck cm hle hfr; omega), if_neg (by
              rintro (q | q)
              · omega
              · rw [rise_heads, ck.2] at q; cases q), g1, Option.bind_some, if_pos]
            exact ⟨rfl, (WR hfr.symm hle P).mpr ⟨cm.2.1, cm.2.2, g2⟩⟩
          · rw [if_neg ck] at h3; cases h3
        · rw [if_neg cm] at h1; cases h1
      · intro h
        by_cases c1 : bs.length < 4 ∨ f % PART ≠ 12347 ∨ PART < p ∨ bs.length < 4 * p
        · rw [if_pos c1] at h; cases h
        rw [if_neg c1] at h
        by_cases c2 : bs.length < fr ∨ (((headsL bs (4 + msz p) (bitAt bs) p).zip ((headsL bs (4 + msz p) (bitAt bs) p).drop 1)).all fun x => decide (x.1.1 < x.2.1)) = false
        · rw [if_pos c2] at h; cases h
        rw [if_neg c2, bind_if (g := fun y : List Part × Nat => y.1)] at h
        obtain ⟨⟨qs, e⟩, g1, ⟨h5, h6⟩, h7⟩ := h
        dsimp only at h5 h6 h7
        subst h5 h7
        have hle : fr ≤ bs.length := by omega
        have hbd : 4 + msz p + 4 * p ≤ bs.length ∧ (4 ≤ p → 4 + msz p + 4 * p + 4 * p ≤ bs.length) := by
          rw [← hfr] at hle
          constructor
          · split at hle <;> omega
          · intro q; rw [if_pos q] at hle; exact hle
        have P := partsAt_ok hb _ _ _ _ hle g1
        obtain ⟨w1, w2, w3⟩ := (WR hfr.symm hle P).mp h6
        have rs : rises (keysL bs (4 + msz p) p) = true := by
          rw [← rise_heads (ms := bitAt bs)]
          cases z : ((headsL bs (4 + msz p) (bitAt bs) p).zip ((headsL bs (4 + msz p) (bitAt bs) p).drop 1)).all fun x => decide (x.1.1 < x.2.1) with
          | true => rfl
          | false => exact (c2 (.inr z)).elim
        refine ⟨(List.range p).map (bitAt bs), ?_, ?_⟩
        · unfold rdRunMarks
          rw [if_pos, take_bits]
          rw [take_bits, drop_bits]
          exact ⟨by omega, w1, w2⟩
        · rw [lf, wr w1]
          have hh : headOf p true = 4 + msz p := rfl
          have ht : tellsOf p true = decide (4 ≤ p) := rfl
          rw [hh, ht, fro]
          have hk : rdKeys bs p (4 + msz p) = some (keysL bs (4 + msz p) p) := by
            unfold rdKeys; rw [if_pos]
            exact ⟨by omega, rs⟩
          rw [hk, Option.bind_some, bind_if (g := fun y : List Part × Nat => y.1)]
          refine ⟨(qs, bs.length), ?_, rfl, rfl⟩
          refine (rdSt_iff hb rfl hle hbd.1 (fun t => hbd.2 (of_decide_eq_true t)) p (Nat.le_refl _) qs bs.length).mpr ⟨?_, w3⟩
          rw [getD_flag]; exact g1
    · rw [if_neg hm]
      constructor
      · rintro ⟨ms, h, _⟩; cases h
      · intro h
        rw [if_pos (.inr (.inl hm))] at h; cases h
theorem rd_eq {bs : List Nat} (hb : Bytes8 bs) (hn : bs.length < 4294967296) : rd bs = readSpans bs := by
  unfold rd readSpans
  rw [rdParts_eq hb hn]
  rfl
end PM
set_option linter.all false
namespace PM
open Sv14
def shift (k : Nat) (l : List Span) : List Span := l.map fun s => (PART * k + s.1, PART * k + s.2)
theorem flat_snoc (ps : List Part) (q : Part) : flat (ps ++ [q]) = flat ps ++ shift q.key q.spans := by
  unfold flat shift; rw [List.flatMap_append, List.flatMap_cons, List.flatMap_nil, List.append_nil]
theorem fl_shift (k : Nat) (l : List Span) : fl (shift k l) = (fl l).map fun e => (k : Int) * 65536 + e := by
  induction l with
  | nil => rfl
  | cons s l ih =>
    show fl ((PART * k + s.1, PART * k + s.2) :: shift k l) = _
    rw [fl_cons, ih, fl_cons, List.map_cons, List.map_cons]
    congr 1
    · show ((PART * k + s.1 : Nat) : Int) = _; unfold PART; omega
    · congr 1
      show ((PART * k + s.2 : Nat) : Int) + 1 = _; unfold PART; omega
theorem shift_apart {k : Nat} {l : List Span} (h : Apart l) : Apart (shift k l) := by
  refine ⟨fun s hs => ?_, ?_⟩
  · obtain ⟨t, ht, rfl⟩ := List.mem_map.mp hs
    have := h.1 t ht; dsimp only; omega
  · unfold shift; rw [List.pairwise_map]
    exact h.2.imp (by intro a b q; dsimp only; omega)
theorem merged_touch {X M0 r : List Span} {p s : Span} (hM : merged X = M0 ++ [p]) (hp : p.1 ≤ p.2) (hG : Apart (s :: r)) (he : s.1 = p.2 + 1) : merged (X ++ s :: r) = M0 ++ (p.1, s.2) :: r := by
  have ho : X.foldl mstep [] = p :: M0.reverse := by
    have := congrArg List.reverse hM
    rw [merged_eq, List.reverse_reverse, List.reverse_append] at this; exact this
  have hs := hG.1 s (List.mem_cons_self ..)
  have e : mstep (p :: M0.reverse) s = (p.1, s.2) :: M0.reverse := by
    unfold mstep; dsimp only; rw [if_pos (by omega)]
    rw [show max p.2 s.2 = s.2 by omega]
  rw [merged_eq, List.foldl_append, ho, List.foldl_cons, e, fold_gap]
  · rw [List.reverse_append, List.reverse_reverse, List.reverse_cons, List.reverse_reverse, List.append_assoc]; rfl
  · refine ⟨fun t ht => ?_, ?_⟩
    · rcases List.mem_cons.mp ht with q | q
      · subst q; dsimp only; omega
      · exact hG.1 t (List.mem_cons_of_mem _ q)
    · have := List.pairwise_cons.mp hG.2
      exact List.pairwise_cons.mpr ⟨fun t ht => this.1 t ht, this.2⟩
theorem merged_behind {X r : List Span} {s : Span} (hG : Apart (s :: r)) (he : ∀ p M0, merged X = M0 ++ [p] → p.2 + 1 < s.1) : merged (X ++ s :: r) = merged X ++ s :: r := by
  rw [merged_eq, merged_eq, List.foldl_append]
  cases o : X.foldl mstep [] with
  | nil => rw [fold_apart hG, List.reverse_reverse]; rfl
  | cons p M0 =>
    have := he p M0.reverse (by rw [merged_eq, o, List.reverse_cons])
    rw [List.foldl_cons]
    have e : mstep (p :: M0) s = s :: p :: M0 := by unfold mstep; dsimp only; rw [if_neg (by omega)]
    rw [e, fold_gap _ _ _ hG, List.reverse_append, List.reverse_reverse, List.reverse_cons, List.append_assoc]
    simp
structure Flat (ps : List Part) (k : Nat) : Prop where
  ok : ∀ p, p ∈ ps → Apart p.spans ∧ (∀ s, s ∈ p.spans → s.2 < PART) ∧ p.key < k
  rise : ps.Pairwise fun a b => a.key < b.key
theorem Flat.mono {ps : List Part} {k k' : Nat} (h : Flat ps k) (hk : k ≤ k') : Flat ps k' := ⟨fun p hp => ⟨(h.ok p hp).1, (h.ok p hp).2.1, Nat.lt_of_lt_of_le (h.ok p hp).2.2 hk⟩, h.rise⟩
theorem Flat.snoc {ps : List Part} {q : Part} (h : Flat ps q.key) (ha : Apart q.spans) (ht : ∀ s, s ∈ q.spans → s.2 < PART) : Flat (ps ++ [q]) (q.key + 1) := by
  refine ⟨fun p hp => ?_, ?_⟩
  · rcases List.mem_append.mp hp with c | c
    · have := h.ok p c; exact ⟨this.1, this.2.1, by omega⟩
    · rw [List.mem_singleton.mp c]; exact ⟨ha, ht, Nat.lt_succ_self _⟩
  · rw [List.pairwise_append]
    exact ⟨h.rise, by simp, fun a ha' b hb => by rw [List.mem_singleton.mp hb]; exact (h.ok a ha').2.2⟩
theorem Flat.mem {ps : List Part} {k : Nat} (h : Flat ps k) : ∀ s, s ∈ flat ps → s.1 ≤ s.2 ∧ s.2 < PART * k := by
  intro s hs
  unfold flat at hs
  obtain ⟨p, hp, hs⟩ := List.mem_flatMap.mp hs
  obtain ⟨t, ht, rfl⟩ := List.mem_map.mp hs
  obtain ⟨a, b, c⟩ := h.ok p hp
  have := a.1 t ht; have := b t ht
  have : PART * (p.key + 1) ≤ PART * k := Nat.mul_le_mul_left _ c
  rw [Nat.mul_succ] at this
  exact ⟨by dsimp only; omega, by dsimp only; omega⟩
theorem Flat.sorted {ps : List Part} : ∀ {k : Nat}, Flat ps k → Sorted1 (flat ps) := by
  induction ps with
  | nil => intro k _; simp [Sorted1, flat]
  | cons p ps ih =>
    intro k h
    have ht : Flat ps k := ⟨fun q hq => h.ok q (List.mem_cons_of_mem _ hq), (List.pairwise_cons.mp h.rise).2⟩
    have e : flat (p :: ps) = shift p.key p.spans ++ flat ps := rfl
    rw [e]
    unfold Sorted1
    rw [List.pairwise_append]
    obtain ⟨a, b, c⟩ := h.ok p (List.mem_cons_self ..)
    refine ⟨(shift_apart a).2.imp_of_mem (fun {x y} hx hy q => ?_), ih ht, ?_⟩
    · have := (shift_apart (k := p.key) a).1 x hx; omega
    · intro x hx y hy
      obtain ⟨u, hu, rfl⟩ := List.mem_map.mp hx
      unfold flat at hy
      obtain ⟨q, hq, hy⟩ := List.mem_flatMap.mp hy
      obtain ⟨v, hv, rfl⟩ := List.mem_map.mp hy
      have := (List.pairwise_cons.mp h.rise).1 q hq
      have : PART * (p.key + 1) ≤ PART * q.key := Nat.mul_le_mul_left _ this
      rw [Nat.mul_succ] at this
      have := a.1 u hu; have := b u hu
      dsimp only; omega
theorem Flat.proper {ps : List Part} {k : Nat} (h : Flat ps k) (hk : k ≤ 65536) : Proper (merged (flat ps)) := by
  refine merged_proper (fun s hs => ⟨(h.mem s hs).1, ?_⟩) h.sorted
  have := (h.mem s hs).2
  have : PART * k ≤ PART * 65536 := Nat.mul_le_mul_left _ hk
  unfold PART ALL at *
  omega
theorem Flat.low {ps : List Part} {k : Nat} (h : Flat ps k) : ∀ s, s ∈ merged (flat ps) → s.1 ≤ s.2 ∧ s.2 < PART * k := by
  intro s hs
  have a := (merged_apart (fun s hs => (h.mem s hs).1) h.sorted).1 s hs
  have : holds (merged (flat ps)) s.2 = true := holds_yes hs a (Nat.le_refl _)
  rw [holds_merged (fun s hs => (h.mem s hs).1) h.sorted] at this
  obtain ⟨t, ht, _, q⟩ := (holds_iff _ _).mp this
  exact ⟨a, Nat.lt_of_le_of_lt q (h.mem t ht).2⟩
theorem fl_last (M : List Span) (p : Span) : fl (M ++ [p]) = fl M ++ [(p.1 : Int)] ++ [(p.2 : Int) + 1] := by rw [fl_snoc, List.append_assoc]; rfl
theorem add_part_touch {ps : List Part} {q : Part} {s : Span} {r M0 : List Span} {p : Span} (h : Flat ps q.key) (ha : Apart q.spans) (hq : q.spans = s :: r) (hM : merged (flat ps) = M0 ++ [p]) (he : (p.2 : Int) + 1 = (q.key : Int) * 65536 + (s.1 : Int)) :
    fl (merged (flat (ps ++ [q]))) = (fl M0 ++ [(p.1 : Int)]) ++ ((fl q.spans).map fun e => (q.key : Int) * 65536 + e).tail := by
  have hp := h.low p (by rw [hM]; simp)
  have ap := shift_apart (k := q.key) ha
  rw [flat_snoc]
  rw [hq] at ap ⊢
  rw [← fl_shift]
  have e : shift q.key (s :: r) = (PART * q.key + s.1, PART * q.key + s.2) :: shift q.key r := rfl
  rw [e] at ap ⊢
  rw [merged_touch hM hp.1 ap (by dsimp only; unfold PART; omega), fl_append, fl_cons, fl_cons, List.append_assoc]
  rfl
theorem add_part_behind {ps : List Part} {q : Part} {s : Span} {r : List Span} (h : Flat ps q.key) (ha : Apart q.spans) (hq : q.spans = s :: r) (he : ∀ M0 p, merged (flat ps) = M0 ++ [p] → (p.2 : Int) + 1 ≠ (q.key : Int) * 65536 + (s.1 : Int)) :
    fl (merged (flat (ps ++ [q]))) = fl (merged (flat ps)) ++ ((fl q.spans).map fun e => (q.key : Int) * 65536 + e) := by
  have ap := shift_apart (k := q.key) ha
  rw [flat_snoc, ← fl_shift]
  rw [hq] at ap ⊢
  have e : shift q.key (s :: r) = (PART * q.key + s.1, PART * q.key + s.2) :: shift q.key r := rfl
  rw [e] at ap ⊢
  rw [merged_behind ap, fl_append]
  intro p M0 hM
  have hp := (h.low p (by rw [hM]; simp)).2
  have := he M0 p hM
  dsimp only
  unfold PART at *
  omega
theorem rdStep_got {bs : List Nat} (hb : Bytes8 bs) {head p k i place : Nat} {tl r : Bool} {q : Part} {e : Nat} (h : rdStep bs head p tl k r i place = some (q, e)) :
    q.key = k ∧ q.runs = r ∧ Apart q.spans ∧ (∀ s, s ∈ q.spans → s.2 < PART) ∧ 1 ≤ sizeOf_ q.spans ∧ e ≤ bs.length ∧ e = place + q.long := by
  unfold rdStep at h
  split at h
  · cases h
  · rw [Option.bind_eq_some_iff] at h
    obtain ⟨c, hc, h⟩ := h
    unfold partStep at h
    rw [Option.map_eq_some_iff] at h
    obtain ⟨⟨l, e'⟩, h1, h2⟩ := h
    cases h2
    obtain ⟨G, sz⟩ := rdPart_got hb h1
    dsimp only at sz ⊢
    exact ⟨rfl, rfl, G.ap, G.top, by omega, G.le, G.long k⟩
theorem keysL_get {bs : List Nat} {head p i : Nat} (h : i < p) : (keysL bs head p).getD i 0 = at_ bs.toArray (head + 4 * i) 2 := by
  rw [List.getD_eq_getElem?_getD]; unfold keysL; rw [List.getElem?_map, List.getElem?_range h]; rfl
theorem long_len {q : Part} (ha : Apart q.spans) (ht : ∀ s, s ∈ q.spans → s.2 < PART) : 2 * q.spans.length ≤ 16 * q.long := by
  have hz := apart_size q.spans 0 PART (ha.2.imp (by intro a b q; omega)) (fun s hs => ⟨Nat.zero_le _, ha.1 s hs, ht s hs⟩)
  unfold Part.long
  by_cases c : q.runs = true
  · rw [if_pos c]; unfold runsLong; omega
  · rw [if_neg c]; unfold plainLong
    have : PART = 65536 := rfl
    split <;> omega
theorem rdSt_flat {bs : List Nat} (hb : Bytes8 bs) {head p front : Nat} {tl : Bool} {ms : List Bool} (hr : rises (keysL bs head p) = true) : ∀ i, i ≤ p → ∀ ps e, rdSt bs head p tl (keysL bs head p) ms front i = some (ps, e) →
    (∀ k, (i < p → k = (keysL bs head p).getD i 0) → (i = p → k = 65536) → Flat ps k) ∧ ps.length = i ∧ e = front + (ps.map Part.long).sum ∧ 2 * (flat ps).length ≤ 16 * (ps.map Part.long).sum := by
  intro i
  induction i with
  | zero =>
    intro _ ps e h
    have h : some (([] : List Part), front) = some (ps, e) := h
    cases h
    exact ⟨fun k _ _ => ⟨by simp, by simp⟩, rfl, rfl, Nat.zero_le _⟩
  | succ i ih =>
    intro hi ps e h
    have h : Option.bind _ _ = some (ps, e) := h
    rw [Option.bind_eq_some_iff] at h
    obtain ⟨⟨qs, f⟩, h1, h2⟩ := h
    rw [Option.map_eq_some_iff] at h2
    obtain ⟨⟨q, e'⟩, h2, h3⟩ := h2
    cases h3
    obtain ⟨I1, I2, I3, I4⟩ := ih (by omega) qs f h1
    dsimp only at h2
    obtain ⟨g1, g2, g3, g4, g5, g6, g7⟩ := rdStep_got hb h2
    have F : Flat qs q.key := I1 q.key (fun _ => g1) (fun q => by omega)
    have F' := F.snoc g3 g4
    have lt : q.key < 65536 := by rw [g1, keysL_get (by omega)]; exact at_lt hb _ 2
    dsimp only
    refine ⟨fun k k1 k2 => F'.mono ?_, ?_, ?_, ?_⟩
    · rcases Nat.lt_or_ge (i + 1) p with c | c
      · rw [k1 c, g1]
        unfold rises at hr
        rw [zip_all] at hr
        have gt : ∀ j, j < p → (keysL bs head p)[j]? = some ((keysL bs head p).getD j 0) := fun j hj => by
          rw [keysL_get hj]; unfold keysL; rw [List.getElem?_map, List.getElem?_range hj]; rfl
        have := of_decide_eq_true (hr i _ _ (gt i (by omega)) (gt (i + 1) c))
        omega
      · rw [k2 (by omega)]; omega
    · rw [List.length_append, I2]; rfl
    · rw [List.map_append, List.sum_append, g7, I3]; show _ = _ + (_ + (q.long + 0)); omega
    · rw [flat_snoc, List.length_append, List.map_append, List.sum_append]
      have : (shift q.key q.spans).length = q.spans.length := List.length_map ..
      have := long_len g3 g4
      show _ ≤ 16 * (_ + (q.long + 0))
      omega
theorem rd_proper {bs : List Nat} (hb : Bytes8 bs) {l : List Span} (h : rd bs = some l) : Proper l ∧ 2 * l.length ≤ 16 * bs.length := by
  unfold rd at h
  rw [Option.map_eq_some_iff] at h
  obtain ⟨ps, h, rfl⟩ := h
  unfold rdParts at h
  rw [Option.bind_eq_some_iff] at h
  obtain ⟨ms, _, h⟩ := h
  rw [Option.bind_eq_some_iff] at h
  obtain ⟨ks, hk, h⟩ := h
  rw [bind_if (g := fun y : List Part × Nat => y.1)] at h
  obtain ⟨⟨qs, e⟩, h1, h2, h3⟩ := h
  dsimp only at h2 h3
  subst h2 h3
  unfold rdKeys at hk
  split at hk
  · rename_i ck
    cases hk
    obtain ⟨F, h4, h5, h6⟩ := rdSt_flat hb ck.2 _ (Nat.le_refl _) _ _ h1
    refine ⟨(F 65536 (fun q => absurd q (Nat.lt_irrefl _)) (fun _ => rfl)).proper (Nat.le_refl _), ?_⟩
    have := merged_len (flat qs)
    omega
  · cases hk
end PM
set_option linter.all false
namespace PM
open Sv14
def lies (s t : List Span) : Int := let c := joinSpans 0 s t
  if c = [] ∧ s ≠ [] ∧ t ≠ [] then 0 else if s = t then 1 else if c = s then 2 else if c = t then 3 else 4
end PM
set_option Elab.async false
set_option linter.all false
set_option maxRecDepth 100000
set_option maxHeartbeats 2000000
namespace L2
open PySem PySem.Spec PyProof.Rows
section
variable {X : Cx}
theorem Vals.evens : ∀ {xs : List V} {us : List Value}, Vals xs us → Vals (PM.evens xs) (PM.evens us)
  | _, _, .nil => .nil
  | _, _, .cons r .nil => .cons r .nil
  | _, _, .cons r (.cons _ t) => .cons r (Vals.evens t)
theorem pick_step2 (its : List Value) (k : Nat) : slicePick its.toArray (some (k : Int)) none (some 2) = (PM.evens (its.drop k)).toArray := by
  unfold slicePick sliceBounds sliceRange
  simp only [Option.getD_some, show (2 : Int) > 0 by decide, if_true, List.size_toArray, show ¬ ((k : Int) < 0) by omega, if_false]
  congr 1
  rw [← PM.evens_pick, List.filterMap_map, List.filterMap_map, List.length_drop]
  by_cases c : k < its.length
  · have e1 : max 0 (min (k : Int) (its.length : Int)) = (k : Int) := by omega
    rw [e1, if_pos (by omega), show (((its.length : Int) - (k : Int) + 2 - 1) / 2).toNat = (its.length - k + 1) / 2 by omega]
    apply PM.fm_congr
    intro j _
    show its.toArray[((k : Int) + 2 * (j : Int)).toNat]? = (its.drop k)[2 * j]?
    rw [List.getElem?_toArray, List.getElem?_drop, show ((k : Int) + 2 * (j : Int)).toNat = k + 2 * j by omega]
  · rw [if_neg (by omega), show (its.length - k + 1) / 2 = 0 by omega]
    rfl
def tStep2 (K : PySem.W.Frag) (te : TE) (k : Nat) : TE := fun σ H Q => te σ H fun x H1 => ∃ a xs, x = .ref a ∧ SqL K H1 a xs ∧ ∀ p, H1 p = none → Q (.ref p) (upd H1 p (.lst (PM.evens (xs.drop k))))
theorem pe_step2 {e : Expr} {te : TE} {k : Nat} {j j' : Nat} {p1 p2 p3 pos : Pos} (he : PE X e te) : PE X (.Subscript e (.Slice (some (.Constant (.int (k : Int)) j p1)) none (some (.Constant (.int 2) j' p3)) p2) pos) (tStep2 X.K te k) := by
  intro pins s σ H Q I h
  refine Subscript_ (thn (he pins s σ H _ I h) fun v s1 ⟨x, H1, I1, r1, q1⟩ => ?_)
  have hl : PO X (some (.Constant (.int (k : Int)) j p1)) (tPart (tC (.int (k : Int)))) := po_some pe_int
  have hu : PO X none tNoPart := po_none
  have hst : PO X (some (.Constant (.int 2) j' p3)) (tPart (tC (.int 2))) := po_some pe_int
  refine wpAny_Slice (thn (hl pins s1 σ H1 (fun o H' => o = some (k : Int) ∧ H' = H1) I1 ⟨_, rfl, rfl, rfl⟩) fun vl s2 ⟨l, H2, I2, pl, q2⟩ => thn (hu pins s2 σ H2 (fun o H' => o = none ∧ H' = H2) I2 ⟨rfl, rfl⟩) fun vu s3 ⟨u, H3, I3, pu, q3⟩ =>
    thn (hst pins s3 σ H3 (fun o H' => o = some 2 ∧ H' = H3) I3 ⟨_, rfl, rfl, rfl⟩) fun vs s4 ⟨o4, H4, I4, p4, q4⟩ => ?_)
  obtain ⟨rfl, rfl⟩ := q2
  obtain ⟨rfl, rfl⟩ := q3
  obtain ⟨rfl, rfl⟩ := q4
  obtain ⟨a, xs, rfl, hx, q⟩ := q1
  cases r1
  have I5 : Inv X pins σ H4 { s4 with heap := s4.heap.push { cls := .type "slice", data := .fields #[vl, vu, vs] } } := I4.kept (t' := s4.toks) fun b ob q => Heap.get?_push_of_some _ q
  obtain ⟨its, r, ht, hz⟩ := I5.list hx
  have hlen := r.length
  show wpAny (model X.prog X.w) X.A (subscriptTail e _ (.ref a) (.ref s4.heap.objs.size)) (EP X pins σ Q) X.xe { s4 with heap := s4.heap.push { cls := .type "slice", data := .fields #[vl, vu, vs] } }
  refine tail_any (ops := [.ref a, .ref s4.heap.objs.size]) ht.isList.typeIs slot_list_getitem.lookup ?_ (by with_unfolding_all rfl)
  refine wpAny_getItem_list_slice ht.isList (Heap.IsSliceOf.new ..) pl pu p4 (by simp) ?_ (by rw [List.size_toArray] <;> omega)
  rw [pick_step2]
  refine ⟨.ref _, _, I5.laid (t' := s4.toks) (o := .lst (PM.evens (xs.drop k))) (fun b ob q => Heap.get?_push_of_some _ q) (Nat.le_refl _) ?_, rfl, q _ (I5.hok.fresh (Nat.le_refl _))⟩
  refine ⟨Nat.le_trans (PM.evens_len _) (by rw [List.length_drop]; omega), _, 0, (r.drop k).evens, Heap.get?_push_size _ rfl⟩
theorem paired_of {α β : Type} {F : α → β → Prop} : ∀ {l : List α} {m : List β}, l.length = m.length → (∀ (k : Nat) a b, l[k]? = some a → m[k]? = some b → F a b) → Paired F l m
  | [], [], _, _ => .nil
  | a :: l, b :: m, h, f => .cons (f 0 a b rfl rfl) (paired_of (by simpa using h) fun k x y hx hy => f (k + 1) x y (by simpa using hx) (by simpa using hy))
theorem call_rng2 : CallR X (.type "range") (fun xs H Q => ∃ i j, xs = [.int i, .int j] ∧ ∀ p, H p = none → Q (.ref p) (upd H p (.rng i j))) := by
  intro pins s σ H xs us Q I r h
  obtain ⟨i, j, rfl, q⟩ := h
  obtain ⟨t, u, rfl⟩ := Vals.int2 r
  refine call_range_2 ⟨.ref _, upd H s.heap.objs.size (.rng i j), I.laid (fun b ob q => Heap.get?_push_of_some _ q) (Nat.le_refl _) ⟨t, u, _, Heap.get?_push_size _ rfl⟩, rfl, q _ (I.hok.fresh (Nat.le_refl _))⟩
def rngV (i : Int) (n : Nat) : List V := (List.range n).map fun (k : Nat) => V.int (i + (k : Int))
theorem call_list_rng (hc : X.calm = true) : CallR X (.type "list") (fun xs H Q => ∃ p i j, xs = [.ref p] ∧ H p = some (.rng i j) ∧ (-(2 ^ 62) ≤ i ∧ i < 2 ^ 62 ∧ -(2 ^ 62) ≤ j ∧ j < 2 ^ 62) ∧ (j - i).toNat ≤ 2 ^ 24 ∧
    ∀ l, H l = none → Q (.ref l) (upd H l (.lst (rngV i (j - i).toNat)))) := by
  intro pins s σ H xs us Q I r h
  obtain ⟨p, i, j, rfl, hp, ⟨b1, b2, b3, b4⟩, hn, q⟩ := h
  rw [Vals.ref1 r]
  obtain ⟨t, u, v, ho⟩ := I.hok p _ hp
  refine call_list_range (I.ok.hd hc) (c := 1) ho (small_one b1 b2 b3 b4) (n := (j - i).toNat) (by rw [rangeSize_one]; split <;> omega) hn fun h' tk acc' c' hk hS' hacc => ?_
  have hv : Vals (rngV i (j - i).toNat) acc'.toList := by
    obtain ⟨hsz, hit⟩ := hacc
    refine paired_of (by unfold rngV; rw [List.length_map, List.length_range, Array.length_toList, hsz]) fun k a b ha hb => ?_
    obtain ⟨t', e'⟩ := hit k b (by simpa using hb)
    unfold rngV at ha
    rw [List.getElem?_map] at ha
    have hk : k < (j - i).toNat := by
      have := (List.getElem?_eq_some_iff.mp hb).1
      rw [Array.length_toList, hsz] at this
      exact this
    rw [List.getElem?_range hk] at ha
    cases ha
    exact ⟨t', by rw [e', Int.mul_one]⟩
  refine ⟨.ref _, upd H s.heap.objs.size (.lst (rngV i (j - i).toNat)), I.laid hk (Nat.le_refl _) ⟨?_, acc'.toList, c', hv, by simpa using hS'⟩, rfl, q _ (I.hok.fresh (Nat.le_refl _))⟩
  unfold rngV; rw [List.length_map, List.length_range]; exact hn
end
end L2
set_option Elab.async false
set_option linter.all false
set_option maxRecDepth 100000
set_option maxHeartbeats 2000000
namespace L2
open PySem PySem.Spec PyProof.Rows
abbrev bmVE : List Value := [.type "ValueError", .type "Exception", .type "BaseException", .type "object"]
structure ExcT (K : PySem.W.Frag) (mg : Str → Option Value) (x : Str) (D : Addr) : Prop where
  at_ : mg x = some (.ref D)
  q : PySem.W.excIn K D bmVE "ValueError.__new__" = true
def ClsObj (h : Heap) (D : Addr) : Prop := ∃ bm N nm qn bs hdct sn sub ab col dd k0 k1 k2 k3 k5 mN,
  h.get? D = some (excClassObj nm qn D N bs bm hdct sn sub ab col dd k0 k1 k2 k3 k5 "ValueError.__new__") ∧ h.Ns N mN ∧ mN "__init__" = none ∧ OwnTail h bmVE bm
theorem ExcT.obj {K : PySem.W.Frag} {mg : Str → Option Value} {x : Str} {D : Addr} {h : Heap} (T : ExcT K mg x D) (X : K.In h) : ClsObj h D := by
  have q := T.q
  unfold PySem.W.excIn at q
  split at q
  case h_2 => exact absurd q (by decide)
  case h_1 dd cd sl lk =>
    split at q
    case h_2 => exact absurd q (by decide)
    case h_1 C1 bm k0 k1 k2 k3 nw k5 em es =>
      obtain ⟨nm, bs, mro, ns, qn, hd, sn, sub, ab, col, del⟩ := cd
      obtain ⟨sl⟩ := sl
      simp only at em es
      simp only [Bool.and_eq_true, beq_iff_eq, Bool.not_eq_true'] at q
      obtain ⟨q, q6⟩ := q
      obtain ⟨q, q5⟩ := q
      obtain ⟨q, q4⟩ := q
      obtain ⟨q, q3⟩ := q
      obtain ⟨q1, q2⟩ := q
      subst q1 q2 em es q3
      have nsok := PySem.W.isNs_of_in X q5
      exact ⟨bm, ns, nm, qn, bs, hd, sn, sub, ab, col, dd, k0, k1, k2, k3, k5, _, X _ _ lk, Heap.Ns.of_isNs nsok, PySem.W.nsMap_none_of_in X q5 q6, PySem.W.tail_of_in X q4⟩
structure Core (P : Program) (w : World) (outer : List Env) (H : Hp) (s : Shared) (H' : Hp) (B : Heap) (s' : Shared) : Prop where
  os : s'.os = s.os
  bare : AllBare s'.gens
  same : Same H H'
  kept : ∀ b o, s.heap.get? b = some o → H b = none → b ∉ frs outer → B.get? b = some o
  slot : ∀ b o, s.heap.get? b = some o → H b = none → b ∈ frs outer → ∃ sl, s'.heap.get? b = some { o with slots := sl }
  free : ∀ b o, s.heap.get? b = some o → H b = none → H' b = none
  hok : HOk P w H' B
def CXR (P : Program) (w : World) (D : Addr) : CXT := fun outer H s E e s' => ∃ ea a0 B H', e = .ref ea ∧ Core P w outer H s H' B s' ∧ Heap.FlyingW B outer ea (.ref D) a0 s'.heap ∧ E (.ref D) none H'
theorem HOk.hide {P : Program} {w : World} {H : Hp} {h : Heap} {fs : List Addr} (x : HOk P w H h) (hf : ∀ b ∈ fs, H b = none) : HOk P w H (PySem.W.hideAll h fs) := fun a o e =>
  (x a o e).stay (fun b u hb q => PySem.W.hideAll_get fs q fun m => by
    have n := hf b m
    rcases hb with z | z
    · rw [z, e] at n; cases n
    · rw [z] at n; cases n) (fun _ z => z) fun _ _ z => z
theorem ObjOk.there {P : Program} {w : World} {H : Hp} {h : Heap} {a : Addr} {o : HO} (x : ObjOk P w H h a o) : ∃ u, h.get? a = some u := by
  cases o with
  | lst xs => obtain ⟨_, _, _, _, e⟩ := x; exact ⟨_, e⟩
  | tup xs =>
    obtain ⟨_, _, _, p⟩ := x
    obtain ⟨_, e, _⟩ := p
    exact ⟨_, e⟩
  | dK kvs => obtain ⟨_, _, _, _, o, _, _, e, _⟩ := x; exact ⟨_, e⟩
  | dT kvs => obtain ⟨_, _, _, _, o, _, _, e, _⟩ := x; exact ⟨_, e⟩
  | set S n => obtain ⟨o, _, _, _, e, _⟩ := x; exact ⟨_, e⟩
  | ins C dx fs => obtain ⟨_, _, _, e, _⟩ := x; exact ⟨_, e⟩
  | own y => exact x
  | xd fs => obtain ⟨_, ⟨_, _, _, e, _⟩, _⟩ := x; exact ⟨_, e⟩
  | rng lo hi => obtain ⟨_, _, _, e⟩ := x; exact ⟨_, e⟩
  | frz ob u => obtain ⟨e, _⟩ := x; exact ⟨_, e⟩
  | tbl ps => exact ⟨_, x⟩
  | met f y => exact ⟨_, x⟩
  | ext φ => obtain ⟨_, e, _⟩ := x; exact e
theorem Core.un {P : Program} {w : World} {outer : List Env} {H H' : Hp} {s s' : Shared} {B h'' : Heap} (c : Core P w outer H s H' B s') (st : B.StaysIn h'')
    (sl : ∀ b o, s.heap.get? b = some o → H b = none → b ∈ frs outer → ∃ sl, h''.get? b = some { o with slots := sl }) : Un (frs outer) [] H H' s.heap h'' ∧ HOk P w H' h'' := by
  have ok : HOk P w H' h'' := c.hok.kept fun b u q => st b u q
  refine ⟨⟨fun b o q n hf _ => st _ _ (c.kept b o q n hf), fun b o q n hf _ => sl b o q n hf, fun b o q n _ => c.free b o q n, fun b o q _ => ?_, fun b xs q => c.same _ _ q, fun b o u q => c.same _ _ q, fun b ps q => ⟨#[], by rw [Array.append_empty]; exact c.same _ _ q⟩⟩, ok⟩
  cases hb : H b with
  | some u => exact (ok b u (c.same b u hb)).there
  | none =>
    by_cases m : b ∈ frs outer
    · obtain ⟨l, e⟩ := sl b o q hb m; exact ⟨_, e⟩
    · exact ⟨_, st _ _ (c.kept b o q hb m)⟩
section
variable {P : Program} {w : World} {K : PySem.W.Frag} {mg : Str → Option Value} {base : Heap} {N : List Str} {qual : Str} {scope : Scope} {f : Addr} {cd : Value} {A : Around} {outer : List Env} {s : Shared} {H : Hp} {E : XK} {D : Addr}
theorem frs_up {env : Env} {l : List Env} {b : Addr} (h : b ∈ frs l) : b ∈ frs (env :: l) := by
  obtain ⟨e, he, q⟩ := List.mem_filterMap.mp h
  exact List.mem_filterMap.mpr ⟨e, List.mem_cons_of_mem _ he, q⟩
abbrev EX (H : Hp) (E : XK) : XK := fun c d H' => Same H H' ∧ E c d H'
theorem core_out {X : Cx} (hX : X = cxOf (CXR P w D) P w K mg base N qual scope f cd A outer s H E) {pins : List (Addr × Obj)} {σ : St} {H1 : Hp} {s1 : Shared} (I : Inv X pins σ H1 s1) :
    (∀ b o, s.heap.get? b = some o → H b = none → b ∉ frs outer → s1.heap.get? b = some o ∧ H1 b = none ∧ b ∉ frs X.stack) ∧
    (∀ b o, s.heap.get? b = some o → H b = none → b ∈ frs outer → (∃ sl, s1.heap.get? b = some { o with slots := sl }) ∧ H1 b = none ∧ b ∈ frs X.stack ∧ ∀ vs, o.data ≠ .fields vs) ∧
    (∀ b o, s.heap.get? b = some o → H b = none → H1 b = none) := by
  subst hX
  refine ⟨fun b o q n hf => ⟨I.base.keep b o q n hf (by intro z; cases z), I.base.free b o q n (by intro z; cases z), fun m => ?_⟩, fun b o q n hf => ⟨I.base.slot b o q n hf (by intro z; cases z), I.base.free b o q n (by intro z; cases z), frs_up hf, ?_⟩, fun b o q n => I.base.free b o q n (by intro z; cases z)⟩
  · rcases List.mem_cons.mp (I.stkSub b m) with z | z
    · have := I.ok.above
      have lt := Heap.lt_size q
      rw [z] at lt
      exact absurd lt (Nat.not_lt.mpr this)
    · exact hf z
  · obtain ⟨_, o', ho', nf⟩ := I.ok.funs.mem hf
    have e : some o' = some o := ho'.symm.trans q
    cases e
    exact nf
theorem passR : Passes (CXR P w D) (cxOf (CXR P w D) P w K mg base N qual scope f cd A outer s H E) (EX H E) := by
  intro pins σ H1 s1 e s' I h
  obtain ⟨ea, a0, B, H', rfl, c, fl, sm, q⟩ := h
  obtain ⟨c1, c2, c3⟩ := core_out rfl I
  show wpAny (model P w) (A.deeper (envOfC qual scope s.heap.objs.size f cd)) (leaving (envOfC qual scope s.heap.objs.size f cd) (.ref ea)) _ _ s'
  refine wpAny_leaves_onW (outer := outer) (L := s.heap.objs.size) I.ok.frames rfl fl fun h'' fl' up => ?_
  refine ⟨ea, a0, B, H', rfl, ⟨c.os.trans I.os, c.bare, sm, fun b o q n hf => ?_, fun b o q n hf => ?_, fun b o q n => ?_, c.hok⟩, fl', q⟩
  · obtain ⟨x1, x2, x3⟩ := c1 b o q n hf
    exact c.kept b o x1 x2 x3
  · obtain ⟨⟨sl, x1⟩, x2, x3, x4⟩ := c2 b o q n hf
    obtain ⟨sl2, x5⟩ := c.slot b _ x1 x2 x3
    obtain ⟨sl3, x6⟩ := up b _ x5 x4
    exact ⟨sl3, x6⟩
  · cases m : decide (b ∈ frs outer) with
    | true =>
      obtain ⟨⟨sl, x1⟩, x2, _⟩ := c2 b o q n (of_decide_eq_true m)
      exact c.free b _ x1 x2
    | false =>
      obtain ⟨x1, x2, _⟩ := c1 b o q n (of_decide_eq_false m)
      exact c.free b _ x1 x2
theorem ps_raise0 {x : Str} {np cpos pos : Pos} (T : ExcT K mg x D) (hg : Gl (cxOf (CXR P w D) P w K mg base N qual scope f cd A outer s H E) x) (hd : (x == ("__debug__" : Str)) = false := by decide) :
    PS (cxOf (CXR P w D) P w K mg base N qual scope f cd A outer s H E) (.Raise (some (.Call (.Name x np) [] [] cpos)) none pos) (fun _ _ H' => EX H E (.ref D) none H') := by
  intro pins s1 σ H1 Dn I h
  obtain ⟨sm, q⟩ := h
  obtain ⟨c1, c2, c3⟩ := core_out rfl I
  obtain ⟨tl, N', nm, qn, bs, hdct, sn, sub, ab, col, dd, k0, k1, k2, k3, k5, mN, hC, hN, hni, TL⟩ := T.obj (h := base) I.mod.kin
  refine wpAny_Raise_call_subT (C := D) (nm := nm) (q := qn) (N := N') (bs := bs) (bm := tl) (hdct := hdct) (sn := sn) (sub := sub) (ab := ab) (col := col) (dd := dd) (k0 := k0) (k1 := k1) (k2 := k2) (k3 := k3) (k5 := k5)
    PySem.F.excBase_ValueError (mN := mN) (TL.hasType PySem.F.excBase_ValueError.hasBase) (I.ok.hd rfl) rfl hni (ld_glob I hg T.at_ ⟨rfl, ?_⟩ hd)
  refine evalArgs_empty ⟨rfl, Nat.zero_le _, I.bk _ _ hC, hN.keeps I.bk, TL.keeps I.bk, fun h2 e mk => ?_⟩
  show wpAny (model P w) (A.deeper (envOfC qual scope s.heap.objs.size f cd)) (leaving (envOfC qual scope s.heap.objs.size f cd) (.ref e)) _ _ _
  have hin : ∀ env ∈ (envOfC qual scope s.heap.objs.size f cd :: outer), ∀ b, env.frame = some b → b ∈ frs (envOfC qual scope s.heap.objs.size f cd :: outer) := fun env he b hb => List.mem_filterMap.mpr ⟨env, he, hb⟩
  refine wpAny_leaves_madeW (outer := outer) (L := s.heap.objs.size) (base := PySem.W.hideAll s1.heap (frs (envOfC qual scope s.heap.objs.size f cd :: outer))) I.ok.frames rfl (fun b o q => PySem.W.of_hideAll _ q) (PySem.W.funFrames_hide I.stack hin) mk fun h3 t fl _ _ up => ?_
  refine ⟨e, _, _, H1, rfl, ⟨I.os, I.bare, sm, fun b o q n hf => ?_, fun b o q n hf => ?_, c3, I.hok.hide I.stkFree⟩, fl, q⟩
  · obtain ⟨x1, x2, x3⟩ := c1 b o q n hf
    exact PySem.W.hideAll_get _ x1 x3
  · obtain ⟨⟨sl, x1⟩, x2, x3, x4⟩ := c2 b o q n hf
    obtain ⟨sl3, x6⟩ := up b _ (mk.keeps b _ x1) x4
    exact ⟨sl3, x6⟩
end
def CxTry (X : Cx) (D : Addr) (pins : List (Addr × Obj)) (R : Hp → Prop) : Cx := { X with pn := X.pn ++ pins, xe := fun e s' => ∃ ea a0 B σ H s0 H', e = .ref ea ∧ Inv X pins σ H s0 ∧ Core X.prog X.w X.stack H s0 H' B s' ∧ Heap.FlyingW B X.stack ea (.ref D) a0 s'.heap ∧ R H' }
def CxH (X : Cx) (e : Addr) : Cx := { X with A := X.A.mark (some (.ref e)), calm := false, xe := fun _ _ => False }
section
variable {X : Cx} {D : Addr} {pins : List (Addr × Obj)} {σ : St} {H : Hp} {s : Shared} {R : Hp → Prop}
theorem Inv.toTry (I : Inv X pins σ H s) : Inv (CxTry X D pins R) [] σ H s :=
  ⟨⟨I.ok.mod, I.ok.kind, I.ok.glob, I.ok.blt, I.ok.above, I.ok.inj, I.ok.has, I.ok.cab, I.ok.hd, I.ok.frames, I.ok.stk, I.ok.exf, I.ok.bs, I.ok.bsz, I.ok.noex, I.ok.exfs, I.ok.funs, I.ok.frf⟩,
    I.os, I.bare, I.base, I.loc, I.cell, I.free, I.freeC, fun p hp => I.pin p (by have hp : p ∈ (X.pn ++ pins) ++ [] := hp; rw [List.append_nil] at hp; exact hp), I.hok, I.len⟩
theorem Inv.ofTry {pins2 : List (Addr × Obj)} (I : Inv (CxTry X D pins R) pins2 σ H s) : Inv X pins σ H s :=
  ⟨⟨I.ok.mod, I.ok.kind, I.ok.glob, I.ok.blt, I.ok.above, I.ok.inj, I.ok.has, I.ok.cab, I.ok.hd, I.ok.frames, I.ok.stk, I.ok.exf, I.ok.bs, I.ok.bsz, I.ok.noex, I.ok.exfs, I.ok.funs, I.ok.frf⟩,
    I.os, I.bare, I.base, I.loc, I.cell, I.free, I.freeC, fun p hp => I.pin p (List.mem_append_left pins2 hp), I.hok, I.len⟩
theorem Inv.toH {e : Addr} (I : Inv X pins σ H s) : Inv (CxH X e) pins σ H s :=
  ⟨⟨I.ok.mod, I.ok.kind, I.ok.glob, I.ok.blt, I.ok.above, I.ok.inj, I.ok.has, I.ok.cab, fun q => (by cases q), I.ok.frames, I.ok.stk, I.ok.exf, I.ok.bs, I.ok.bsz, I.ok.noex, I.ok.exfs, I.ok.funs, I.ok.frf⟩,
    I.os, I.bare, I.base, I.loc, I.cell, I.free, I.freeC, I.pin, I.hok, I.len⟩
theorem Inv.ofH {e : Addr} (ok : X.Ok) (I : Inv (CxH X e) pins σ H s) : Inv X pins σ H s := ⟨ok, I.os, I.bare, I.base, I.loc, I.cell, I.free, I.freeC, I.pin, I.hok, I.len⟩
theorem SP.ofTry {Dn : Ends} {fl : Flow} {s' : Shared} (h : SP (CxTry X D pins R) [] Dn fl s') : SP X pins Dn fl s' := by
  cases fl with
  | next => obtain ⟨a, b, I, q⟩ := h; exact ⟨a, b, I.ofTry, q⟩
  | brk => obtain ⟨a, b, I, q⟩ := h; exact ⟨a, b, I.ofTry, q⟩
  | cont => obtain ⟨a, b, I, q⟩ := h; exact ⟨a, b, I.ofTry, q⟩
  | ret u => obtain ⟨v, a, b, I, q⟩ := h; exact ⟨v, a, b, I.ofTry, q⟩
theorem SP.ofH {Dn : Ends} {fl : Flow} {s' : Shared} {e : Addr} (ok : X.Ok) (h : SP (CxH X e) pins Dn fl s') : SP X pins Dn fl s' := by
  cases fl with
  | next => obtain ⟨a, b, I, q⟩ := h; exact ⟨a, b, I.ofH ok, q⟩
  | brk => obtain ⟨a, b, I, q⟩ := h; exact ⟨a, b, I.ofH ok, q⟩
  | cont => obtain ⟨a, b, I, q⟩ := h; exact ⟨a, b, I.ofH ok, q⟩
  | ret u => obtain ⟨v, a, b, I, q⟩ := h; exact ⟨v, a, b, I.ofH ok, q⟩
theorem passTry : Passes (CXR X.prog X.w D) (CxTry X D pins R) (fun _ _ H' => R H') := by
  intro pins2 σ H1 s1 e s' I h
  obtain ⟨ea, a0, B, H', rfl, c, fl, r⟩ := h
  exact ⟨ea, a0, B, σ, H1, s1, H', rfl, I.ofTry, c, fl, r⟩
def tTry (R : Hp → Prop) (tb ts : TS) : TS := fun Dn σ H => tb Dn σ H ∧ ∀ σ' H', R H' → ts Dn σ' H'
theorem ps_try0 {x : Str} {np hpos pos : Pos} {b0 : Stmt} {suite body : List Stmt} {tb ts : TS} {L : Addr} (T : ExcT X.K X.mg x D) (hg : Gl X x) (hst : X.stack = X.env :: X.outer) (hf : X.env.frame = some L)
    (hb : ∀ pins, PSs (CxTry X D pins R) body tb) (hs : ∀ e, PSs (CxH X e) (b0 :: suite) ts) (hd : (x == ("__debug__" : Str)) = false := by decide) :
    PS X (.Try body [.ExceptHandler (some (.Name x np)) none (b0 :: suite) hpos] [] [] pos) (tTry R tb ts) := by
  intro pins s σ H Dn I h
  obtain ⟨h1, h2⟩ := h
  refine wpAny_Try_except ?_
  refine wpAny_mono (hb pins [] s σ H Dn I.toTry h1) (fun fl s1 q => ?_) (fun e s1 q => ?_)
  · have q := q.ofTry
    cases fl with
    | next =>
      obtain ⟨σ', H', I', q⟩ := q
      exact pss_nil pins s1 σ' H' Dn I' q
    | brk => exact q
    | cont => exact q
    | ret u => exact q
  · obtain ⟨ea, a0, B, σ', H1, s0, H', rfl, I0, c, fl, r⟩ := q
    have ok := I.ok
    have hfr : X.A.frames = some (X.env :: X.outer) := by rw [ok.frames, hst]
    rw [hst] at fl
    refine wpAny_looks_onW hfr hf fl fun h4 held up4 => ?_
    refine wpAny_landsW held fun h5 fl5 up5 => ?_
    have inv : ∀ h' : Heap, B.StaysIn h' → s1.heap.UpToSlots h' → Inv X pins σ' H' { s1 with heap := h' } := by
      intro h' st up
      have u := c.un (h'' := h') st fun b o q n m => by
        obtain ⟨sl, e1⟩ := c.slot b o q n m
        obtain ⟨_, o', ho', nf⟩ := I0.stack.mem m
        have z : some o' = some o := ho'.symm.trans q
        cases z
        obtain ⟨sl3, x6⟩ := up b _ e1 nf
        exact ⟨sl3, x6⟩
      exact I0.call' (s' := { s1 with heap := h' }) c.os u.1 u.2 c.bare (fun b z => by cases z)
    have I5 := inv h5 fl5.1 (up4.trans up5)
    obtain ⟨ob, hob, hobc⟩ := fl5.there
    obtain ⟨tl, N', nm, qn, bs, hdct, sn, sub, ab, col, dd, k0, k1, k2, k3, k5, mN, hC, hN, hni, TL⟩ := T.obj I5.kIn
    refine wpAny_handleBy_cons (codeAny_handlers_test (ld_glob (X := CxH X ea) I5.toH hg T.at_ ?_ hd)) (by intro z; cases z)
    refine wpAny_excMatches_sub_self hC hob hobc (TL.hasType PySem.F.excBase_ValueError.hasBase) (codeAny_handlers_suite ?_)
    refine lands_againW fl5 fun h6 fl6 up6 => ?_
    have I6 := inv h6 fl6.1 ((up4.trans up5).trans up6)
    exact wpAny_mono (hs ea pins _ σ' H' Dn I6.toH (h2 σ' H' r)) (fun f s2 q => q.ofH ok) fun _ _ z => z.elim
end
end L2
set_option Elab.async false
set_option linter.all false
set_option maxRecDepth 100000
set_option maxHeartbeats 2000000
namespace L2
open PySem PySem.Spec PyProof.Rows
theorem put_flight {M : Model} {A : Around} {E : Value → Shared → Prop} {s : Shared} {bh : Heap} {l : List Env} {e : Addr} {cls a0 fl : Value} {fr : Option Addr} {Q : Unit → Shared → Prop} (st : bh.StaysIn s.heap) (ff : s.heap.FunFrames bh l) (tr : s.heap.TracedAtW bh e cls a0 fl)
    (hq : ∀ h' : Heap, bh.StaysIn h' → h'.FunFrames bh l → h'.TracedAtW bh e cls a0 (fr.elim Value.none fun f => rawInt f) → s.heap.UpToSlots h' → Q () { s with heap := h' }) : wpAny M A (setFlight (.ref e) fr) Q E s := by
  obtain ⟨oe, ws, tb, ot, us, ge, gc, gd, g1, gn, gne, gt, gtd, g3⟩ := tr
  have sz : 3 < us.size := (Array.getElem?_eq_some_iff.mp g3).1
  let h2 := s.heap.update tb (Obj.mapFields (·.setIfInBounds 3 (fr.elim Value.none fun f => rawInt f)))
  have els : ∀ b, b ≠ tb → h2.get? b = s.heap.get? b := fun b n => Heap.get?_update_other _ _ (Ne.symm n)
  have plain : ∀ b o, s.heap.get? b = some o → (∀ xs, o.data ≠ .fields xs) → h2.get? b = some o := fun b o x y => by
    refine (els b fun z => ?_).trans x
    rw [z, gt] at x
    cases x
    exact y us gtd
  unfold setFlight
  refine wpAny_bind (wpAny_field ge gd g1 ?_)
  have ne : (Value.ref tb != Value.none) = true := by simp
  rw [if_pos ne]
  refine wpAny_setField gt gtd sz (hq h2 (fun b o x => (els b fun z => by rw [z, gn] at x; cases x).trans (st b o x)) (ff.of_keeps fun b o x y => ⟨o, plain b o x y, rfl⟩) ?_ fun b o x y => ⟨o.slots, plain b o x y⟩)
  exact ⟨oe, ws, tb, _, _, (els e (Ne.symm gne)).trans ge, gc, gd, g1, gn, gne, Heap.get?_update_self _ gt (Obj.isFreed_of_fields (Obj.data_mapFields gtd _)), Obj.data_mapFields gtd _, by simp [sz]⟩
theorem go_on {M : Model} {A : Around} {E : Value → Shared → Prop} {α : Type} {s : Shared} {bh : Heap} {l : List Env} {e : Addr} {cls a0 fl : Value} {cenv : Env} {what : String} {Q : α → Shared → Prop} (st : bh.StaysIn s.heap) (ff : s.heap.FunFrames bh l) (tr : s.heap.TracedAtW bh e cls a0 fl)
    (hq : ∀ (h' : Heap) (fl' : Value), bh.StaysIn h' → h'.FunFrames bh l → h'.TracedAtW bh e cls a0 fl' → s.heap.UpToSlots h' → E (.ref e) { s with heap := h' }) : wpAny M A (PySem.passOn what (.ref e) cenv : Sem α) Q E s := by
  have tr' := tr
  obtain ⟨oe, ws, tb, ot, us, ge, gc, gd, g1, gn, gne, gt, gtd, g3⟩ := tr'
  unfold PySem.passOn
  refine wpAny_bind (wpAny_field ge gd g1 ?_)
  have ne : ¬ (Value.ref tb == Value.none) = true := by simp
  rw [if_neg ne]
  refine wpAny_bind (put_flight st ff tr fun h' x1 x2 x3 x4 => ?_)
  exact wpAny_throw (hq h' _ x1 x2 x3 x4)
theorem leave_any {M : Model} {A : Around} {E : Value → Shared → Prop} {s : Shared} {bh : Heap} {env : Env} {outer : List Env} {L e : Addr} {cls a0 fl : Value} {Q : Unit → Shared → Prop} (hfr : A.frames = some (env :: outer)) (hf : env.frame = some L)
    (st : bh.StaysIn s.heap) (en : bh.get? e = none) (ff : s.heap.FunFrames bh (env :: outer)) (tr : s.heap.TracedAtW bh e cls a0 fl) (hq : ∀ h' : Heap, Heap.FlyingW bh outer e cls a0 h' → s.heap.UpToSlots h' → Q () { s with heap := h' }) : wpAny M A (leaving env (.ref e)) Q E s := by
  by_cases c : (fl == rawInt L) = true
  · have c : fl = rawInt L := eq_of_beq c
    subst c
    unfold leaving
    refine wpAny_bind (wpAny_noteFrame_againW hf tr (wpAny_setFlight_noneW st ff tr fun h' x1 x2 x3 x4 => hq h' ⟨x1, en, x2.2.2, x3⟩ fun b o y z => ⟨o.slots, x4 b o y z⟩))
  · obtain ⟨oe, ws, tb, ot, us, ge, ⟨gc, g0⟩, gd, g1, gn, gne, gt, gtd, g3⟩ := tr
    subst gc
    unfold leaving noteFrame
    simp only [hf]
    have ne : (Value.ref tb != Value.none) = true := by simp
    refine wpAny_bind (wpAny_bind (wpAny_field ge gd g1 ?_))
    rw [if_pos ne]
    refine wpAny_bind (wpAny_field gt gtd g3 ?_)
    rw [if_neg c]
    have els : ∀ b, b ≠ tb → (s.heap.update tb (Obj.mapFields (·.setIfInBounds 3 Value.none))).get? b = s.heap.get? b := fun b n => Heap.get?_update_other _ _ (Ne.symm n)
    have plain : ∀ b o, s.heap.get? b = some o → (∀ xs, o.data ≠ .fields xs) → (s.heap.update tb (Obj.mapFields (·.setIfInBounds 3 Value.none))).get? b = some o := fun b o x y => by
      refine (els b fun z => ?_).trans x
      rw [z, gt] at x
      cases x
      exact y us gtd
    refine wpAny_bind (wpAny_setField gt gtd (Array.getElem?_eq_some_iff.mp g3).1 ?_)
    refine wpAny_newEntryW hfr (ff.of_keeps fun b o x y => ⟨o, plain b o x y, rfl⟩) hf ((els e (Ne.symm gne)).trans ge) (fun b o x => (els b fun z => by rw [z, gn] at x; cases x).trans (st b o x)) en gd (Array.getElem?_eq_some_iff.mp g1).1 g0 fun h' w => ?_
    obtain ⟨x1, ⟨_, _, x2⟩, x3, x4⟩ := w
    exact hq h' ⟨x1, en, x2, x3⟩ fun b o y z => x4 b o (plain b o y z) z
def BX (X : Cx) (Dd : Addr) (R : Hp → Prop) (Y : Cx) : Value → Shared → Prop := fun e s' => ∃ ea a0 B pb σ H s0 H', e = .ref ea ∧ Inv Y pb σ H s0 ∧ Core X.prog X.w X.stack H s0 H' B s' ∧ Heap.FlyingW B X.stack ea (.ref Dd) a0 s'.heap ∧ R H'
section
variable {X : Cx} {Dd : Addr} {R : Hp → Prop}
theorem lc_coreX {pins : List (Addr × Obj)} {s : Shared} {σ : St} {H : Hp} {Q : VK} {elt tg iter : Expr} {ifs : List Expr} {scope : Scope} {own : List (Str × Nat)} {pos pos' : Pos} {wi : TI} {g : TG} {tt : TT} {te : TE} {use : Option (Value → Sem Unit)} {Qf : Value → Shared → Prop}
    (hc : X.calm = true) (hN : X.N.Nodup) (I : Inv X pins σ H s) (hi : PI X tg iter wi) (ok : BlkOk X.N X.env.scope scope own)
    (hg : ∀ (s : Shared) (H : Hp) (C : Addr) (cl : List (Str × Addr)) (fp : List Addr), PG (X.blk s H scope (compEnvC scope cl C X.env) fp) tg g) (ht : ∀ (s : Shared) (H : Hp) (C : Addr) (cl : List (Str × Addr)) (fp : List Addr), PTs (X.blk s H scope (compEnvC scope cl C X.env) fp) ifs tt)
    (he : ∀ (s : Shared) (H : Hp) (C : Addr) (cl : List (Str × Addr)) (fp : List Addr), PE ((X.blk s H scope (compEnvC scope cl C X.env) fp).wish (BX X Dd R (X.blk s H scope (compEnvC scope cl C X.env) fp))) elt te) (hs : ∀ x, foldedSetIterable iter X.env x = pure x)
    (h : tLc wi g tt te (own.map (·.2)) σ H Q)
    (hRR : ∀ D C s' m H', Inv X pins σ H' s' → Q (.ref D) H' → s'.heap.Ns C m → FpOk X pins H' C → compPost (model X.prog X.w) X.A X.xe use Qf (.ref D) C (.ok .next) s')
    (hXX : ∀ (s3 : Shared) (H3 : Hp) (ce : Env) (fp : List Addr) (D : Addr) (e : Value) (s' : Shared), Inv X pins σ H3 s3 → ce.frame = X.env.frame → ce.locals = s3.heap.objs.size → (∀ b ∈ fp, b ∈ X.ex ∨ X.s_0.heap.objs.size ≤ b) → BX X Dd R (X.blk s3 H3 scope ce fp) e s' →
      notedBy (model X.prog X.w) X.A ce (fun x s2 => compPost (model X.prog X.w) X.A X.xe use Qf (.ref D) s3.heap.objs.size (.error x) s2) e s') :
    wpAny (model X.prog X.w) X.A (comprehension (.ListComp elt [⟨tg, iter, ifs, 0⟩] scope pos) scope X.env pos' (newList []) false (eval iter X.env) use) Qf X.xe s := by
  have hfree : ∀ y ∈ scope.names, y.2 = .free → ∃ c, X.env.cells.lookup y.1 = some c := fun y hy e => by
    rcases ok.free y hy e with k | k
    · exact I.ok.has _ (.inl k)
    · exact I.ok.has _ (.inr k)
  refine wpAny_comprehension_free (use := use) rfl hs (closure_ok hfree) ok.kind (fun y hy e => by rw [ok.uniq y hy, e])
    (thn (hi pins s σ H _ I h) fun xv s1 hx => thn hx fun itv s2 h2 => ?_)
  obtain ⟨it, fp, tn, J, H2, e, I2, T, st2, f2, q⟩ := h2
  subst e
  refine wpAny_newObj_type (newEnv_comp ?_) (by show 0 ≤ sizeLine; decide)
  generalize hD : s2.heap.objs.size = D
  have hDn : H2 D = none := I2.hok.fresh (Nat.le_of_eq hD)
  obtain ⟨W, ⟨m0, w0⟩, turn⟩ := q D hDn
  -- the new list
  generalize hs3 : ({ s2 with heap := s2.heap.push { cls := .type "list", data := .seq ([] : List Value).toArray } } : Shared) = s3
  have I3 : Inv X pins σ (upd H2 D (.lst [])) s3 := by
    rw [← hs3]
    refine I2.laid (t' := s2.toks) (fun b o e => Heap.get?_push_of_some _ e) (Nat.le_of_eq hD) ⟨Nat.zero_le _, [], 0, .nil, ?_⟩
    rw [← hD]
    exact Heap.get?_push_size _ rfl
  have h3 : s3.heap = s2.heap.push { cls := .type "list", data := .seq ([] : List Value).toArray } := by rw [← hs3]
  have sz : ∀ b ∈ fp, b < s2.heap.objs.size := fun b hb => by
    obtain ⟨o, e, _⟩ := T.obj _ _ st2 b hb
    exact Heap.lt_size e
  have f3 : ∀ b ∈ fp, FpOk X pins (upd H2 D (.lst [])) b ∧ b < s3.heap.objs.size := fun b hb => by
    have hlt := sz b hb
    refine ⟨⟨?_, (f2 b hb).2⟩, by rw [h3, Heap.size_push]; exact Nat.lt_succ_of_lt hlt⟩
    rw [upd_ne (by rw [← hD]; exact Nat.ne_of_lt hlt)]
    exact (f2 b hb).1
  have st3 : tn 0 s3.heap := T.keep _ _ _ st2 fun b _ o e => by rw [h3]; exact Heap.get?_push_of_some _ e
  have I4 := block_start I3 ok hN f3
  have pg := hg s3 (upd H2 D (.lst [])) s3.heap.objs.size (cellsFrom (s3.heap.objs.size + 1) scope.names (cloFrom X.env.cells scope.names [])) fp
  have pt := ht s3 (upd H2 D (.lst [])) s3.heap.objs.size (cellsFrom (s3.heap.objs.size + 1) scope.names (cloFrom X.env.cells scope.names [])) fp
  have pe := he s3 (upd H2 D (.lst [])) s3.heap.objs.size (cellsFrom (s3.heap.objs.size + 1) scope.names (cloFrom X.env.cells scope.names [])) fp
  show codeAny _ _ (.compStart (.ListComp elt [⟨tg, iter, ifs, 0⟩] scope pos) 0 (.ref it) (.ref D) (compEnvC scope (cellsFrom (s3.heap.objs.size + 1) scope.names (cloFrom X.env.cells scope.names [])) s3.heap.objs.size X.env)) (compPost (model X.prog X.w) X.A X.xe use Qf (.ref D) s3.heap.objs.size) { s3 with heap := pushCells (s3.heap.push { cls := .type "dict", data := .dict #[] }) scope.names }
  have nfp : ∀ b ∈ fp, (upd H2 D (.lst [])) b = none := fun b hb => (f3 b hb).1.1
  generalize hce : compEnvC scope (cellsFrom (s3.heap.objs.size + 1) scope.names (cloFrom X.env.cells scope.names [])) s3.heap.objs.size X.env = ce at I4 pg pt pe ⊢
  have cL : ce.locals = s3.heap.objs.size := by subst hce; rfl
  have cF : ce.frame = X.env.frame := by subst hce; rfl
  generalize hH3 : upd H2 D (.lst []) = H3 at I3 I4 pg pt pe w0 nfp f3
  generalize hs4 : ({ s3 with heap := pushCells (s3.heap.push { cls := .type "dict", data := .dict #[] }) scope.names } : Shared) = s4 at I4 ⊢
  have st4 : tn 0 s4.heap := T.keep _ _ _ st3 fun b _ o e => by rw [← hs4]; exact pushCells_keeps _ _ _ _ (Heap.get?_push_of_some _ e)
  have stat : ∀ {σ' : St} {H' : Hp} {s' : Shared}, Inv (X.blk s3 H3 scope ce fp) [] σ' H' s' → (∀ b ∈ fp, H' b = none) → ∀ b ∈ fp, FpOk (X.blk s3 H3 scope ce fp) [] H' b := fun {σ' H' s'} I' hn b hb =>
    ⟨hn b hb, (I'.ok.exf b hb).1, I'.ok.exfs b hb, .inl hb, fun x c e => (I'.ok.exf b hb).2 x c e, fun p hp => absurd (show p ∈ ([] : List (Addr × Obj)) ++ [] from hp) (by simp)⟩
  have loop : codeAny (model X.prog X.w) X.A (.compLoop (.ListComp elt [⟨tg, iter, ifs, 0⟩] scope pos) 0 (.ref it) (.ref D) ce) (compPost (model X.prog X.w) X.A X.xe use Qf (.ref D) s3.heap.objs.size) s4 := by
    refine compLoop_any (fun n s' => ∃ i H', Inv (X.blk s3 H3 scope ce fp) [] (wipe σ (own.map (·.2))) H' s' ∧ tn i s'.heap ∧ (∀ b ∈ fp, H' b = none) ∧ W i n H') ?_ m0 ⟨0, H3, I4, st4, nfp, w0⟩
    rintro n s5 ⟨i, H5, I5, st5, n5, w5⟩
    rcases turn i n H5 w5 with ⟨stop, qq⟩ | ⟨go, Nx, hNx, step⟩
    · have td := T.done (X.blk s3 H3 scope ce fp) rfl rfl rfl hc i [] s5 _ H5 (fun _ _ => False) I5 (stat I5 n5) st5 stop
      refine thnF td fun r s6 ⟨hr, I6⟩ => ?_
      subst hr
      -- back in the def's context
      have I7 : Inv X pins σ H5 s6 := I3.call' (ch := fp) I6.os I6.base I6.hok I6.bare fun b hb => ⟨(f3 b hb).1.2.2.2.1, (f3 b hb).1.2.1, (f3 b hb).1.2.2.2.2.1, (f3 b hb).1.2.2.2.2.2⟩
      have nC : H5 s3.heap.objs.size = none := by
        have z : H5 ce.locals = none := I6.free
        rw [cL] at z
        exact z
      obtain ⟨m, hn, _⟩ := I6.loc
      have hn : s6.heap.Ns ce.locals m := hn
      rw [cL] at hn
      exact hRR D s3.heap.objs.size s6 m H5 I7 qq hn (I3.fpOk (Nat.le_refl _) nC)
    · have ti := T.item (X.blk s3 H3 scope ce fp) rfl rfl rfl hc i [] s5 _ H5 (fun _ _ => False) I5 (stat I5 n5) st5 go
      refine thnF ti fun r s6 ⟨u, hr, h6⟩ => ?_
      subst hr
      refine thnF h6 fun _ s7 ⟨x, H7, I7, r7, y7, st7, n7⟩ => ?_
      have I7' := I7.pinned (stat I7 n7) (T.obj _ _ st7)
      refine thnF (pg _ s7 _ H7 x u _ I7' r7 (step x H7 y7)) fun _ s8 ⟨σ8, H8, I8, hw8, q8⟩ => ?_
      refine thnF (pt _ s8 σ8 H8 _ I8 q8) fun b s9 ⟨H9, I9, q9⟩ => ?_
      -- the turn's end
      have fin : ∀ {s' : Shared} {H' : Hp}, Inv (X.blk s3 H3 scope ce fp) ([] ++ pinsAt fp s7.heap) σ8 H' s' → Nx H' → ∃ m, m < n ∧ ∃ i H', Inv (X.blk s3 H3 scope ce fp) [] (wipe σ (own.map (·.2))) H' s' ∧ tn i s'.heap ∧ (∀ b ∈ fp, H' b = none) ∧ W i m H' := fun {s' H'} I' nx => by
        obtain ⟨m', hm, w'⟩ := hNx H' nx
        have pin' : ∀ b ∈ fp, ∀ o, s7.heap.get? b = some o → s'.heap.get? b = some o ∧ H' b = none := fun b hb o e =>
          let z := I'.pin (b, o) (List.mem_append_right _ (List.mem_append_right _ (mem_pinsAt hb e)))
          ⟨z.1, z.2.1⟩
        have hl : (wipe σ (own.map (·.2))).length = σ8.length := by rw [← hw8, wipe_length]
        refine ⟨m', hm, i + 1, H', (I'.unpinned (pins := [])).weak hl (fun j v e => ?_), T.keep _ _ _ st7 fun b hb o e => (pin' b hb o e).1, fun b hb => ?_, w'⟩
        · rw [← hw8] at e
          exact (wipe_some e).1
        · obtain ⟨o, e, _⟩ := T.obj _ _ st7 b hb
          exact (pin' b hb o e).2
      cases b with
      | false =>
        simp only [Bool.false_eq_true, if_false] at q9 ⊢
        exact fin I9 q9
      | true =>
        simp only [if_true] at q9 ⊢
        refine wpAny_mono (pe _ s9 σ8 H9 _ (I9.wish _) q9) (fun z s10 ⟨yv, H10, I10, r10, acc, hD10, hz10, nx⟩ => ?_) (fun e s' hb => hXX s3 H3 ce fp D e s' I3 cF cL (fun b hb => (f3 b hb).1.2.2.2.1) hb)
        exact app_ok (X := X.blk s3 H3 scope ce fp) I10.unwish hD10 hz10 r10 fun s11 I11 => fin I11 nx
  exact codeAny_compStart_list loop (T.self X.A 0 _ _ _ st4 loop)
theorem passB {Y : Cx} (h1 : Y.prog = X.prog) (h2 : Y.w = X.w) (h3 : Y.stack = X.stack) : Passes (CXR X.prog X.w Dd) (Y.wish (BX X Dd R Y)) (fun _ _ H' => R H') := by
  intro pins2 σ H1 s1 e s' I h
  obtain ⟨ea, a0, B, H', rfl, c, fl, r⟩ := h
  have c : Core X.prog X.w Y.stack H1 s1 H' B s' := c
  have fl : Heap.FlyingW B Y.stack ea (.ref Dd) a0 s'.heap := fl
  rw [h3] at c fl
  exact ⟨ea, a0, B, pins2, σ, H1, s1, H', rfl, I.unwish, c, fl, r⟩
end
theorem ff_but {B h h' : Heap} {C : Addr} (k : ∀ b, b ≠ C → h'.get? b = h.get? b) : ∀ {l : List Env}, (∀ b ∈ frs l, b ≠ C) → h.FunFrames B l → h'.FunFrames B l
  | [], _, _ => trivial
  | env :: l, n, ⟨a, ⟨L, o, b, c, d, e⟩, r⟩ => ⟨a, ⟨L, o, b, c, (k L (n L (List.mem_filterMap.mpr ⟨env, List.mem_cons_self .., b⟩))).trans d, e⟩, ff_but k (fun x hx => n x (frs_up hx)) r⟩
section
variable {P : Program} {w : World} {K : PySem.W.Frag} {mg : Str → Option Value} {base : Heap} {N : List Str} {qual : Str} {sc : Scope} {f : Addr} {cd : Value} {A : Around} {outer : List Env} {s : Shared} {H : Hp} {E : XK} {Dd : Addr}
theorem lc_exc {X : Cx} (hX : X = cxOf (CXR P w Dd) P w K mg base N qual sc f cd A outer s H E) {pins : List (Addr × Obj)} {σ : St} {H3 : Hp} {s3 s' : Shared} {ce : Env} {fp : List Addr} {scope : Scope} {use : Option (Value → Sem Unit)} {Qf : Value → Shared → Prop} {Dl : Addr} {e : Value}
    (I3 : Inv X pins σ H3 s3) (cF : ce.frame = X.env.frame) (cL : ce.locals = s3.heap.objs.size) (hfp : ∀ b ∈ fp, b ∈ X.ex ∨ X.s_0.heap.objs.size ≤ b) (hb : BX X Dd (fun H' => EX H E (.ref Dd) none H') (X.blk s3 H3 scope ce fp) e s') :
    notedBy (model X.prog X.w) X.A ce (fun x s2 => compPost (model X.prog X.w) X.A X.xe use Qf (.ref Dl) s3.heap.objs.size (.error x) s2) e s' := by
  obtain ⟨ea, a0, B, pb, σb, Hb, s0, H', rfl, Ib, c, fl, r1, r2⟩ := hb
  obtain ⟨c1, c2, c3⟩ := core_out hX I3
  have frm : X.A.frames = some (X.env :: X.outer) := by subst hX; exact I3.ok.frames
  have hfL : X.env.frame = some X.env.locals := by subst hX; rfl
  have hst : X.stack = X.env :: X.outer := by subst hX; rfl
  have e1 : noteFrame (.ref ea) ce = noteFrame (.ref ea) X.env := by unfold noteFrame PySem.frameOf; rw [cF]
  unfold notedBy
  rw [e1]
  rw [hst] at fl
  refine wpAny_looks_onW frm hfL fl fun h4 held up4 => ?_
  obtain ⟨m, hn, _⟩ := Ib.loc
  obtain ⟨o, es, ep, ho, hrest⟩ := hn
  have ho : s0.heap.get? ce.locals = some o := ho
  rw [cL] at ho
  have hbC : Hb s3.heap.objs.size = none := by have z : Hb ce.locals = none := Ib.free; rw [cL] at z; exact z
  have nfr : ∀ b ∈ frs X.stack, b ≠ s3.heap.objs.size := fun b m z => by
    obtain ⟨_, o', ho', _⟩ := I3.stack.mem m
    have := Heap.lt_size ho'
    rw [z] at this
    exact Nat.lt_irrefl _ this
  have bC : B.get? s3.heap.objs.size = some o := c.kept _ _ ho hbC fun m => nfr _ m rfl
  have h4C : h4.get? s3.heap.objs.size = some o := held.1 _ _ bC
  refine ⟨m, ⟨o, es, ep, h4C, hrest⟩, fun h' sb cenv _ => ?_⟩
  have same : ∀ b, b ≠ s3.heap.objs.size → h'.get? b = h4.get? b := fun b n => sb.2 b n
  have sub : (PySem.W.hideAll B [s3.heap.objs.size]).StaysIn B := fun b o q => PySem.W.of_hideAll _ q
  have hidN : ∀ b u, (PySem.W.hideAll B [s3.heap.objs.size]).get? b = some u → b ≠ s3.heap.objs.size := fun b u q z => by
    rw [z, PySem.W.hideAll_none [s3.heap.objs.size] (by simp)] at q; cases q
  have ne_of_B : ∀ b, B.get? b = none → b ≠ s3.heap.objs.size := fun b q z => by rw [z, bC] at q; cases q
  have st' : (PySem.W.hideAll B [s3.heap.objs.size]).StaysIn h' := fun b u q => (same b (hidN b u q)).trans (held.1 _ _ (sub b u q))
  have ff' : h'.FunFrames (PySem.W.hideAll B [s3.heap.objs.size]) (X.env :: X.outer) := ff_but same (by rw [← hst]; exact nfr) (PySem.W.funFrames_base sub held.2.2.1)
  have en' : (PySem.W.hideAll B [s3.heap.objs.size]).get? ea = none := PySem.W.fresh_of_stays sub held.2.1
  have tr' : h'.TracedAtW (PySem.W.hideAll B [s3.heap.objs.size]) ea (.ref Dd) a0 (rawInt X.env.locals) := by
    obtain ⟨oe, ws, tb, ot, us, g0, gc, gd, g1, gn, gne, gt, gtd, g3⟩ := held.2.2.2
    exact ⟨oe, ws, tb, ot, us, (same ea (ne_of_B ea held.2.1)).trans g0, gc, gd, g1, PySem.W.fresh_of_stays sub gn, gne, (same tb (ne_of_B tb gn)).trans gt, gtd, g3⟩
  refine go_on st' ff' tr' fun h5 fl' x1 x2 x3 x4 => ?_
  have nfp : ∀ b u, s.heap.get? b = some u → b ∉ fp := fun b u q m => by
    rcases hfp b m with z | z
    · subst hX; cases z
    · subst hX; exact absurd (Heap.lt_size q) (Nat.not_lt.mpr z)
  have nC : ∀ b u, s.heap.get? b = some u → b ≠ s3.heap.objs.size := fun b u q z => by
    have h1 := Heap.lt_size q
    have h2 : s.heap.objs.size ≤ s3.heap.objs.size := by have := I3.sz; subst hX; exact this
    rw [z] at h1
    exact absurd h1 (Nat.not_lt.mpr h2)
  have goal : wpAny (model P w) X.A (leaving X.env (.ref ea)) (fun _ s'' => CXR P w Dd outer H s E (.ref ea) s'') (fun e' s'' => CXR P w Dd outer H s E e' s'') { s' with heap := h5 } := by
    refine leave_any (bh := PySem.W.hideAll B [s3.heap.objs.size]) (s := { s' with heap := h5 }) frm hfL x1 en' x2 x3 fun h6 fl6 up6 => ?_
    have ho6 : X.outer = outer := by subst hX; rfl
    rw [ho6] at fl6
    refine ⟨ea, a0, _, H', rfl, ⟨?_, c.bare, r1, fun b u q n hf => ?_, fun b u q n hf => ?_, fun b u q n => ?_, ?_⟩, fl6, r2⟩
    · have z1 := c.os
      have z2 : s0.os = s3.os := Ib.os
      have z3 : s3.os = s.os := by have := I3.os; subst hX; exact this
      exact (z1.trans z2).trans z3
    · obtain ⟨y1, y2, y3⟩ := c1 b u q n hf
      have y4 := Ib.base.keep b u y1 y2 y3 (nfp b u q)
      have y5 := Ib.base.free b u y1 y2 (nfp b u q)
      refine PySem.W.hideAll_get _ (c.kept b u y4 y5 y3) fun z => nC b u q ?_
      simpa using z
    · obtain ⟨⟨sl, y1⟩, y2, y3, y4⟩ := c2 b u q n hf
      obtain ⟨sl2, y5⟩ := Ib.base.slot b _ y1 y2 y3 (nfp b u q)
      have y6 := Ib.base.free b _ y1 y2 (nfp b u q)
      obtain ⟨sl3, y7⟩ := c.slot b _ y5 y6 y3
      obtain ⟨sl4, y8⟩ := up4 b _ y7 y4
      have y9 := (same b (nC b u q)).trans y8
      obtain ⟨sl5, y10⟩ := x4 b _ y9 y4
      obtain ⟨sl6, y11⟩ := up6 b _ y10 y4
      exact ⟨sl6, y11⟩
    · have y0 := c3 b u q n
      cases m : decide (b ∈ frs outer) with
      | true =>
        obtain ⟨⟨sl, y1⟩, y2, y3, y4⟩ := c2 b u q n (of_decide_eq_true m)
        obtain ⟨sl2, y5⟩ := Ib.base.slot b _ y1 y2 y3 (nfp b u q)
        exact c.free b _ y5 (Ib.base.free b _ y1 y2 (nfp b u q))
      | false =>
        obtain ⟨y1, y2, y3⟩ := c1 b u q n (of_decide_eq_false m)
        exact c.free b _ (Ib.base.keep b u y1 y2 y3 (nfp b u q)) (Ib.base.free b u y1 y2 (nfp b u q))
    · have hok : HOk P w H' B := by have := c.hok; subst hX; exact this
      refine hok.hide fun b hb => ?_
      have : b = s3.heap.objs.size := by simpa using hb
      rw [this]
      exact c.free _ _ ho hbC
  subst hX
  exact goal
theorem ps_setLcX {i : Nat} {y : Str} {py : Pos} {elt tg iter : Expr} {ifs : List Expr} {scope : Scope} {own : List (Str × Nat)} {pos spos : Pos} {wi : TI} {g : TG} {tt : TT} {te : TE} {X : Cx} (hX : X = cxOf (CXR P w Dd) P w K mg base N qual sc f cd A outer s H E) (hc : X.calm = true) (hN : X.N.Nodup) (hy : X.N[i]? = some y) (hyl : X.env.scope.names.lookup y = some .local)
    (hsw : swapsWith (.ListComp elt [⟨tg, iter, ifs, 0⟩] scope pos) (some (.Name y py)) spos.line X.env = pure true) (hi : PI X tg iter wi) (ok : BlkOk X.N X.env.scope scope own)
    (hg : ∀ (s : Shared) (H : Hp) (C : Addr) (cl : List (Str × Addr)) (fp : List Addr), PG (X.blk s H scope (compEnvC scope cl C X.env) fp) tg g) (ht : ∀ (s : Shared) (H : Hp) (C : Addr) (cl : List (Str × Addr)) (fp : List Addr), PTs (X.blk s H scope (compEnvC scope cl C X.env) fp) ifs tt)
    (he : ∀ (s1 : Shared) (H1 : Hp) (C : Addr) (cl : List (Str × Addr)) (fp : List Addr), PE ((X.blk s1 H1 scope (compEnvC scope cl C X.env) fp).wish (BX X Dd (fun H' => EX H E (.ref Dd) none H') (X.blk s1 H1 scope (compEnvC scope cl C X.env) fp))) elt te) (hs : ∀ x, foldedSetIterable iter X.env x = pure x := by intro _; rfl) :
    PS X (.Assign [.Name y py] (.ListComp elt [⟨tg, iter, ifs, 0⟩] scope pos) spos) (tAsg (tLc wi g tt te (own.map (·.2))) (gName i)) := by
  intro pins s σ H D I h
  rw [exec_Assign_Name_used _ _ _ _ hsw]
  refine wpAny_bind (wpAny_standAt (wpAny_bind ?_))
  show wpAny _ X.A (do let _ ← comprehension (.ListComp elt [⟨tg, iter, ifs, 0⟩] scope pos) scope X.env (firstIterPos [⟨tg, iter, ifs, 0⟩] pos) (newList []) false (eval iter X.env) (some (assign (.Name y py) X.env))) _ _ s
  have h : tLc wi g tt te (own.map (·.2)) σ H (fun x H1 => gName i x σ H1 D.nx) := h
  refine wpAny_bind (thn (lc_coreX (Qf := fun _ s' => SP X pins D .next s') hc hN I hi ok hg ht he hs h (fun L C s' m H' I' q hn f => ?_) fun s3 H3 ce fp Dl e s' I3 cF cL hfp hb => lc_exc hX I3 cF cL hfp hb) fun _ s' hq => wpAny_pure (wpAny_pure hq))
  show wpAny _ _ (assign (.Name y py) X.env (.ref L)) _ _ _
  refine wpAny_assign_Name (store_ok2 (v := V.ref L) I' hN hy (.inl hyl) rfl (fun s2 I2 ⟨a, sb, ha⟩ => ?_) (.inr hyl))
  obtain ⟨f0, f1, f2, f3, f4, f5⟩ := f
  have haC : C ≠ a := by
    rcases ha with z | z
    · rw [z]; exact f1
    · exact fun e => f4 y a z e.symm
  refine ⟨m, hn.sameBut sb haC, fun h3 sb3 => ?_⟩
  exact ⟨_, H', I2.turned (t' := s2.toks) (fun b o hb e => (sb3.2 b hb).trans e) f0 f1 f3 f4 f5, q⟩
end
end L2
set_option Elab.async false
set_option linter.all false
set_option maxRecDepth 100000
set_option maxHeartbeats 2000000
namespace L2
open PySem PySem.Spec PyProof.Rows
structure DefT (K : PySem.W.Frag) (mg : Str → Option Value) (x : Str) (st : Stmt) (ps : List Str) : Prop where
  ex : ∃ f fd, Fun K x x st f fd ∧ Binds K fd ps [] ∧ mg x = some (.ref f)
structure DefOk (P : Program) (w : World) (K : PySem.W.Frag) (mg : Str → Option Value) (base : Heap) (x : Str) (ps : List Str) (k : Nat) (sp : Sp) : Prop where
  ex : ∃ f fd, mg x = some (.ref f) ∧ FnOk P w K mg base CX0 k f fd ps sp ∧ PySem.W.keepIn K (.ref f) = true ∧ Binds K fd ps []
section
variable {P : Program} {w : World} {K : PySem.W.Frag} {mg : Str → Option Value} {base : Heap}
theorem DefT.ok {x : Str} {st : Stmt} {N ps : List Str} {k : Nat} {sp : Sp} (D : DefT K mg x st ps) (S : FnScope N ps (defScope st)) (len : ∀ vs H Q E, sp vs H Q E → vs.length = ps.length)
    (hbody : ∀ (f : Addr) (cdv : Value) (A : Around) (outer : List Env) (s : Shared) (H : Hp) (vs : List V) (Q : VK) (E : XK), Room k (A.deeper (envOfC x (defScope st) s.heap.objs.size f cdv)) → sp vs H Q E →
      ∃ t, PSs (cxOf CX0 P w K mg base N x (defScope st) f cdv A outer s H E).nox (defBody st) t ∧ t { nx := fun _ H' => Q .non H', rt := Q } (start N vs) H) : DefOk P w K mg base x ps (k + 1) sp := by
  obtain ⟨f, fd, F, b, m⟩ := D.ex
  exact ⟨f, fd, m, F.ok S len fun cdv A outer s H vs Q E hr h => hbody f cdv A outer s H vs Q E hr h, F.kp, b⟩
theorem pe_callD {X : Cx} {x : Str} {ps : List Str} {k : Nat} {sp : Sp} {e : Expr} {es : List Expr} {t : TA} {p pos : Pos} (D : DefOk X.prog X.w X.K X.mg X.base x ps k sp) (hr : Room k X.A) (hg : Gl X x) (ha : PA X (e :: es) t)
    (he : starEach (e :: es) X.env = (false, eval e X.env) :: starEach es X.env := by rfl) (hpl : (backTo pos (starEach es X.env)).any (·.1) = false := by rfl) (hdb : (x == ("__debug__" : Str)) = false := by decide) : PE X (.Call (.Name x p) (e :: es) [] pos) (tCall sp [] E0 t) := by
  obtain ⟨f, fd, m, F, kp, b⟩ := D.ex
  exact pe_call F hr hg m kp b .nil pass0 ha hdb he hpl
theorem goT {c : Bool} {A B : Prop} (hc : c = true) (h : A) : if c = true then A else B := by rw [if_pos hc]; exact h
theorem goF {c : Bool} {A B : Prop} (hc : c = false) (h : B) : if c = true then A else B := by rw [if_neg (by rw [hc]; decide)]; exact h
theorem pe_gint {X : Cx} {x : Str} {i : Int} {pos : Pos} (hg : Gl X x) (h : ∃ t, X.mg x = some (.int i t)) (hd : (x == ("__debug__" : Str)) = false := by decide) : PE X (.Name x pos) (tC (.int i)) := by
  obtain ⟨t, h⟩ := h
  exact pe_glob (v := .int i) hg h ⟨t, rfl⟩ hd
theorem DefT.mk_ {h : Heap} {x : Str} {st : Stmt} {ps : List Str} {f : Addr} {oc kV doc pm cdv ct : Value} {od an : Option Addr} {osl : Array (Option Value)} (X : K.In h) (G : h.Ns mainGlobals mg) (a : PySem.W.nsIn K mainGlobals x = some (some (.ref f)))
    (l : K.lookup f = some ⟨oc, od, .func (PySem.W.fnOf x x (defArgs st) (defBody st) (defScope st) .none kV doc pm an cdv ct), osl⟩) (c : PySem.W.codeIn K cdv x = true) (k : PySem.W.keepIn K (.ref f) = true)
    (hb : ∀ (kV doc pm : Value) (an : Option Addr) (cdv ct : Value) (us : List Value), us.length = ps.length → bindArgs (PySem.W.fnOf x x (defArgs st) (defBody st) (defScope st) .none kV doc pm an cdv ct) ⟨us, []⟩ = pure (ps.zip us)) : DefT K mg x st ps :=
  ⟨f, _, fun_mk (st := st) l c k, (fun_mk (st := st) l c k).binds hb, PySem.W.mg_of X G a⟩
structure ClsT (K : PySem.W.Frag) (mg : Str → Option Value) (x : Str) (st : Stmt) (ps fs : List Str) (C : Addr) : Prop where
  cl : Cls K C
  no : ∀ f, f ∈ fs → NoAttr K C f
  at_ : mg x = some (.ref C)
  ex : ∃ fI fd, Mk K C fI ∧ Fun K "__init__" (x ++ ".__init__") st fI fd ∧ Binds K fd ps []
def TupK (K : PySem.W.Frag) (a : Addr) (xs : List V) : Prop := ∃ (o : Obj) (its : Array Value) (n : Nat), K.lookup a = some o ∧ o.cls = .type "tuple" ∧ o.data = .seq its n ∧ its.size ≤ sizeLine ∧ Vals xs its.toList
theorem TupK.sq {a : Addr} {xs : List V} (h : TupK K a xs) (H : Hp) : SqT K H a xs := .inr h
structure TabT (K : PySem.W.Frag) (mg : Str → Option Value) (x : Str) (rows : List (List Int)) : Prop where
  ex : ∃ (a : Addr) (ts : List Addr), mg x = some (.ref a) ∧ TupK K a (ts.map V.ref) ∧ ts.length = rows.length ∧ ∀ (i : Nat) t r, ts[i]? = some t → rows[i]? = some r → TupK K t (r.map V.int)
structure DefX (P : Program) (w : World) (K : PySem.W.Frag) (mg : Str → Option Value) (base : Heap) (D : Addr) (x : Str) (ps : List Str) (k : Nat) (sp : Sp) : Prop where
  ex : ∃ f fd, mg x = some (.ref f) ∧ FnOk P w K mg base (CXR P w D) k f fd ps sp ∧ PySem.W.keepIn K (.ref f) = true ∧ Binds K fd ps []
theorem DefT.okX {x : Str} {st : Stmt} {N ps : List Str} {k : Nat} {sp : Sp} {D : Addr} (T : DefT K mg x st ps) (S : FnScope N ps (defScope st)) (len : ∀ vs H Q E, sp vs H Q E → vs.length = ps.length)
    (hbody : ∀ (f : Addr) (cdv : Value) (A : Around) (outer : List Env) (s : Shared) (H : Hp) (vs : List V) (Q : VK) (E : XK), Room k (A.deeper (envOfC x (defScope st) s.heap.objs.size f cdv)) → sp vs H Q E →
      ∃ t, PSs (cxOf (CXR P w D) P w K mg base N x (defScope st) f cdv A outer s H E) (defBody st) t ∧ t { nx := fun _ H' => Q .non H', rt := Q } (start N vs) H) : DefX P w K mg base D x ps (k + 1) sp := by
  obtain ⟨f, fd, F, b, m⟩ := T.ex
  refine ⟨f, fd, m, ?_, F.kp, b⟩
  obtain ⟨oc, od, kV, doc, pm, an, cdv, ct, osl, rfl, lk, hcd⟩ := F.ex
  exact fn_of lk hcd S len fun A outer s H vs Q E hr hsp => hbody f cdv A outer s H vs Q E hr hsp
theorem pe_callX {X : Cx} {D : Addr} {x : Str} {ps : List Str} {k : Nat} {sp : Sp} {E : XK} {e : Expr} {es : List Expr} {t : TA} {p pos : Pos} (T : DefX X.prog X.w X.K X.mg X.base D x ps k sp) (hx : Passes (CXR X.prog X.w D) X E) (hr : Room k X.A) (hg : Gl X x) (ha : PA X (e :: es) t)
    (he : starEach (e :: es) X.env = (false, eval e X.env) :: starEach es X.env := by rfl) (hpl : (backTo pos (starEach es X.env)).any (·.1) = false := by rfl) (hdb : (x == ("__debug__" : Str)) = false := by decide) : PE X (.Call (.Name x p) (e :: es) [] pos) (tCall sp [] E t) := by
  obtain ⟨f, fd, m, F, kp, b⟩ := T.ex
  exact pe_call F hr hg m kp b .nil hx ha hdb he hpl
end
end L2
set_option Elab.async false
set_option linter.all false
set_option maxRecDepth 100000
set_option maxHeartbeats 2000000
namespace PK
open PySem PySem.Spec PyProof.Rows L2 PM
structure Txt (K : PySem.W.Frag) (mg : Str → Option Value) (C D : Addr) : Prop where
  len : mg "len" = none
  max : mg "max" = none
  min : mg "min" = none
  sum : mg "sum" = none
  any : mg "any" = none
  range : mg "range" = none
  enumerate : mg "enumerate" = none
  list : mg "list" = none
  BEYOND : ∃ t, mg "BEYOND" = some (.int 4294967297 t)
  PLAIN_FRONT : ∃ t, mg "PLAIN_FRONT" = some (.int 12346 t)
  RUNS_FRONT : ∃ t, mg "RUNS_FRONT" = some (.int 12347 t)
  PART : ∃ t, mg "PART" = some (.int 65536 t)
  MOST_PARTS : ∃ t, mg "MOST_PARTS" = some (.int 65536 t)
  MOST_LISTED : ∃ t, mg "MOST_LISTED" = some (.int 4096 t)
  BITS_SIZE : ∃ t, mg "BITS_SIZE" = some (.int 8192 t)
  FEWEST_WITH_PLACES : ∃ t, mg "FEWEST_WITH_PLACES" = some (.int 4 t)
  OUT_OF_RANGE : ∃ t, mg "OUT_OF_RANGE" = some (.int (-2) t)
  NOT_A_SET : ∃ t, mg "NOT_A_SET" = some (.int (-3) t)
  NO_ROOM : ∃ t, mg "NO_ROOM" = some (.int (-7) t)
  MOST_ROOM : ∃ t, mg "MOST_ROOM" = some (.int 16777216 t)
  LAST_HOW : ∃ t, mg "LAST_HOW" = some (.int 3 t)
  add_span : DefT K mg "add_span" s_add_span ["edges", "first", "end"]
  count_numbers : DefT K mg "count_numbers" s_count_numbers ["edges"]
  join_edges : DefT K mg "join_edges" s_join_edges ["how", "left", "right"]
  is_listed : DefT K mg "is_listed" s_is_listed ["count"]
  plain_size : DefT K mg "plain_size" s_plain_size ["count"]
  runs_size : DefT K mg "runs_size" s_runs_size ["run_count"]
  marks_size : DefT K mg "marks_size" s_marks_size ["part_count"]
  keys_place : DefT K mg "keys_place" s_keys_place ["part_count", "with_runs"]
  tells_places : DefT K mg "tells_places" s_tells_places ["part_count", "with_runs"]
  front_size : DefT K mg "front_size" s_front_size ["part_count", "with_runs"]
  require : DefT K mg "require" s_require ["holds"]
  number_at : DefT K mg "number_at" s_number_at ["a", "place", "size"]
  plain_marks : DefT K mg "plain_marks" s_plain_marks ["a"]
  runs_marks : DefT K mg "runs_marks" s_runs_marks ["a", "part_count"]
  read_marks : DefT K mg "read_marks" s_read_marks ["a"]
  read_keys : DefT K mg "read_keys" s_read_keys ["a", "part_count", "place"]
  read_runs : DefT K mg "read_runs" s_read_runs ["a", "place"]
  read_list : DefT K mg "read_list" s_read_list ["a", "place", "count"]
  read_bits : DefT K mg "read_bits" s_read_bits ["a", "place"]
  read_part : DefT K mg "read_part" s_read_part ["a", "place", "mark", "count"]
  read_size : DefT K mg "read_size" s_read_size ["mark", "count", "part_edges"]
  add_part : DefT K mg "add_part" s_add_part ["edges", "key", "part_edges"]
  read_edges : DefT K mg "read_edges" s_read_edges ["a"]
  cut_into_parts : DefT K mg "cut_into_parts" s_cut_into_parts ["edges"]
  size_as_runs : DefT K mg "size_as_runs" s_size_as_runs ["part"]
  size_as_plain : DefT K mg "size_as_plain" s_size_as_plain ["part"]
  plan_parts : DefT K mg "plan_parts" s_plan_parts ["edges", "runs"]
  has_runs : DefT K mg "has_runs" s_has_runs ["parts"]
  part_size : DefT K mg "part_size" s_part_size ["part"]
  set_size : DefT K mg "set_size" s_set_size ["parts"]
  number_bytes : DefT K mg "number_bytes" s_number_bytes ["number", "size"]
  numbers_within : DefT K mg "numbers_within" s_numbers_within ["part"]
  runs_bytes : DefT K mg "runs_bytes" s_runs_bytes ["part"]
  list_bytes : DefT K mg "list_bytes" s_list_bytes ["part"]
  bits_bytes : DefT K mg "bits_bytes" s_bits_bytes ["part"]
  part_bytes : DefT K mg "part_bytes" s_part_bytes ["part"]
  marks_bytes : DefT K mg "marks_bytes" s_marks_bytes ["parts"]
  first_bytes : DefT K mg "first_bytes" s_first_bytes ["parts"]
  keys_bytes : DefT K mg "keys_bytes" s_keys_bytes ["parts"]
  places_bytes : DefT K mg "places_bytes" s_places_bytes ["parts"]
  set_bytes : DefT K mg "set_bytes" s_set_bytes ["parts"]
  may_join : DefT K mg "may_join" s_may_join ["how"]
  may_fill : DefT K mg "may_fill" s_may_fill ["room"]
  may_write : DefT K mg "may_write" s_may_write ["runs", "room"]
  answer_set : DefT K mg "answer_set" s_answer_set ["edges", "runs", "room"]
  join : DefT K mg "join" s_join ["how", "runs", "room", "a", "b"]
  Part : ClsT K mg "Part" s_Part_init ["self", "key"] ["key", "edges", "as_runs"] C
  NotASet : ExcT K mg "NotASet" D
  IN_JOINED : TabT K mg "IN_JOINED" [[0, 0, 0, 1], [0, 1, 1, 1], [0, 1, 1, 0], [0, 0, 1, 0]]
end PK
set_option Elab.async false
set_option linter.all false
set_option maxRecDepth 100000
set_option maxHeartbeats 2000000
namespace PK
open PySem PySem.Spec PyProof.Rows L2 PM
section
variable {P : Program} {w : World} {K : PySem.W.Frag} {mg : Str → Option Value} {base : Heap} {C D : Addr}
def sp_is_listed : Sp := fun vs H Q _ => ∃ n : Int, vs = [.int n] ∧ Q (.bl (decide (n ≤ 4096))) H
theorem sc_is_listed : FnScope ["count"] ["count"] (defScope s_is_listed) := ⟨rfl, rfl, rfl, by decide +kernel, rfl, by decide +kernel, by decide +kernel⟩
theorem ok_is_listed (T : Txt K mg C D) : DefOk P w K mg base "is_listed" ["count"] 1 sp_is_listed := by
  refine T.is_listed.ok sc_is_listed (fun vs H Q E h => ?_) (fun f cdv A outer s H vs Q E hr h => ?_)
  · obtain ⟨n, rfl, _⟩ := h; rfl
  · obtain ⟨n, rfl, k⟩ := h
    have gT := T.MOST_LISTED
    refine ⟨_, pss_one (ps_ret (pe_cmpR op_le (pv 0) (pe_gint rfl gT) (nomark _))), ?_⟩
    exact ⟨_, rfl, _, _, rfl, rfl, k⟩
def plainI (n : Int) : Int := if n ≤ 4096 then 2 * n else 8192
def sp_plain_size : Sp := fun vs H Q _ => ∃ n : Int, vs = [.int n] ∧ Q (.int (plainI n)) H
theorem sc_plain_size : FnScope ["count"] ["count"] (defScope s_plain_size) := ⟨rfl, rfl, rfl, by decide +kernel, rfl, by decide +kernel, by decide +kernel⟩
theorem ok_plain_size (T : Txt K mg C D) : DefOk P w K mg base "plain_size" ["count"] 2 sp_plain_size := by
  refine T.plain_size.ok sc_plain_size (fun vs H Q E h => ?_) (fun f cdv A outer s H vs Q E hr h => ?_)
  · obtain ⟨n, rfl, _⟩ := h; rfl
  · obtain ⟨n, rfl, k⟩ := h
    have gT := T.BITS_SIZE
    refine ⟨_, pss_one (ps_ret (pe_ifExp (pt_val (pe_callD (ok_is_listed T) hr rfl (pa_cons (pv 0) pa_nil))) (pe_op op_mul pe_int (pv 0)) (pe_gint rfl gT))), ?_⟩
    refine ⟨_, rfl, n, rfl, _, rfl, ?_⟩
    unfold plainI at k
    by_cases c : n ≤ 4096
    · rw [if_pos c] at k
      rw [if_pos (decide_eq_true c)]
      exact ⟨_, rfl, _, _, rfl, rfl, .inl ⟨by decide, by decide⟩, k⟩
    · rw [if_neg c] at k
      rw [if_neg (by simpa using c)]
      exact k
def sp_runs_size : Sp := fun vs H Q _ => ∃ n : Int, vs = [.int n] ∧ Q (.int (2 + 4 * n)) H
theorem sc_runs_size : FnScope ["run_count"] ["run_count"] (defScope s_runs_size) := ⟨rfl, rfl, rfl, by decide +kernel, rfl, by decide +kernel, by decide +kernel⟩
theorem ok_runs_size (T : Txt K mg C D) : DefOk P w K mg base "runs_size" ["run_count"] 1 sp_runs_size := by
  refine T.runs_size.ok sc_runs_size (fun vs H Q E h => ?_) (fun f cdv A outer s H vs Q E hr h => ?_)
  · obtain ⟨n, rfl, _⟩ := h; rfl
  · obtain ⟨n, rfl, k⟩ := h
    refine ⟨_, pss_one (ps_ret (pe_op op_add pe_int (pe_op op_mul pe_int (pv 0)))), ?_⟩
    exact ⟨_, rfl, _, _, rfl, rfl, .inl ⟨by decide, by decide⟩, _, _, rfl, rfl, k⟩
def sp_marks_size : Sp := fun vs H Q _ => ∃ n : Int, vs = [.int n] ∧ Q (.int ((n + 7) / 8)) H
theorem sc_marks_size : FnScope ["part_count"] ["part_count"] (defScope s_marks_size) := ⟨rfl, rfl, rfl, by decide +kernel, rfl, by decide +kernel, by decide +kernel⟩
theorem ok_marks_size (T : Txt K mg C D) : DefOk P w K mg base "marks_size" ["part_count"] 1 sp_marks_size := by
  refine T.marks_size.ok sc_marks_size (fun vs H Q E h => ?_) (fun f cdv A outer s H vs Q E hr h => ?_)
  · obtain ⟨n, rfl, _⟩ := h; rfl
  · obtain ⟨n, rfl, k⟩ := h
    refine ⟨_, pss_one (ps_ret (pe_op op_fdiv (pe_op op_add (pv 0) pe_int) pe_int)), ?_⟩
    exact ⟨_, rfl, _, _, rfl, rfl, _, _, rfl, rfl, ⟨by decide, by decide⟩, k⟩
def keysI (n : Int) (b : Bool) : Int := if b = true then 4 + (n + 7) / 8 else 8
def sp_keys_place : Sp := fun vs H Q _ => ∃ (n : Int) (b : Bool), vs = [.int n, .bl b] ∧ Q (.int (keysI n b)) H
theorem sc_keys_place : FnScope ["part_count", "with_runs"] ["part_count", "with_runs"] (defScope s_keys_place) := ⟨rfl, rfl, rfl, by decide +kernel, rfl, by decide +kernel, by decide +kernel⟩
theorem ok_keys_place (T : Txt K mg C D) : DefOk P w K mg base "keys_place" ["part_count", "with_runs"] 2 sp_keys_place := by
  refine T.keys_place.ok sc_keys_place (fun vs H Q E h => ?_) (fun f cdv A outer s H vs Q E hr h => ?_)
  · obtain ⟨n, b, rfl, _⟩ := h; rfl
  · obtain ⟨n, b, rfl, k⟩ := h
    refine ⟨_, pss_one (ps_ret (pe_ifExp (pt_val (pv 1)) (pe_op op_add pe_int (pe_callD (ok_marks_size T) hr rfl (pa_cons (pv 0) pa_nil))) pe_int)), ?_⟩
    refine ⟨_, rfl, _, rfl, ?_⟩
    unfold keysI at k
    cases b with
    | true => exact ⟨_, rfl, n, rfl, _, _, rfl, rfl, k⟩
    | false => exact k
def tellsB (n : Int) (b : Bool) : Bool := !b || decide (4 ≤ n)
def sp_tells_places : Sp := fun vs H Q _ => ∃ (n : Int) (b : Bool), vs = [.int n, .bl b] ∧ Q (.bl (tellsB n b)) H
theorem sc_tells_places : FnScope ["part_count", "with_runs"] ["part_count", "with_runs"] (defScope s_tells_places) := ⟨rfl, rfl, rfl, by decide +kernel, rfl, by decide +kernel, by decide +kernel⟩
theorem ok_tells_places (T : Txt K mg C D) : DefOk P w K mg base "tells_places" ["part_count", "with_runs"] 1 sp_tells_places := by
  refine T.tells_places.ok sc_tells_places (fun vs H Q E h => ?_) (fun f cdv A outer s H vs Q E hr h => ?_)
  · obtain ⟨n, b, rfl, _⟩ := h; rfl
  · obtain ⟨n, b, rfl, k⟩ := h
    have gT := T.FEWEST_WITH_PLACES
    refine ⟨_, pss_one (ps_ret (pe_or (pe_not (pv 1)) (pe_one (pe_cmpR op_ge (pv 0) (pe_gint rfl gT) (nomark _))))), ?_⟩
    refine ⟨_, rfl, _, rfl, _, rfl, ?_⟩
    unfold tellsB at k
    cases b with
    | true => exact ⟨_, rfl, _, _, rfl, rfl, k⟩
    | false => exact k
def frontI (n : Int) (b : Bool) : Int := keysI n b + (if tellsB n b = true then 8 else 4) * n
def sp_front_size : Sp := fun vs H Q _ => ∃ (n : Int) (b : Bool), vs = [.int n, .bl b] ∧ Q (.int (frontI n b)) H
theorem sc_front_size : FnScope ["part_count", "with_runs", "entry"] ["part_count", "with_runs"] (defScope s_front_size) := ⟨rfl, rfl, rfl, by decide +kernel, rfl, by decide +kernel, by decide +kernel⟩
theorem ok_front_size (T : Txt K mg C D) : DefOk P w K mg base "front_size" ["part_count", "with_runs"] 3 sp_front_size := by
  refine T.front_size.ok sc_front_size (fun vs H Q E h => ?_) (fun f cdv A outer s H vs Q E hr h => ?_)
  · obtain ⟨n, b, rfl, _⟩ := h; rfl
  · obtain ⟨n, b, rfl, k⟩ := h
    refine ⟨_, pss_cons (ps_set (i := 2) sc_front_size.nd rfl (Or.inl rfl) (pe_ifExp (pt_val (pe_callD (ok_tells_places T) (hr.mono (by decide)) rfl (pa_cons (pv 0) (pa_cons (pv 1) pa_nil)))) pe_int pe_int))
      (pss_one (ps_ret (pe_op op_add (pe_callD (ok_keys_place T) hr rfl (pa_cons (pv 0) (pa_cons (pv 1) pa_nil))) (pe_op op_mul (pv 2) (pv 0))))), ?_⟩
    refine ⟨_, rfl, _, rfl, n, b, rfl, _, rfl, ?_⟩
    unfold frontI at k
    cases e : tellsB n b with
    | true =>
      rw [e] at k
      exact ⟨_, rfl, _, rfl, n, b, rfl, _, rfl, _, rfl, _, _, rfl, rfl, .inl ⟨by decide, by decide⟩, _, _, rfl, rfl, k⟩
    | false =>
      rw [e] at k
      exact ⟨_, rfl, _, rfl, n, b, rfl, _, rfl, _, rfl, _, _, rfl, rfl, .inl ⟨by decide, by decide⟩, _, _, rfl, rfl, k⟩
def flV (l : List Sv14.Span) : List V := (fl l).map V.int
theorem flV_len (l : List Sv14.Span) : (flV l).length = 2 * l.length := by unfold flV; rw [List.length_map, fl_length]
def sp_count_numbers (K : PySem.W.Frag) : Sp := fun vs H Q _ => ∃ (a : Addr) (l : List Sv14.Span), vs = [.ref a] ∧ SqL K H a (flV l) ∧ Ok l ∧ ∀ H', Same H H' → Q (.int (Sv14.sizeOf_ l)) H'
theorem sc_count_numbers : FnScope ["edges"] ["edges"] (defScope s_count_numbers) := ⟨rfl, rfl, rfl, by decide +kernel, rfl, by decide +kernel, by decide +kernel⟩
theorem Same.new {H : Hp} {p : Addr} {o : HO} (h : H p = none) : Same H (upd H p o) := fun b u e => by rw [upd_ne (ne_of_none e h)]; exact e
theorem ok_count_numbers (T : Txt K mg C D) : DefOk P w K mg base "count_numbers" ["edges"] 1 (sp_count_numbers K) := by
  refine T.count_numbers.ok sc_count_numbers (fun vs H Q E h => ?_) (fun f cdv A outer s H vs Q E hr h => ?_)
  · obtain ⟨a, l, rfl, _⟩ := h; rfl
  · obtain ⟨a, l, rfl, ha, hok, k⟩ := h
    refine ⟨_, pss_one (ps_ret (pe_op op_sub (pe_callB (cr_sum rfl) rfl T.sum (by rfl) (pa_cons (pe_step2 (k := 1) (pv 0)) pa_nil)) (pe_callB (cr_sum rfl) rfl T.sum (by rfl) (pa_cons (pe_step2 (k := 0) (pv 0)) pa_nil)))), ?_⟩
    refine ⟨_, rfl, a, _, rfl, ha, fun p hp => ?_⟩
    have e1 : evens ((flV l).drop 1) = (evens ((fl l).drop 1)).map V.int := by unfold flV; rw [← List.map_drop, evens_map]
    have e2 : evens ((flV l).drop 0) = (evens (fl l)).map V.int := by unfold flV; rw [List.drop_zero, evens_map]
    rw [e1]
    have s1 := Same.new (o := .lst ((evens ((fl l).drop 1)).map V.int)) hp
    refine ⟨p, _, rfl, SqL.of upd_same, _, rfl, a, _, rfl, s1.seq ha, fun q hq => ?_⟩
    rw [e2]
    refine ⟨q, _, rfl, SqL.of upd_same, _, _, rfl, rfl, ?_⟩
    show Q (.int _) _
    rw [evens_fl, odds_fl, count_fl l hok]
    exact k _ (s1.trans (Same.new hq))
theorem sizeLine_val : sizeLine = 16777216 := by decide
theorem flV_snoc (l : List Sv14.Span) (s : Sv14.Span) : flV (l ++ [s]) = flV l ++ [V.int s.1] ++ [V.int ((s.2 : Int) + 1)] := by
  unfold flV; rw [fl_snoc, List.map_append, List.append_assoc]; rfl
def sp_add_span : Sp := fun vs H Q _ => ∃ (a : Addr) (o : List Sv14.Span) (s : Sv14.Span), vs = [.ref a, .int s.1, .int ((s.2 : Int) + 1)] ∧ H a = some (.lst (flV o.reverse)) ∧ 2 * o.length + 2 < sizeLine ∧ Q .non (upd H a (.lst (flV (mstep o s).reverse)))
theorem sc_add_span : FnScope ["edges", "first", "end"] ["edges", "first", "end"] (defScope s_add_span) := ⟨rfl, rfl, rfl, by decide +kernel, rfl, by decide +kernel, by decide +kernel⟩
theorem ixN_last (n : Nat) : ixN (n + 1) (-1) = some n := by
  unfold ixN
  rw [if_neg (by decide), if_pos (by omega)]
  congr 1
  omega
theorem ok_add_span (T : Txt K mg C D) : DefOk P w K mg base "add_span" ["edges", "first", "end"] 1 sp_add_span := by
  refine T.add_span.ok sc_add_span (fun vs H Q E h => ?_) (fun f cdv A outer s H vs Q E hr h => ?_)
  · obtain ⟨a, o, sp, rfl, _⟩ := h; rfl
  · obtain ⟨a, o, sp, rfl, ha, hlen, k⟩ := h
    refine ⟨_, pss_one (ps_if (pw_and (pt_cmpR op_gt (pe_callB call_len_seq (by rfl) T.len PySem.boot_len (pa_cons (pv 0) pa_nil)) pe_int (nomark _)) (pw_and1 (pt_cmpR op_le (pv 1) (pe_ix ix_list (pv 0) (pe_un un_neg pe_int) (fun _ _ => rfl)) (nomark _)))).pt
      (pss_one (ps_asg (pe_callB (call_max2 rfl) (by rfl) T.max (by rfl) (pa_cons (pe_ix ix_list (pv 0) (pe_un un_neg pe_int) (fun _ _ => rfl)) (pa_cons (pv 2) pa_nil))) (pg_sub (pv 0) (pe_un un_neg pe_int) set_list)))
      (pss_cons (ps_expr (pe_bm PySem.F.plainAttrs_list PySem.F.slot_list_append PySem.F.type_list_append mt_append (pv 0) (pa_cons (pv 1) pa_nil)))
        (pss_one (ps_expr (pe_bm PySem.F.plainAttrs_list PySem.F.slot_list_append PySem.F.type_list_append mt_append (pv 0) (pa_cons (pv 2) pa_nil)))))), ?_⟩
    have app : (mstep o sp) = sp :: o → tSeq (tDrop (tBM K "list" rAppend (tVar 0) (tCons (tVar 1) tNil))) (tDrop (tBM K "list" rAppend (tVar 0) (tCons (tVar 2) tNil))) { nx := fun _ H' => Q .non H', rt := Q } (start ["edges", "first", "end"] [.ref a, .int sp.1, .int ((sp.2 : Int) + 1)]) H := by
      intro e
      refine ⟨_, rfl, .inl ⟨rfl, _, SqL.of ha⟩, _, rfl, a, _, _, rfl, rfl, ha, by rw [flV_len, List.length_reverse]; omega, ?_⟩
      refine ⟨_, rfl, .inl ⟨rfl, _, SqL.of upd_same⟩, _, rfl, a, _, _, rfl, rfl, upd_same, by rw [List.length_append, flV_len, List.length_reverse]; show _ + 1 < _; omega, ?_⟩
      rw [upd_upd]
      show Q _ _
      rw [e, List.reverse_cons, flV_snoc] at k
      exact k
    refine ⟨_, rfl, a, _, rfl, .inl (SqL.of ha), _, _, rfl, rfl, _, rfl, ?_⟩
    cases o with
    | nil =>
      refine iteF ?_
      exact iteF (app rfl)
    | cons p r =>
      have e0 : flV (p :: r).reverse = flV r.reverse ++ [V.int p.1] ++ [V.int ((p.2 : Int) + 1)] := by rw [List.reverse_cons, flV_snoc]
      rw [e0] at ha ⊢
      refine goT (by rw [List.length_append]; simp only [List.length_cons, List.length_nil]; exact decide_eq_true (by omega)) ?_
      refine ⟨_, rfl, _, rfl, _, rfl, a, _, _, _, rfl, rfl, SqL.of ha, atI_last _ _, _, _, rfl, rfl, _, rfl, ?_⟩
      by_cases c : sp.1 ≤ p.2 + 1
      · refine goT (decide_eq_true (by omega)) ?_
        refine ⟨_, rfl, _, rfl, a, _, _, _, rfl, rfl, SqL.of ha, atI_last _ _, _, rfl, _, _, rfl, ?_⟩
        refine ⟨_, rfl, _, rfl, a, _, _, _, rfl, rfl, ha, by rw [List.length_append]; exact ixN_last _, ?_⟩
        show Q _ _
        have e1 : mstep (p :: r) sp = (p.1, Nat.max p.2 sp.2) :: r := by unfold mstep; dsimp only; rw [if_pos c]
        rw [e1, List.reverse_cons, flV_snoc] at k
        have e2 : (flV r.reverse ++ [V.int (p.1 : Int)] ++ [V.int ((p.2 : Int) + 1)]).set (flV r.reverse ++ [V.int (p.1 : Int)]).length (V.int (if (sp.2 : Int) + 1 > (p.2 : Int) + 1 then (sp.2 : Int) + 1 else (p.2 : Int) + 1))
            = flV r.reverse ++ [V.int (p.1 : Int)] ++ [V.int (((Nat.max p.2 sp.2 : Nat) : Int) + 1)] := by
          rw [List.set_append_right _ _ (Nat.le_refl _), Nat.sub_self]
          congr 1
          show [V.int _] = [V.int _]
          congr 2
          show _ = ((max p.2 sp.2 : Nat) : Int) + 1
          split <;> omega
        rw [e2]
        exact k
      · refine goF (decide_eq_false (by omega)) ?_
        refine app ?_
        unfold mstep; dsimp only; rw [if_neg c]
theorem take_snoc {α : Type} : ∀ {l : List α} {i : Nat} {x : α}, l[i]? = some x → l.take (i + 1) = l.take i ++ [x]
  | [], i, x, h => by simp at h
  | a :: l, 0, x, h => by
    have e : a = x := Option.some.inj h
    subst e
    rfl
  | a :: l, i + 1, x, h => by
    have ih := take_snoc (l := l) (i := i) (x := x) h
    show a :: l.take (i + 1) = a :: l.take i ++ [x]
    rw [ih]
    rfl
end
end PK
namespace PK
open PySem PySem.Spec PyProof.Rows L2 PM
section
variable {P : Program} {w : World} {K : PySem.W.Frag} {mg : Str → Option Value} {base : Heap} {C D : Addr}
def pf (k : Nat) (e : Addr) (r : Bool) : List (Str × V) := [("key", .int k), ("edges", .ref e), ("as_runs", .bl r)]
theorem pf_key {k : Nat} {e : Addr} {r : Bool} : (pf k e r).lookup ("key" : Str) = some (.int k) := by rfl
theorem pf_edges {k : Nat} {e : Addr} {r : Bool} : (pf k e r).lookup ("edges" : Str) = some (.ref e) := by rfl
theorem pf_runs {k : Nat} {e : Addr} {r : Bool} : (pf k e r).lookup ("as_runs" : Str) = some (.bl r) := by rfl
theorem pf_set {k : Nat} {e : Addr} {r r' : Bool} : putF "as_runs" (.bl r') (pf k e r) = pf k e r' := by
  unfold pf
  simp only [putF]
  rw [if_neg (by decide +kernel), if_neg (by decide +kernel), if_pos trivial]
theorem putF_len (f : Str) (v : V) : ∀ fs : List (Str × V), (putF f v fs).length ≤ fs.length + 1
  | [] => Nat.le_refl _
  | (g, x) :: r => by
    have := putF_len f v r
    simp only [putF]
    split
    · simp
    · simp only [List.length_cons]; omega
theorem pf_new {k : Nat} {e : Addr} : putF "as_runs" (.bl false) (putF "edges" (.ref e) (putF "key" (.int k) [])) = pf k e false := by
  unfold pf
  simp only [putF]
  rw [if_neg (by decide +kernel)]
  simp only [putF]
  rw [if_neg (by decide +kernel), if_neg (by decide +kernel)]
def sp_init (C : Addr) : Sp := fun vs H Q _ => ∃ (p dx : Addr) (k : Nat), vs = [.ref p, .int k] ∧ H p = some (.ins C dx []) ∧
  ∀ (H' : Hp) (e : Addr), H e = none → e ≠ p → H' p = some (.ins C dx (pf k e false)) → H' e = some (.lst []) → (∀ b o, H b = some o → b ≠ p → H' b = some o) → Q .non H'
theorem sc_init : FnScope ["self", "key"] ["self", "key"] (defScope s_Part_init) := ⟨rfl, rfl, rfl, by decide +kernel, rfl, by decide +kernel, by decide +kernel⟩
theorem ok_init {f : Addr} {fd : FuncData} (F : Fun K "__init__" "Part.__init__" s_Part_init f fd) (T : Txt K mg C D) : FnOk P w K mg base CX0 1 f fd ["self", "key"] (sp_init C) := by
  have cl := T.Part.cl
  have n1 := T.Part.no "key" (by simp)
  have n2 := T.Part.no "edges" (by simp)
  have n3 := T.Part.no "as_runs" (by simp)
  refine F.ok sc_init (fun vs H Q E h => ?_) (fun cdv A outer s H vs Q E hr h => ?_)
  · obtain ⟨p, dx, k, rfl, _⟩ := h; rfl
  · obtain ⟨p, dx, k, rfl, hp, q⟩ := h
    refine ⟨_, pss_cons (ps_fld (pv 0) (pv 1) rfl) (pss_cons (ps_fld (pv 0) (pe_lst pa_nil) rfl) (pss_one (ps_fld (pv 0) pe_bl rfl))), ?_⟩
    refine ⟨_, rfl, _, rfl, p, C, dx, [], rfl, hp, cl, n1, by decide, ?_⟩
    refine ⟨Nat.zero_le _, fun e he => ?_⟩
    have hep : e ≠ p := fun z => by rw [z, upd_same] at he; cases he
    have he0 : H e = none := by rw [upd_ne hep] at he; exact he
    refine ⟨_, rfl, p, C, dx, _, rfl, by rw [upd_ne (Ne.symm hep), upd_same], cl, n2, Nat.lt_of_le_of_lt (putF_len _ _ _) (by decide), ?_⟩
    refine ⟨_, rfl, p, C, dx, _, rfl, upd_same, cl, n3, Nat.lt_of_le_of_lt (putF_len _ _ _) (Nat.lt_of_le_of_lt (Nat.succ_le_succ (putF_len _ _ _)) (by decide)), ?_⟩
    refine q _ e he0 hep (by rw [upd_same, pf_new]) (by rw [upd_ne hep, upd_ne hep, upd_same]) fun b o hb hbp => ?_
    rw [upd_ne hbp, upd_ne hbp, upd_ne (fun z => by rw [z, he0] at hb; cases hb), upd_ne hbp]
    exact hb
theorem pe_mkPart {X : Cx} {e : Expr} {t : TA} {p pos : Pos} (T : Txt X.K X.mg C D) (hr : Room 2 X.A) (hg : Gl X "Part") (ha : PA X [e] t) (he : starEach [e] X.env = [(false, eval e X.env)] := by rfl) : PE X (.Call (.Name "Part" p) [e] [] pos) (tMake C (sp_init C) [] E0 t) := by
  obtain ⟨fI, fd, M, F, b⟩ := T.Part.ex
  exact pe_make M (ok_init F T) hr hg T.Part.at_ b .nil pass0 ha (he := he)
end
end PK
namespace PK
open PySem PySem.Spec PyProof.Rows L2 PM
section
variable {P : Program} {w : World} {K : PySem.W.Frag} {mg : Str → Option Value} {base : Heap} {C D : Addr}
abbrev Tr := Addr × Addr × Sv14.Part
structure PartsAt (C : Addr) (H : Hp) (tr : List Tr) : Prop where
  at_ : ∀ t, t ∈ tr → (∃ dx, H t.1 = some (.ins C dx (pf t.2.2.key t.2.1 t.2.2.runs))) ∧ H t.2.1 = some (.lst (flV t.2.2.spans))
  nd : (tr.map (·.1)).Nodup
  ndE : (tr.map (·.2.1)).Nodup
def refs (tr : List Tr) : List V := tr.map fun t => V.ref t.1
theorem refs_len (tr : List Tr) : (refs tr).length = tr.length := List.length_map ..
theorem PartsAt.same {H H' : Hp} {tr : List Tr} (h : PartsAt C H tr) (s : Same H H') : PartsAt C H' tr :=
  ⟨fun t ht => by obtain ⟨⟨dx, a⟩, b⟩ := h.at_ t ht; exact ⟨⟨dx, s _ _ a⟩, s _ _ b⟩, h.nd, h.ndE⟩
theorem PartsAt.snoc {H : Hp} {tr : List Tr} {x e dx : Addr} {p : Sv14.Part} (h : PartsAt C H tr) (hx : H x = some (.ins C dx (pf p.key e p.runs))) (he : H e = some (.lst (flV p.spans))) (nx : ∀ t, t ∈ tr → t.1 ≠ x) (ne : ∀ t, t ∈ tr → t.2.1 ≠ e) : PartsAt C H (tr ++ [(x, e, p)]) := by
  refine ⟨fun t ht => ?_, ?_, ?_⟩
  · rcases List.mem_append.mp ht with q | q
    · exact h.at_ t q
    · rw [List.mem_singleton.mp q]; exact ⟨⟨dx, hx⟩, he⟩
  · rw [List.map_append, List.nodup_append]
    refine ⟨h.nd, by simp, fun a ha b hb => ?_⟩
    obtain ⟨t, ht, rfl⟩ := List.mem_map.mp ha
    rw [List.mem_singleton.mp hb]; exact nx t ht
  · rw [List.map_append, List.nodup_append]
    refine ⟨h.ndE, by simp, fun a ha b hb => ?_⟩
    obtain ⟨t, ht, rfl⟩ := List.mem_map.mp ha
    rw [List.mem_singleton.mp hb]; exact ne t ht
theorem PartsAt.last {H H' : Hp} {tr : List Tr} {x e : Addr} {p : Sv14.Part} {l : List Sv14.Span} (h : PartsAt C H (tr ++ [(x, e, p)])) (he : H' e = some (.lst (flV l))) (kp : ∀ b o, H b = some o → b ≠ e → H' b = some o) : PartsAt C H' (tr ++ [(x, e, { p with spans := l })]) := by
  have hl := h.at_ (x, e, p) (by simp)
  refine ⟨fun t ht => ?_, ?_, ?_⟩
  · rcases List.mem_append.mp ht with q | q
    · obtain ⟨⟨dx, a⟩, b⟩ := h.at_ t (List.mem_append_left _ q)
      refine ⟨⟨dx, kp _ _ a (ne_of a hl.2 (by intro z; cases z))⟩, kp _ _ b fun z => ?_⟩
      have := h.ndE
      rw [List.map_append, List.nodup_append] at this
      exact this.2.2 _ (List.mem_map.mpr ⟨t, q, rfl⟩) e (by simp) z
    · rw [List.mem_singleton.mp q]
      obtain ⟨⟨dx, a⟩, b⟩ := hl
      exact ⟨⟨dx, kp _ _ a (ne_of a b (by intro z; cases z))⟩, he⟩
  · have := h.nd; rw [List.map_append] at this ⊢; exact this
  · have := h.ndE; rw [List.map_append] at this ⊢; exact this
def mk0 (g : Group) : Sv14.Part := ⟨g.1, g.2, false⟩
def CutAt (C : Addr) (H H' : Hp) (l : Addr) (cs : List Chunk) : Prop := ∃ tr : List Tr, H' l = some (.lst (refs tr)) ∧ PartsAt C H' tr ∧ tr.map (fun t => t.2.2) = (Sv14.grouped cs).map mk0 ∧ Same H H' ∧ ∀ t, t ∈ tr → H t.1 = none ∧ H t.2.1 = none ∧ t.2.1 ≠ l
theorem map_snoc_inv {α β : Type} {f : α → β} {l : List α} {m : List β} {y : β} (h : l.map f = m ++ [y]) : ∃ l0 x, l = l0 ++ [x] ∧ l0.map f = m ∧ f x = y := by
  obtain ⟨l0, l1, rfl, h1, h2⟩ := List.map_eq_append_iff.mp h
  obtain ⟨x, rfl, rfl⟩ := List.map_eq_singleton_iff.mp h2
  exact ⟨l0, x, rfl, h1, rfl⟩
theorem PartsAt.other {H : Hp} {tr : List Tr} {b : Addr} {o : HO} (h : PartsAt C H tr) (n : ∀ t, t ∈ tr → t.1 ≠ b ∧ t.2.1 ≠ b) : PartsAt C (upd H b o) tr :=
  ⟨fun t ht => by
    obtain ⟨⟨dx, a⟩, c⟩ := h.at_ t ht
    exact ⟨⟨dx, by rw [upd_ne (n t ht).1]; exact a⟩, by rw [upd_ne (n t ht).2]; exact c⟩, h.nd, h.ndE⟩
theorem refs_snoc (tr : List Tr) (t : Tr) : refs (tr ++ [t]) = refs tr ++ [V.ref t.1] := by unfold refs; rw [List.map_append]; rfl
theorem gsnoc_new {g : List Group} {x : Chunk} (h : ∀ k m g0, g = g0 ++ [(k, m)] → k ≠ x.1) : gsnoc g x = g ++ [(x.1, [x.2])] := by
  unfold gsnoc
  cases e : g.getLast? with
  | none => rw [List.getLast?_eq_none_iff.mp e]; rfl
  | some y =>
    obtain ⟨k, m⟩ := y
    obtain ⟨g0, hg⟩ := List.getLast?_eq_some_iff.mp e
    show (if k = x.1 then _ else _) = _
    rw [if_neg (h k m g0 hg)]
theorem gsnoc_old {g0 : List Group} {m : List Sv14.Span} {x : Chunk} : gsnoc (g0 ++ [(x.1, m)]) x = g0 ++ [(x.1, m ++ [x.2])] := by
  unfold gsnoc
  rw [List.getLast?_append, List.getLast?_singleton]
  show (if x.1 = x.1 then _ else _) = _
  rw [if_pos rfl, List.dropLast_concat]
theorem cut_new {H H2 H3 : Hp} {pl x e dx : Addr} {cs : List Chunk} {tr : List Tr} {y : Chunk} (hpl : H pl = none) (q1 : H2 pl = some (.lst (refs tr))) (q2 : PartsAt C H2 tr) (q3 : tr.map (fun t => t.2.2) = (Sv14.grouped cs).map mk0) (q4 : Same H H2)
    (q5 : ∀ t, t ∈ tr → H t.1 = none ∧ H t.2.1 = none ∧ t.2.1 ≠ pl) (s23 : Same H2 H3) (nx : H2 x = none) (ne : H2 e = none) (hx3 : H3 x = some (.ins C dx (pf y.1 e false))) (he3 : H3 e = some (.lst [])) (hk : ∀ tr0 t, tr = tr0 ++ [t] → t.2.2.key ≠ y.1) :
    CutAt C H (upd (upd H3 pl (.lst (refs tr ++ [V.ref x]))) e (.lst (flV [y.2]))) pl (cs ++ [y]) := by
  have xpl : x ≠ pl := Ne.symm (ne_of_none q1 nx)
  have epl : e ≠ pl := Ne.symm (ne_of_none q1 ne)
  have xe : x ≠ e := ne_of hx3 he3 (by intro z; cases z)
  have tx : ∀ t, t ∈ tr → t.1 ≠ x ∧ t.2.1 ≠ x ∧ t.1 ≠ e ∧ t.2.1 ≠ e ∧ t.1 ≠ pl := fun t ht => by
    obtain ⟨⟨d, a⟩, b⟩ := q2.at_ t ht
    exact ⟨ne_of_none a nx, ne_of_none b nx, ne_of_none a ne, ne_of_none b ne, ne_of a q1 (by intro z; cases z)⟩
  have P3 := q2.same s23
  have P4 : PartsAt C (upd H3 pl (.lst (refs tr ++ [V.ref x]))) tr := P3.other fun t ht => ⟨(tx t ht).2.2.2.2, (q5 t ht).2.2⟩
  have P5 := P4.snoc (x := x) (e := e) (dx := dx) (p := ⟨y.1, [], false⟩) (by rw [upd_ne xpl]; exact hx3) (by rw [upd_ne epl]; exact he3) (fun t ht => (tx t ht).1) (fun t ht => (tx t ht).2.2.2.1)
  have P6 := P5.last (H' := upd (upd H3 pl (.lst (refs tr ++ [V.ref x]))) e (.lst (flV [y.2]))) (l := [y.2]) upd_same fun b o hb n => by rw [upd_ne n]; exact hb
  refine ⟨tr ++ [(x, e, ⟨y.1, [y.2], false⟩)], by rw [upd_ne (Ne.symm epl), upd_same, refs_snoc], P6, ?_, ?_, ?_⟩
  · rw [List.map_append, q3, grouped_snoc, gsnoc_new, List.map_append]
    · rfl
    · intro k m g0 hg
      rw [hg, List.map_append] at q3
      obtain ⟨l0, t, rfl, _, h2⟩ := map_snoc_inv q3
      have := hk l0 t rfl
      rw [h2] at this
      exact this
  · intro b o hb
    rw [upd_ne (fun z => by rw [z, q4.free ne] at hb; cases hb), upd_ne (ne_of_none hb hpl)]
    exact s23 _ _ (q4 _ _ hb)
  · intro t ht
    rcases List.mem_append.mp ht with z | z
    · exact q5 t z
    · rw [List.mem_singleton.mp z]
      exact ⟨q4.free nx, q4.free ne, epl⟩
theorem cut_old {H H2 : Hp} {pl x e : Addr} {cs : List Chunk} {tr0 : List Tr} {y : Chunk} {p : Sv14.Part} (q1 : H2 pl = some (.lst (refs (tr0 ++ [(x, e, p)])))) (q2 : PartsAt C H2 (tr0 ++ [(x, e, p)])) (q3 : (tr0 ++ [(x, e, p)]).map (fun t => t.2.2) = (Sv14.grouped cs).map mk0) (q4 : Same H H2)
    (q5 : ∀ t, t ∈ tr0 ++ [(x, e, p)] → H t.1 = none ∧ H t.2.1 = none ∧ t.2.1 ≠ pl) (hk : p.key = y.1) : CutAt C H (upd H2 e (.lst (flV (p.spans ++ [y.2])))) pl (cs ++ [y]) := by
  have he := q5 (x, e, p) (by simp)
  dsimp only at he
  have P6 := q2.last (H' := upd H2 e (.lst (flV (p.spans ++ [y.2])))) (l := p.spans ++ [y.2]) upd_same fun b o hb n => by rw [upd_ne n]; exact hb
  refine ⟨_, ?_, P6, ?_, ?_, ?_⟩
  · rw [upd_ne (Ne.symm he.2.2), q1, refs_snoc, refs_snoc]
  · rw [List.map_append] at q3
    obtain ⟨g0, g1, h0, h1, h2⟩ := List.map_eq_append_iff.mp q3.symm
    obtain ⟨⟨k, m⟩, rfl, h3⟩ := List.map_eq_singleton_iff.mp h2
    have hp : p = mk0 (k, m) := h3.symm
    subst hp
    have hk : k = y.1 := hk
    subst hk
    rw [grouped_snoc, h0, gsnoc_old, List.map_append, List.map_append, h1]
    rfl
  · intro b o hb
    rw [upd_ne (fun z => by rw [z, he.2.1] at hb; cases hb)]
    exact q4 _ _ hb
  · intro t ht
    rcases List.mem_append.mp ht with z | z
    · exact q5 t (List.mem_append_left _ z)
    · rw [List.mem_singleton.mp z]; exact he
theorem cut_big {l : List Sv14.Span} {i j : Nat} {sp : Sv14.Span} (h : Sv14.Proper l) (hs : l[i]? = some sp) : (Sv14.grouped (chunks (l.take i) ++ (Sv14.byKey sp).take j)).length ≤ 65536 := by
  obtain ⟨h1, h2⟩ := chunks_ok h
  have sub : (chunks (l.take i) ++ (Sv14.byKey sp).take j).Sublist (chunks l) := by
    have e : chunks l = chunks (l.take (i + 1)) ++ chunks (l.drop (i + 1)) := by
      conv => lhs; rw [← List.take_append_drop (i + 1) l]
      unfold chunks; rw [List.flatMap_append]
    rw [e, take_snoc hs, chunks_snoc]
    exact ((List.Sublist.refl _).append (List.take_sublist _ _)).trans (List.sublist_append_left _ _)
  exact (grouped_ok _ (fun x hx => h1 x (sub.subset hx)) (h2.sublist sub)).1.len
theorem cut_span {l : List Sv14.Span} {i j : Nat} {sp : Sv14.Span} (h : Sv14.Proper l) (hs : l[i]? = some sp) : ∀ p, p ∈ (Sv14.grouped (chunks (l.take i) ++ (Sv14.byKey sp).take j)).map mk0 → p.spans.length ≤ 65536 := by
  obtain ⟨h1, h2⟩ := chunks_ok h
  have sub : (chunks (l.take i) ++ (Sv14.byKey sp).take j).Sublist (chunks l) := by
    have e : chunks l = chunks (l.take (i + 1)) ++ chunks (l.drop (i + 1)) := by
      conv => lhs; rw [← List.take_append_drop (i + 1) l]
      unfold chunks; rw [List.flatMap_append]
    rw [e, take_snoc hs, chunks_snoc]
    exact ((List.Sublist.refl _).append (List.take_sublist _ _)).trans (List.sublist_append_left _ _)
  have G := (grouped_ok _ (fun x hx => h1 x (sub.subset hx)) (h2.sublist sub)).1
  intro p hp
  obtain ⟨g, hg, rfl⟩ := List.mem_map.mp hp
  have := (G.one g hg).1.size
  show g.2.length ≤ 65536
  omega
def msr (sp : Sv14.Span) (σ : L2.St) : Nat := match σ[3]? with
  | some (some (V.int f)) => ((sp.2 : Int) + 1 - f).toNat
  | _ => 0
theorem flV_two (l : List Sv14.Span) {u v : Int} {s : Sv14.Span} (hu : u = (s.1 : Int)) (hv : v = (s.2 : Int) + 1) : flV l ++ [V.int u] ++ [V.int v] = flV (l ++ [s]) := by rw [flV_snoc, hu, hv]
theorem fitsL {i : Int} (h : -1000000000 ≤ i ∧ i ≤ 1000000000) : Builtin.Range.rangeFitsLong i = true := by
  unfold Builtin.Range.rangeFitsLong
  rw [decide_eq_true (by omega), decide_eq_true (by omega)]; rfl
theorem rg_two {n : Nat} (h : n ≤ 100000000) : RgC 0 ((2 * n : Nat) : Int) 2 n := by
  have e : Builtin.Range.rangeSize 0 ((2 * n : Nat) : Int) 2 = (n : Int) := by
    unfold Builtin.Range.rangeSize
    rw [if_pos (by decide)]
    split <;> omega
  refine ⟨by decide, by decide, ?_, e⟩
  show (Builtin.Range.rangeFitsLong 0 && Builtin.Range.rangeFitsLong ((2 * n : Nat) : Int) && Builtin.Range.rangeFitsLong 2 && Builtin.Range.rangeFitsLong (Builtin.Range.rangeSize 0 ((2 * n : Nat) : Int) 2) && (Builtin.Range.rangeSize 0 ((2 * n : Nat) : Int) 2 == 0 || (if (2 : Int) > 0 then Builtin.Range.rangeFitsLong (((2 * n : Nat) : Int) + (2 - 1)) else Builtin.Range.rangeFitsLong (((2 * n : Nat) : Int) + (2 + 1))))) = true
  rw [e, fitsL (by omega), fitsL (by omega), fitsL (by omega), fitsL (by omega), if_pos (by decide), fitsL (by omega), Bool.or_true]
  rfl
def sp_cut (K : PySem.W.Frag) (C : Addr) : Sp := fun vs H Q _ => ∃ (a : Addr) (l : List Sv14.Span), vs = [.ref a] ∧ SqL K H a (flV l) ∧ Sv14.Proper l ∧ l.length ≤ 4000000 ∧ ∀ (H' : Hp) (p : Addr), H p = none → CutAt C H H' p (chunks l) → Q (.ref p) H'
theorem sc_cut : FnScope ["edges", "parts", "i", "first", "key", "base", "end"] ["edges"] (defScope s_cut_into_parts) := ⟨rfl, rfl, rfl, by decide +kernel, rfl, by decide +kernel, by decide +kernel⟩
theorem flV_even {l : List Sv14.Span} {i : Nat} {s : Sv14.Span} (h : l[i]? = some s) : (flV l)[2 * i]? = some (V.int s.1) := by unfold flV; rw [List.getElem?_map, fl_even l i s h]; rfl
theorem flV_odd {l : List Sv14.Span} {i : Nat} {s : Sv14.Span} (h : l[i]? = some s) : (flV l)[2 * i + 1]? = some (V.int ((s.2 : Int) + 1)) := by unfold flV; rw [List.getElem?_map, fl_odd l i s h]; rfl
end
end PK
namespace PK
open PySem PySem.Spec PyProof.Rows L2 PM
section
variable {P : Program} {w : World} {K : PySem.W.Frag} {mg : Str → Option Value} {base : Heap} {C D : Addr}
theorem ok_cut (T : Txt K mg C D) : DefOk P w K mg base "cut_into_parts" ["edges"] 4 (sp_cut K C) := by
  have cl := T.Part.cl
  have nK := T.Part.no "key" (by simp)
  have nE := T.Part.no "edges" (by simp)
  have gP := T.PART
  have nd := sc_cut.nd
  refine T.cut_into_parts.ok sc_cut (fun vs H Q E h => ?_) (fun f cdv A outer s H vs Q E hr h => ?_)
  · obtain ⟨a, l, rfl, _⟩ := h; rfl
  · obtain ⟨a, l, rfl, ha, hpr, hlen, k⟩ := h
    have hr2 : Room 2 _ := hr.mono (by decide)
    refine ⟨_, pss_cons (ps_set (i := 1) nd rfl (Or.inl rfl) (pe_lst pa_nil))
      (pss_cons (ps_for PassesOwn.never rfl (pi_range3 rfl T.range (pa_cons pe_int (pa_cons (pe_callB call_len_seq (by rfl) T.len PySem.boot_len (pa_cons (pv 0) pa_nil)) (pa_cons pe_int pa_nil)))) (pg_name (i := 2) nd rfl (Or.inl rfl))
        (pss_cons (ps_set (i := 3) nd rfl (Or.inl rfl) (pe_ix ix_list (pv 0) (pv 2) (fun _ _ => rfl)))
        (pss_one (ps_while PassesOwn.never (pt_cmpR op_lt (pv 3) (pe_ix ix_list (pv 0) (pe_op op_add (pv 2) pe_int) (fun _ _ => rfl)) (nomark _))
          (pss_cons (ps_set (i := 4) nd rfl (Or.inl rfl) (pe_op op_fdiv (pv 3) (pe_gint rfl gP)))
          (pss_cons (ps_set (i := 5) nd rfl (Or.inl rfl) (pe_op op_mul (pv 4) (pe_gint rfl gP)))
          (pss_cons (ps_set (i := 6) nd rfl (Or.inl rfl) (pe_callB (call_min2 rfl) (by rfl) T.min (by rfl) (pa_cons (pe_ix ix_list (pv 0) (pe_op op_add (pv 2) pe_int) (fun _ _ => rfl)) (pa_cons (pe_op op_add (pv 5) (pe_gint rfl gP)) pa_nil))))
          (pss_cons (ps_if (pw_or (pt_cmpR op_eq (pe_callB call_len_seq (by rfl) T.len PySem.boot_len (pa_cons (pv 1) pa_nil)) pe_int (nomark _)) (pw_or1 (pt_cmpR op_ne (pe_fld (pe_ix ix_list (pv 1) (pe_un un_neg pe_int) (fun _ _ => rfl)) rfl) (pv 4) (nomark _)))).pt
              (pss_one (ps_expr (pe_bm PySem.F.plainAttrs_list PySem.F.slot_list_append PySem.F.type_list_append mt_append (pv 1) (pa_cons (pe_mkPart T hr2 rfl (pa_cons (pv 4) pa_nil)) pa_nil)))) pss_nil)
          (pss_cons (ps_expr (pe_bm PySem.F.plainAttrs_list PySem.F.slot_list_append PySem.F.type_list_append mt_append (pe_fld (pe_ix ix_list (pv 1) (pe_un un_neg pe_int) (fun _ _ => rfl)) rfl) (pa_cons (pe_op op_sub (pv 3) (pv 5)) pa_nil)))
          (pss_cons (ps_expr (pe_bm PySem.F.plainAttrs_list PySem.F.slot_list_append PySem.F.type_list_append mt_append (pe_fld (pe_ix ix_list (pv 1) (pe_un un_neg pe_int) (fun _ _ => rfl)) rfl) (pa_cons (pe_op op_sub (pv 6) (pv 5)) pa_nil)))
          (pss_one (ps_set (i := 3) nd rfl (Or.inl rfl) (pv 6)))))))))))))
      (pss_one (ps_ret (pv 1)))), ?_⟩
    refine ⟨Nat.zero_le _, fun pl hpl => ?_⟩
    have s1 := Same.new (o := .lst []) hpl
    have c0 : CutAt C H (upd H pl (.lst [])) pl [] := ⟨[], upd_same, ⟨by simp, by simp, by simp⟩, rfl, s1, by simp⟩
    refine ⟨_, rfl, a, _, rfl, .inl (s1.seq ha), 0, _, 2, l.length, rfl, ?_, ?_⟩
    · rw [flV_len]; exact rg_two (by omega)
    · refine for_rangeC (Pv := fun i σ H' => ∃ v2 v3 v4 v5 v6 : Option V, σ = [some (.ref a), some (.ref pl), v2, v3, v4, v5, v6] ∧ CutAt C H H' pl (chunks (l.take i))) ?_ ?_ ?_
      · exact ⟨none, none, none, none, none, rfl, c0⟩
      · rintro i σ H1 hi ⟨v2, v3, v4, v5, v6, rfl, ci⟩
        have hs1 : Same H H1 := by obtain ⟨_, _, _, _, x, _⟩ := ci; exact x
        have hsi : l[i]? = some l[i] := List.getElem?_eq_getElem hi
        generalize l[i] = sp at hsi
        have hv := hpr.1 sp (List.mem_of_getElem? hsi)
        have e0 : (0 : Int) + (i : Int) * 2 = ((2 * i : Nat) : Int) := by omega
        rw [e0]
        refine ⟨_, rfl, _, rfl, a, _, _, _, rfl, rfl, hs1.seq ha, atI_nat (flV_even hsi), ?_⟩
        refine while_by (Pv := fun σ H' => ∃ (j : Nat) (v4 v5 v6 : Option V), j ≤ cuts sp ∧ σ = [some (.ref a), some (.ref pl), some (.int ((2 * i : Nat) : Int)), some (.int (at_cut sp j)), v4, v5, v6] ∧ CutAt C H H' pl (chunks (l.take i) ++ (Sv14.byKey sp).take j))
          (μ := fun σ _ => msr sp σ) ?_ ?_ ?_
        · exact ⟨0, v4, v5, v6, Nat.zero_le _, rfl, by rw [List.take_zero, List.append_nil]; exact ci⟩
        · rintro σ H2 ⟨j, v4, v5, v6, hj, rfl, cj⟩
          obtain ⟨tr, q1, q2, q3, q4, q5⟩ := cj
          have sq := q4.seq ha
          have ix : atI (flV l) (((2 * i : Nat) : Int) + 1) = some (V.int ((sp.2 : Int) + 1)) := at_of (j := 2 * i + 1) (by omega) (flV_odd hsi)
          refine ⟨_, rfl, _, rfl, _, rfl, _, _, rfl, rfl, a, _, _, _, rfl, rfl, sq, ix, _, _, rfl, rfl, _, rfl, ?_⟩
          rcases Nat.lt_or_ge j (cuts sp) with c | c
          · obtain ⟨f1, f2, f3, f4, f5⟩ := cut_piece hv.1 c
            refine goT (decide_eq_true (by omega)) ?_
            refine ⟨_, rfl, _, _, rfl, rfl, ⟨by decide, by decide⟩, ?_⟩
            refine ⟨_, rfl, _, _, rfl, rfl, .inr ⟨by decide, by decide⟩, ?_⟩
            refine ⟨_, rfl, _, rfl, _, _, rfl, rfl, a, _, _, _, rfl, rfl, sq, ix, _, rfl, _, _, rfl, rfl, _, _, rfl, ?_⟩
            have ek : ((at_cut sp j : Nat) : Int) / 65536 = ((at_cut sp j / 65536 : Nat) : Int) := by omega
            have en : (if ((at_cut sp j / 65536 : Nat) : Int) * 65536 + 65536 < (sp.2 : Int) + 1 then ((at_cut sp j / 65536 : Nat) : Int) * 65536 + 65536 else (sp.2 : Int) + 1) = ((at_cut sp (j + 1) : Nat) : Int) := by rw [f3]; split <;> omega
            simp only [ek, en]
            refine ⟨_, rfl, pl, _, rfl, .inl (SqL.of q1), rfl, _, rfl, ?_⟩
            obtain ⟨pc, hpc⟩ : ∃ pc : Sv14.Span, pc = (at_cut sp j - 65536 * (at_cut sp j / 65536), at_cut sp (j + 1) - 65536 * (at_cut sp j / 65536) - 1) := ⟨_, rfl⟩
            rw [← hpc] at f5
            have step : ∀ (H3 : Hp), CutAt C H H3 pl (chunks (l.take i) ++ (Sv14.byKey sp).take j ++ [(at_cut sp j / 65536, pc)]) → CutAt C H H3 pl (chunks (l.take i) ++ (Sv14.byKey sp).take (j + 1)) := fun H3 h => by rw [take_snoc f5, ← List.append_assoc]; exact h
            have u1 : ((at_cut sp j : Nat) : Int) - ((at_cut sp j / 65536 : Nat) : Int) * 65536 = (pc.1 : Int) := by rw [hpc]; dsimp only; omega
            have u2 : ((at_cut sp (j + 1) : Nat) : Int) - ((at_cut sp j / 65536 : Nat) : Int) * 65536 = (pc.2 : Int) + 1 := by rw [hpc]; dsimp only; omega
            have e5 : ∀ L : List Sv14.Span, flV L ++ [V.int (((at_cut sp j : Nat) : Int) - ((at_cut sp j / 65536 : Nat) : Int) * 65536)] ++ [V.int (((at_cut sp (j + 1) : Nat) : Int) - ((at_cut sp j / 65536 : Nat) : Int) * 65536)] = flV (L ++ [pc]) := fun L => flV_two L u1 u2
            have mm : msr sp [some (V.ref a), some (V.ref pl), some (V.int ((2 * i : Nat) : Int)), some (V.int (at_cut sp (j + 1))), some (V.int ((at_cut sp j / 65536 : Nat) : Int)), some (V.int (((at_cut sp j / 65536 : Nat) : Int) * 65536)), some (V.int (at_cut sp (j + 1)))] < msr sp [some (V.ref a), some (V.ref pl), some (V.int ((2 * i : Nat) : Int)), some (V.int (at_cut sp j)), v4, v5, v6] := by
              show ((sp.2 : Int) + 1 - (at_cut sp (j + 1) : Int)).toNat < ((sp.2 : Int) + 1 - (at_cut sp j : Int)).toNat
              omega
            have big : tr.length ≤ 65536 := by
              have := congrArg List.length q3
              rw [List.length_map, List.length_map] at this
              rw [this]; exact cut_big hpr hsi
            rcases List.eq_nil_or_concat tr with hn | ⟨tr0, t, hn⟩
            · have HK : ∀ tr0 (t : Tr), tr = tr0 ++ [t] → t.2.2.key ≠ at_cut sp j / 65536 := by intro tr0 t h; rw [hn] at h; cases tr0 <;> cases h
              refine goT (decide_eq_true (by rw [hn]; rfl)) ?_
              refine goT rfl ?_
              refine ⟨_, rfl, .inl ⟨rfl, _, SqL.of q1⟩, _, rfl, fun x dx nx ndx nex => ?_⟩
              refine ⟨x, dx, _, rfl, upd_same, fun H3 e he hep hx3 he3 kp => ⟨rfl, ?_⟩⟩
              have s23 : Same H2 H3 := Same.made nx ndx kp
              have ne : H2 e = none := by
                rw [upd_ne hep] at he
                have : e ≠ dx := fun z => by rw [z, upd_same] at he; cases he
                rw [upd_ne this] at he; exact he
              have epl : e ≠ pl := Ne.symm (ne_of_none q1 ne)
              have xpl : x ≠ pl := Ne.symm (ne_of_none q1 nx)
              have xe : x ≠ e := ne_of hx3 he3 (by intro z; cases z)
              have done := cut_new (y := (at_cut sp j / 65536, pc)) hpl q1 q2 q3 q4 q5 s23 nx ne hx3 he3 HK
              dsimp only at done
              rw [show [pc] = [] ++ [pc] from rfl, ← e5 []] at done
              refine ⟨pl, _, _, rfl, rfl, s23 _ _ q1, by rw [refs_len, sizeLine_val]; omega, ?_⟩
              refine ⟨_, rfl, _, rfl, pl, _, _, _, rfl, rfl, SqL.of upd_same, atI_last _ _, x, C, dx, _, _, rfl, by rw [upd_ne xpl]; exact hx3, cl, nE, pf_edges, .inl ⟨rfl, _, SqL.of (by rw [upd_ne epl]; exact he3)⟩, _, rfl, _, rfl, _, _, rfl, rfl, e, _, _, rfl, rfl, by rw [upd_ne epl]; exact he3, by decide, ?_⟩
              refine ⟨_, rfl, _, rfl, pl, _, _, _, rfl, rfl, SqL.of (by rw [upd_ne (Ne.symm epl), upd_same]), atI_last _ _, x, C, dx, _, _, rfl, by rw [upd_ne xe, upd_ne xpl]; exact hx3, cl, nE, pf_edges, .inl ⟨rfl, _, SqL.of upd_same⟩, _, rfl, _, rfl, _, _, rfl, rfl, e, _, _, rfl, rfl, upd_same, by rw [sizeLine_val]; show 1 < 16777216; decide, ?_⟩
              rw [upd_upd]
              exact ⟨_, rfl, ⟨j + 1, _, _, _, c, rfl, step _ done⟩, mm⟩
            · rw [List.concat_eq_append] at hn
              refine goF (decide_eq_false (by intro z; have := V.int.inj z; rw [hn, refs_len, List.length_append, List.length_singleton] at this; omega)) ?_
              obtain ⟨x0, e0', p0⟩ := t
              obtain ⟨⟨dx0, hx0⟩, he0⟩ := q2.at_ (x0, e0', p0) (by rw [hn]; simp)
              dsimp only at hx0 he0
              have q1' := q1
              rw [hn, refs_snoc] at q1'
              refine ⟨_, rfl, _, rfl, pl, _, _, _, rfl, rfl, SqL.of q1', atI_last _ _, x0, C, dx0, _, _, rfl, hx0, cl, nK, pf_key, _, rfl, rfl, _, rfl, ?_⟩
              by_cases hk : p0.key = at_cut sp j / 65536
              · refine goF (by rw [hk]; simp) ?_
                subst hn
                have ep : e0' ≠ pl := (q5 (x0, e0', p0) (by simp)).2.2
                have xe : x0 ≠ e0' := ne_of hx0 he0 (by intro z; cases z)
                have done := cut_old (y := (at_cut sp j / 65536, pc)) q1 q2 q3 q4 q5 hk
                dsimp only at done
                rw [← e5] at done
                have sz : (flV p0.spans).length ≤ 1000000 := by
                  rw [flV_len]
                  have := cut_span hpr hsi p0 (by rw [← q3]; simp)
                  omega
                refine ⟨_, rfl, _, rfl, pl, _, _, _, rfl, rfl, SqL.of q1', atI_last _ _, x0, C, dx0, _, _, rfl, hx0, cl, nE, pf_edges, .inl ⟨rfl, _, SqL.of he0⟩, _, rfl, _, rfl, _, _, rfl, rfl, e0', _, _, rfl, rfl, he0, by rw [sizeLine_val]; omega, ?_⟩
                refine ⟨_, rfl, _, rfl, pl, _, _, _, rfl, rfl, SqL.of (by rw [upd_ne (Ne.symm ep)]; exact q1'), atI_last _ _, x0, C, dx0, _, _, rfl, by rw [upd_ne xe]; exact hx0, cl, nE, pf_edges, .inl ⟨rfl, _, SqL.of upd_same⟩, _, rfl, _, rfl, _, _, rfl, rfl, e0', _, _, rfl, rfl, upd_same, by rw [sizeLine_val, List.length_append, List.length_singleton]; omega, ?_⟩
                rw [upd_upd]
                exact ⟨_, rfl, ⟨j + 1, _, _, _, c, rfl, step _ done⟩, mm⟩
              · have HK : ∀ tr0 (t : Tr), tr = tr0 ++ [t] → t.2.2.key ≠ at_cut sp j / 65536 := by
                  intro tr1 t h
                  rw [hn] at h
                  have := (List.append_inj' h rfl).2
                  cases this
                  exact hk
                refine goT (by simpa using fun z => hk (by omega)) ?_
                refine ⟨_, rfl, .inl ⟨rfl, _, SqL.of q1⟩, _, rfl, fun x dx nx ndx nex => ?_⟩
                refine ⟨x, dx, _, rfl, upd_same, fun H3 e he hep hx3 he3 kp => ⟨rfl, ?_⟩⟩
                have s23 : Same H2 H3 := Same.made nx ndx kp
                have ne : H2 e = none := by
                  rw [upd_ne hep] at he
                  have : e ≠ dx := fun z => by rw [z, upd_same] at he; cases he
                  rw [upd_ne this] at he; exact he
                have epl : e ≠ pl := Ne.symm (ne_of_none q1 ne)
                have xpl : x ≠ pl := Ne.symm (ne_of_none q1 nx)
                have xe : x ≠ e := ne_of hx3 he3 (by intro z; cases z)
                have done := cut_new (y := (at_cut sp j / 65536, pc)) hpl q1 q2 q3 q4 q5 s23 nx ne hx3 he3 HK
                dsimp only at done
                rw [show [pc] = [] ++ [pc] from rfl, ← e5 []] at done
                refine ⟨pl, _, _, rfl, rfl, s23 _ _ q1, by rw [refs_len, sizeLine_val]; omega, ?_⟩
                refine ⟨_, rfl, _, rfl, pl, _, _, _, rfl, rfl, SqL.of upd_same, atI_last _ _, x, C, dx, _, _, rfl, by rw [upd_ne xpl]; exact hx3, cl, nE, pf_edges, .inl ⟨rfl, _, SqL.of (by rw [upd_ne epl]; exact he3)⟩, _, rfl, _, rfl, _, _, rfl, rfl, e, _, _, rfl, rfl, by rw [upd_ne epl]; exact he3, by decide, ?_⟩
                refine ⟨_, rfl, _, rfl, pl, _, _, _, rfl, rfl, SqL.of (by rw [upd_ne (Ne.symm epl), upd_same]), atI_last _ _, x, C, dx, _, _, rfl, by rw [upd_ne xe, upd_ne xpl]; exact hx3, cl, nE, pf_edges, .inl ⟨rfl, _, SqL.of upd_same⟩, _, rfl, _, rfl, _, _, rfl, rfl, e, _, _, rfl, rfl, upd_same, by rw [sizeLine_val]; show 1 < 16777216; decide, ?_⟩
                rw [upd_upd]
                exact ⟨_, rfl, ⟨j + 1, _, _, _, c, rfl, step _ done⟩, mm⟩
          · have : j = cuts sp := by omega
            subst this
            refine goF (decide_eq_false (by rw [cut_end hv.1]; omega)) ?_
            refine ⟨_, _, _, _, _, rfl, ?_⟩
            rw [take_snoc hsi, chunks_snoc]
            rw [List.take_of_length_le (l := Sv14.byKey sp) (by rw [cuts_len]; exact Nat.le_refl _)] at q3
            exact ⟨tr, q1, q2, q3, q4, q5⟩
        · rintro σ H Q Q' hq ⟨x1, e1, x2, e2, x3, e3, x4, x5, e4, e5, x6, x7, x8, x9, e6, e7, e8, e9, x10, x11, e10, e11, x12, e12, h⟩
          exact ⟨x1, e1, x2, e2, x3, e3, x4, x5, e4, e5, x6, x7, x8, x9, e6, e7, e8, e9, x10, x11, e10, e11, x12, e12, hq _ _ h⟩
      · rintro σ H1 ⟨v2, v3, v4, v5, v6, rfl, ci⟩
        refine ⟨_, rfl, ?_⟩
        rw [List.take_length] at ci
        exact k H1 pl hpl ci
end
end PK
namespace PK
open PySem PySem.Spec PyProof.Rows L2 PM
section
variable {P : Program} {w : World} {K : PySem.W.Frag} {mg : Str → Option Value} {base : Heap} {C D : Addr}
def PartOf (C : Addr) (H : Hp) (a : Addr) (p : Sv14.Part) : Prop := ∃ dx e, H a = some (.ins C dx (pf p.key e p.runs)) ∧ H e = some (.lst (flV p.spans))
theorem PartOf.same {H H' : Hp} {a : Addr} {p : Sv14.Part} (h : PartOf C H a p) (s : Same H H') : PartOf C H' a p := by
  obtain ⟨dx, e, a, b⟩ := h; exact ⟨dx, e, s _ _ a, s _ _ b⟩
theorem PartsAt.of {H : Hp} {tr : List Tr} {t : Tr} (h : PartsAt C H tr) (m : t ∈ tr) : PartOf C H t.1 t.2.2 := by
  obtain ⟨⟨dx, a⟩, b⟩ := h.at_ t m; exact ⟨dx, _, a, b⟩
def sp_size_as_runs (C : Addr) : Sp := fun vs H Q _ => ∃ (a : Addr) (p : Sv14.Part), vs = [.ref a] ∧ PartOf C H a p ∧ Q (.int (Sv14.runsLong p.spans)) H
theorem sc_size_as_runs : FnScope ["part"] ["part"] (defScope s_size_as_runs) := ⟨rfl, rfl, rfl, by decide +kernel, rfl, by decide +kernel, by decide +kernel⟩
theorem ok_size_as_runs (T : Txt K mg C D) : DefOk P w K mg base "size_as_runs" ["part"] 2 (sp_size_as_runs C) := by
  have cl := T.Part.cl
  have nE := T.Part.no "edges" (by simp)
  refine T.size_as_runs.ok sc_size_as_runs (fun vs H Q E h => ?_) (fun f cdv A outer s H vs Q E hr h => ?_)
  · obtain ⟨a, p, rfl, _⟩ := h; rfl
  · obtain ⟨a, p, rfl, ⟨dx, e, h1, h2⟩, k⟩ := h
    refine ⟨_, pss_one (ps_ret (pe_callD (ok_runs_size T) hr rfl (pa_cons (pe_op op_fdiv (pe_callB call_len_seq (by rfl) T.len PySem.boot_len (pa_cons (pe_fld (pv 0) rfl) pa_nil)) pe_int) pa_nil))), ?_⟩
    refine ⟨_, rfl, a, C, dx, _, _, rfl, h1, cl, nE, pf_edges, e, _, rfl, .inl (SqL.of h2), _, _, rfl, rfl, ⟨by decide, by decide⟩, _, rfl, ?_⟩
    have z : 2 + 4 * (((flV p.spans).length : Int) / 2) = ((Sv14.runsLong p.spans : Nat) : Int) := by rw [flV_len]; unfold Sv14.runsLong; omega
    rw [z]; exact k
def sp_size_as_plain (C : Addr) : Sp := fun vs H Q _ => ∃ (a : Addr) (p : Sv14.Part), vs = [.ref a] ∧ PartOf C H a p ∧ Ok p.spans ∧ ∀ H', Same H H' → Q (.int (Sv14.plainLong p.spans)) H'
theorem sc_size_as_plain : FnScope ["part"] ["part"] (defScope s_size_as_plain) := ⟨rfl, rfl, rfl, by decide +kernel, rfl, by decide +kernel, by decide +kernel⟩
theorem plainI_eq (l : List Sv14.Span) : plainI (Sv14.sizeOf_ l : Int) = ((Sv14.plainLong l : Nat) : Int) := by
  unfold plainI Sv14.plainLong
  by_cases c : Sv14.sizeOf_ l ≤ 4096
  · rw [if_pos c, if_pos (by omega)]; omega
  · rw [if_neg c, if_neg (by omega)]; rfl
theorem ok_size_as_plain (T : Txt K mg C D) : DefOk P w K mg base "size_as_plain" ["part"] 3 (sp_size_as_plain C) := by
  have cl := T.Part.cl
  have nE := T.Part.no "edges" (by simp)
  refine T.size_as_plain.ok sc_size_as_plain (fun vs H Q E h => ?_) (fun f cdv A outer s H vs Q E hr h => ?_)
  · obtain ⟨a, p, rfl, _⟩ := h; rfl
  · obtain ⟨a, p, rfl, ⟨dx, e, h1, h2⟩, ho, k⟩ := h
    refine ⟨_, pss_one (ps_ret (pe_callD (ok_plain_size T) hr rfl (pa_cons (pe_callD (ok_count_numbers T) (hr.mono (by decide)) rfl (pa_cons (pe_fld (pv 0) rfl) pa_nil)) pa_nil))), ?_⟩
    refine ⟨_, rfl, a, C, dx, _, _, rfl, h1, cl, nE, pf_edges, e, _, rfl, SqL.of h2, ho, fun H' sm => ⟨_, rfl, ?_⟩⟩
    rw [plainI_eq]; exact k H' sm
def sp_part_size (C : Addr) : Sp := fun vs H Q _ => ∃ (a : Addr) (p : Sv14.Part), vs = [.ref a] ∧ PartOf C H a p ∧ Ok p.spans ∧ ∀ H', Same H H' → Q (.int p.long) H'
theorem sc_part_size : FnScope ["part"] ["part"] (defScope s_part_size) := ⟨rfl, rfl, rfl, by decide +kernel, rfl, by decide +kernel, by decide +kernel⟩
theorem ok_part_size (T : Txt K mg C D) : DefOk P w K mg base "part_size" ["part"] 4 (sp_part_size C) := by
  have cl := T.Part.cl
  have nR := T.Part.no "as_runs" (by simp)
  refine T.part_size.ok sc_part_size (fun vs H Q E h => ?_) (fun f cdv A outer s H vs Q E hr h => ?_)
  · obtain ⟨a, p, rfl, _⟩ := h; rfl
  · obtain ⟨a, p, rfl, hp, ho, k⟩ := h
    have hp' := hp
    obtain ⟨dx, e, h1, h2⟩ := hp'
    refine ⟨_, pss_one (ps_ret (pe_ifExp (pt_val (pe_fld (pv 0) rfl)) (pe_callD (ok_size_as_runs T) (hr.mono (by decide)) rfl (pa_cons (pv 0) pa_nil)) (pe_callD (ok_size_as_plain T) hr rfl (pa_cons (pv 0) pa_nil)))), ?_⟩
    refine ⟨_, rfl, a, C, dx, _, _, rfl, h1, cl, nR, pf_runs, _, rfl, ?_⟩
    cases hr' : p.runs with
    | true =>
      refine ⟨_, rfl, a, p, rfl, hp, ?_⟩
      have := k H (Same.refl H)
      unfold Sv14.Part.long at this
      rw [if_pos hr'] at this; exact this
    | false =>
      refine ⟨_, rfl, a, p, rfl, hp, ho, fun H' sm => ?_⟩
      have := k H' sm
      unfold Sv14.Part.long at this
      rw [if_neg (by rw [hr']; decide)] at this; exact this
def pl1 (t : Tr) : Tr := (t.1, t.2.1, { t.2.2 with runs := decide (Sv14.runsLong t.2.2.spans < Sv14.plainLong t.2.2.spans) })
def planned (tr : List Tr) (i : Nat) : List Tr := (tr.take i).map pl1 ++ tr.drop i
theorem planned_refs (tr : List Tr) (i : Nat) : refs (planned tr i) = refs tr := by
  unfold planned refs
  conv => rhs; rw [← List.take_append_drop i tr]
  rw [List.map_append, List.map_append, List.map_map]; rfl
theorem planned_at {tr : List Tr} {i : Nat} {t : Tr} (h : tr[i]? = some t) : planned tr i = (tr.take i).map pl1 ++ t :: tr.drop (i + 1) ∧ planned tr (i + 1) = (tr.take i).map pl1 ++ pl1 t :: tr.drop (i + 1) := by
  have lt := (List.getElem?_eq_some_iff.mp h).1
  unfold planned
  constructor
  · rw [List.drop_eq_getElem_cons lt, (List.getElem?_eq_some_iff.mp h).2]
  · rw [take_snoc h, List.map_append, List.append_assoc]; rfl
theorem PartsAt.mid {H H' : Hp} {A B : List Tr} {t : Tr} {dx : Addr} {r : Bool} (h : PartsAt C H (A ++ t :: B)) (h1 : H' t.1 = some (.ins C dx (pf t.2.2.key t.2.1 r))) (kp : ∀ b o, H b = some o → b ≠ t.1 → H' b = some o) : PartsAt C H' (A ++ (t.1, t.2.1, { t.2.2 with runs := r }) :: B) := by
  have ht := h.at_ t (by simp)
  obtain ⟨⟨d0, hd⟩, he⟩ := ht
  have nd := h.nd
  rw [List.map_append, List.map_cons, List.nodup_append] at nd
  refine ⟨fun u hu => ?_, ?_, ?_⟩
  · rcases List.mem_append.mp hu with q | q
    · obtain ⟨⟨d, a⟩, b⟩ := h.at_ u (List.mem_append_left _ q)
      exact ⟨⟨d, kp _ _ a (nd.2.2 _ (List.mem_map.mpr ⟨u, q, rfl⟩) _ (List.mem_cons_self ..))⟩, kp _ _ b (ne_of b hd (by intro z; cases z))⟩
    · rcases List.mem_cons.mp q with q | q
      · subst q
        exact ⟨⟨dx, h1⟩, kp _ _ he (ne_of he hd (by intro z; cases z))⟩
      · obtain ⟨⟨d, a⟩, b⟩ := h.at_ u (List.mem_append_right _ (List.mem_cons_of_mem _ q))
        refine ⟨⟨d, kp _ _ a fun z => ?_⟩, kp _ _ b (ne_of b hd (by intro z; cases z))⟩
        exact (List.nodup_cons.mp nd.2.1).1 (List.mem_map.mpr ⟨u, q, z⟩)
  · have := h.nd; rw [List.map_append, List.map_cons] at this ⊢; exact this
  · have := h.ndE; rw [List.map_append, List.map_cons] at this ⊢; exact this
def sp_plan (K : PySem.W.Frag) (C : Addr) : Sp := fun vs H Q _ => ∃ (a : Addr) (l : List Sv14.Span) (r : Int), vs = [.ref a, .int r] ∧ SqL K H a (flV l) ∧ Sv14.Proper l ∧ l.length ≤ 4000000 ∧
  ∀ (H' : Hp) (p : Addr) (tr : List Tr), Same H H' → H' p = some (.lst (refs tr)) → PartsAt C H' tr → tr.map (fun t => t.2.2) = Sv14.partsFor l (r == 1) → Q (.ref p) H'
theorem sc_plan : FnScope ["edges", "runs", "parts", "part"] ["edges", "runs"] (defScope s_plan_parts) := ⟨rfl, rfl, rfl, by decide +kernel, rfl, by decide +kernel, by decide +kernel⟩
theorem ok_plan (T : Txt K mg C D) : DefOk P w K mg base "plan_parts" ["edges", "runs"] 5 (sp_plan K C) := by
  have cl := T.Part.cl
  have nR := T.Part.no "as_runs" (by simp)
  have nd := sc_plan.nd
  refine T.plan_parts.ok sc_plan (fun vs H Q E h => ?_) (fun f cdv A outer s H vs Q E hr h => ?_)
  · obtain ⟨a, l, r, rfl, _⟩ := h; rfl
  · obtain ⟨a, l, r, rfl, ha, hpr, hlen, k⟩ := h
    refine ⟨_, pss_cons (ps_set (i := 2) nd rfl (Or.inl rfl) (pe_callD (ok_cut T) hr rfl (pa_cons (pv 0) pa_nil)))
      (pss_cons (ps_if (pt_cmpR op_eq (pv 1) pe_int (nomark _))
        (pss_one (ps_for PassesOwn.never rfl (pi_list (pv 2)) (pg_name (i := 3) nd rfl (Or.inl rfl))
          (pss_one (ps_fld (pv 3) (pe_cmpR op_lt (pe_callD (ok_size_as_runs T) (hr.mono (by decide)) rfl (pa_cons (pv 3) pa_nil)) (pe_callD (ok_size_as_plain T) (hr.mono (by decide)) rfl (pa_cons (pv 3) pa_nil)) (nomark _)) rfl)))) pss_nil)
      (pss_one (ps_ret (pv 2)))), ?_⟩
    refine ⟨_, rfl, a, l, rfl, ha, hpr, hlen, fun H1 p hp ci => ?_⟩
    obtain ⟨tr, q1, q2, q3, q4, q5⟩ := ci
    have oks : ∀ t, t ∈ tr → Ok t.2.2.spans := by
      intro t ht
      obtain ⟨h1, h2⟩ := chunks_ok hpr
      have G := (grouped_ok _ h1 h2).1
      have : t.2.2 ∈ (Sv14.grouped (chunks l)).map mk0 := by rw [← q3]; exact List.mem_map.mpr ⟨t, ht, rfl⟩
      obtain ⟨g, hg, e⟩ := List.mem_map.mp this
      rw [← e]; exact (G.one g hg).1.ok
    refine ⟨_, rfl, rfl, _, rfl, ?_⟩
    by_cases hr1 : r = 1
    · subst hr1
      refine goT (decide_eq_true rfl) ?_
      refine ⟨_, rfl, p, rfl, ⟨_, SqL.of q1⟩, for_list (K := K) (a := p) (xs := refs tr) (fun i σ H' => ∃ v3 : Option V, σ = [some (.ref a), some (.int 1), some (.ref p), v3] ∧ H' p = some (.lst (refs tr)) ∧ PartsAt C H' (planned tr i) ∧ Same H H') ?_ ?_ ?_ ?_⟩
      · exact ⟨none, rfl, q1, q2, q4⟩
      · rintro i σ H' _ ⟨_, _, h2, _⟩
        exact SqL.of h2
      · rintro i y σ H' hi ⟨v3, rfl, h1, h2, h3⟩
        obtain ⟨t, ht, rfl⟩ : ∃ t, tr[i]? = some t ∧ y = V.ref t.1 := by
          unfold refs at hi
          rw [List.getElem?_map, Option.map_eq_some_iff] at hi
          obtain ⟨t, e1, e2⟩ := hi
          exact ⟨t, e1, e2.symm⟩
        have mt := List.mem_of_getElem? ht
        obtain ⟨p1, p2⟩ := planned_at ht
        rw [p1] at h2
        have ho := h2.of (t := t) (by simp)
        have ho' := ho
        obtain ⟨dx, e, x1, x2⟩ := ho'
        refine ⟨_, rfl, t.1, t.2.2, rfl, ho, _, rfl, t.1, t.2.2, rfl, ho, oks t mt, fun H2 sm => ⟨_, _, rfl, rfl, ?_⟩⟩
        obtain ⟨⟨dx', y1⟩, y2⟩ := (h2.same sm).at_ t (by simp)
        refine ⟨_, rfl, t.1, C, dx', _, rfl, y1, cl, nR, (by show 3 < 1000; decide), ?_⟩
        have npt : t.1 ≠ p := ne_of x1 h1 (by intro z; cases z)
        refine ⟨_, rfl, ?_, ?_, ?_⟩
        · rw [upd_ne (Ne.symm npt)]; exact sm _ _ h1
        · rw [p2]
          refine PartsAt.mid (dx := dx') (h2.same sm) ?_ fun b o hb n => by rw [upd_ne n]; exact hb
          rw [upd_same, pf_set]
          congr 4
          exact propext Int.ofNat_lt
        · intro b o hb
          rw [upd_ne (fun z => by rw [z, (q5 t mt).1] at hb; cases hb)]
          exact sm _ _ (h3 _ _ hb)
      · rintro σ H' ⟨v3, rfl, h1, h2, h3⟩
        refine ⟨_, rfl, ?_⟩
        refine k H' p (planned tr tr.length) h3 (by rw [planned_refs]; exact h1) (by rw [refs_len] at h2; exact h2) ?_
        unfold planned
        rw [List.take_length, List.drop_length, List.append_nil, List.map_map, partsFor_eq]
        have : (fun t : Tr => t.2.2) ∘ pl1 = (fun q : Sv14.Part => { q with runs := decide (Sv14.runsLong q.spans < Sv14.plainLong q.spans) }) ∘ fun t : Tr => t.2.2 := rfl
        rw [this, ← List.map_map, q3, List.map_map]
        apply List.map_congr_left
        intro g _
        show (Sv14.Part.mk g.1 g.2 _) = _
        rw [show ((1 : Int) == 1) = true from rfl, Bool.true_and]
        rfl
    · refine goF (decide_eq_false fun z => hr1 (V.int.inj z)) ?_
      refine ⟨_, rfl, k H1 p tr q4 q1 q2 ?_⟩
      rw [q3, partsFor_eq]
      apply List.map_congr_left
      intro g _
      rw [show (r == 1) = false from by simpa using hr1, Bool.false_and]; rfl
end
end PK
namespace PK
open PySem PySem.Spec PyProof.Rows L2 PM
section
variable {P : Program} {w : World} {K : PySem.W.Frag} {mg : Str → Option Value} {base : Heap} {C D : Addr}
structure PsAt (C : Addr) (H : Hp) (p : Addr) (as : List Addr) (ps : List Sv14.Part) : Prop where
  lst : H p = some (.lst (as.map V.ref))
  len : as.length = ps.length
  at_ : ∀ (i : Nat) a q, as[i]? = some a → ps[i]? = some q → PartOf C H a q
theorem PsAt.same {H H' : Hp} {p : Addr} {as : List Addr} {ps : List Sv14.Part} (h : PsAt C H p as ps) (s : Same H H') : PsAt C H' p as ps := ⟨s _ _ h.lst, h.len, fun i a q x y => (h.at_ i a q x y).same s⟩
theorem PsAt.of {H : Hp} {p : Addr} {tr : List Tr} (h1 : H p = some (.lst (refs tr))) (h2 : PartsAt C H tr) : PsAt C H p (tr.map (·.1)) (tr.map fun t => t.2.2) := by
  refine ⟨by rw [h1]; unfold refs; rw [List.map_map]; rfl, by rw [List.length_map, List.length_map], fun i a q x y => ?_⟩
  rw [List.getElem?_map, Option.map_eq_some_iff] at x y
  obtain ⟨t, ht, rfl⟩ := x
  obtain ⟨u, hu, rfl⟩ := y
  rw [ht] at hu
  cases hu
  exact h2.of (List.mem_of_getElem? ht)
theorem PsAt.get {H : Hp} {p : Addr} {as : List Addr} {ps : List Sv14.Part} (h : PsAt C H p as ps) {i : Nat} {y : V} (hi : (as.map V.ref)[i]? = some y) : ∃ a q, y = V.ref a ∧ ps[i]? = some q ∧ PartOf C H a q := by
  rw [List.getElem?_map, Option.map_eq_some_iff] at hi
  obtain ⟨a, ha, rfl⟩ := hi
  have lt := (List.getElem?_eq_some_iff.mp ha).1
  rw [h.len] at lt
  exact ⟨a, ps[i], rfl, List.getElem?_eq_getElem lt, h.at_ i a _ ha (List.getElem?_eq_getElem lt)⟩
def sp_has_runs (C : Addr) : Sp := fun vs H Q _ => ∃ (p : Addr) (as : List Addr) (ps : List Sv14.Part), vs = [.ref p] ∧ PsAt C H p as ps ∧ ps.length ≤ 70000 ∧ ∀ H', Same H H' → Q (.bl (anyRuns ps)) H'
theorem sc_has_runs : FnScope ["parts", "part"] ["parts"] (defScope s_has_runs) := ⟨rfl, rfl, rfl, by decide +kernel, rfl, by decide +kernel, by decide +kernel⟩
theorem any_map (ps : List Sv14.Part) : (ps.map fun q => q.runs).any id = anyRuns ps := by
  unfold anyRuns
  rw [List.any_map]; rfl
theorem ok_has_runs (T : Txt K mg C D) : DefOk P w K mg base "has_runs" ["parts"] 1 (sp_has_runs C) := by
  have cl := T.Part.cl
  have nR := T.Part.no "as_runs" (by simp)
  have nd := sc_has_runs.nd
  refine T.has_runs.ok sc_has_runs (fun vs H Q E h => ?_) (fun f cdv A outer s H vs Q E hr h => ?_)
  · obtain ⟨p, as, ps, rfl, _⟩ := h; rfl
  · obtain ⟨p, as, ps, rfl, hp, hl, k⟩ := h
    refine ⟨_, pss_one (ps_ret (pe_callB (cr_any rfl) rfl T.any (by rfl) (pa_cons (pe_lc (te := tFld K (tVar 1) "as_runs") (own := [("part", 1)]) rfl nd (pi_list (pv 0)) (blkOk_by (by show blkC ["parts", "part"] (defScope s_has_runs) _ [("part", 1)] = true; decide +kernel)) (fun _ _ _ _ _ => by exact pg_name (i := 1) nd rfl (Or.inl rfl)) (fun _ _ _ _ _ => by exact pts_nil) (fun _ _ _ _ _ => by exact pe_fld (pv 1) rfl)) pa_nil))), ?_⟩
    refine ⟨_, rfl, p, rfl, ⟨_, SqL.of hp.lst⟩, fun q hq => lc_list (K := K) (a := p) (xs := as.map V.ref) (fun i H' => H' q = some (.lst ((ps.take i).map fun x => V.bl x.runs)) ∧ Same H H') ?_ ?_ ?_ ?_⟩
    · exact ⟨upd_same, Same.new hq⟩
    · rintro i H' _ ⟨_, sm⟩
      exact SqL.of (sm _ _ hp.lst)
    · rintro i x H' hi ⟨h1, sm⟩
      obtain ⟨a, r, rfl, hr', dx, e, x1, x2⟩ := (hp.same sm).get hi
      refine ⟨rfl, ?_⟩
      refine ⟨_, rfl, a, C, dx, _, _, rfl, x1, cl, nR, pf_runs, _, h1, ?_, ?_, ?_⟩
      · rw [List.length_map, List.length_take, sizeLine_val]; omega
      · rw [upd_same, take_snoc hr', List.map_append]; rfl
      · intro b o hb
        rw [upd_ne (ne_of_none hb hq)]; exact sm _ _ hb
    · rintro H' ⟨h1, sm⟩
      rw [List.length_map, hp.len, List.take_length] at h1
      refine ⟨q, ps.map fun x => x.runs, rfl, SqL.of (by rw [h1, List.map_map]; rfl), ?_⟩
      rw [any_map]
      exact k H' sm
def frontNat (ps : List Sv14.Part) : frontI (ps.length : Int) (anyRuns ps) = ((Sv14.frontLong ps : Nat) : Int) := by
  unfold frontI keysI tellsB Sv14.frontLong
  dsimp only
  rw [all_any]
  cases anyRuns ps with
  | false => simp only [Bool.not_false, Bool.true_or, if_true, Bool.false_eq_true, if_false]; omega
  | true =>
    simp only [Bool.not_true, Bool.false_or, if_true, Bool.false_eq_true, if_false]
    by_cases c : ps.length < 4
    · rw [if_pos c, if_neg (by simpa using by omega)]; omega
    · rw [if_neg c, if_pos (decide_eq_true (by omega))]; omega
def sp_set_size (C : Addr) : Sp := fun vs H Q _ => ∃ (p : Addr) (as : List Addr) (ps : List Sv14.Part), vs = [.ref p] ∧ PsAt C H p as ps ∧ ps.length ≤ 70000 ∧ (∀ q, q ∈ ps → Ok q.spans) ∧ ∀ H', Same H H' → Q (.int (Sv14.wholeLong ps)) H'
theorem sc_set_size : FnScope ["parts", "part"] ["parts"] (defScope s_set_size) := ⟨rfl, rfl, rfl, by decide +kernel, rfl, by decide +kernel, by decide +kernel⟩
theorem sum_cast : ∀ l : List Nat, (l.map fun (n : Nat) => (n : Int)).sum = ((l.sum : Nat) : Int)
  | [] => rfl
  | x :: l => by rw [List.map_cons, List.sum_cons, List.sum_cons, sum_cast l]; omega
theorem ok_set_size (T : Txt K mg C D) : DefOk P w K mg base "set_size" ["parts"] 5 (sp_set_size C) := by
  have nd := sc_set_size.nd
  refine T.set_size.ok sc_set_size (fun vs H Q E h => ?_) (fun f cdv A outer s H vs Q E hr h => ?_)
  · obtain ⟨p, as, ps, rfl, _⟩ := h; rfl
  · obtain ⟨p, as, ps, rfl, hp, hl, ho, k⟩ := h
    refine ⟨_, pss_one (ps_ret (pe_op op_add (pe_callD (ok_front_size T) (hr.mono (by decide)) rfl (pa_cons (pe_callB call_len_seq (by rfl) T.len PySem.boot_len (pa_cons (pv 0) pa_nil)) (pa_cons (pe_callD (ok_has_runs T) (hr.mono (by decide)) rfl (pa_cons (pv 0) pa_nil)) pa_nil)))
      (pe_callB (cr_sum rfl) rfl T.sum (by rfl) (pa_cons (pe_lc (te := tCall (sp_part_size C) [] E0 (tCons (tVar 1) tNil)) (own := [("part", 1)]) rfl nd (pi_list (pv 0)) (blkOk_by (by show blkC ["parts", "part"] (defScope s_set_size) _ [("part", 1)] = true; decide +kernel)) (fun _ _ _ _ _ => by exact pg_name (i := 1) nd rfl (Or.inl rfl)) (fun _ _ _ _ _ => by exact pts_nil) (fun _ _ _ _ _ => by exact pe_callD (ok_part_size T) hr rfl (pa_cons (pv 1) pa_nil))) pa_nil)))), ?_⟩
    refine ⟨_, rfl, p, _, rfl, .inl (SqL.of hp.lst), _, rfl, p, as, ps, rfl, hp, hl, fun H1 s1 => ⟨_, _, rfl, ?_⟩⟩
    refine ⟨_, rfl, p, rfl, ⟨_, SqL.of (s1 _ _ hp.lst)⟩, fun q hq => lc_list (K := K) (a := p) (xs := as.map V.ref) (fun i H' => H' q = some (.lst ((ps.take i).map fun x => V.int x.long)) ∧ Same H1 H') ?_ ?_ ?_ ?_⟩
    · exact ⟨upd_same, Same.new hq⟩
    · rintro i H' _ ⟨_, sm⟩
      exact SqL.of (sm _ _ (s1 _ _ hp.lst))
    · rintro i x H' hi ⟨h1, sm⟩
      obtain ⟨a, r, rfl, hr', po⟩ := (hp.same (s1.trans sm)).get hi
      refine ⟨rfl, ?_⟩
      refine ⟨_, rfl, a, r, rfl, po, ho r (List.mem_of_getElem? hr'), fun H2 s2 => ⟨_, s2 _ _ h1, ?_, ?_, ?_⟩⟩
      · rw [List.length_map, List.length_take, sizeLine_val]; omega
      · rw [upd_same, take_snoc hr', List.map_append]; rfl
      · intro b o hb
        rw [upd_ne (ne_of_none hb hq)]; exact s2 _ _ (sm _ _ hb)
    · rintro H' ⟨h1, sm⟩
      rw [List.length_map, hp.len, List.take_length] at h1
      refine ⟨q, (ps.map Sv14.Part.long).map fun (n : Nat) => (n : Int), rfl, SqL.of (by rw [h1, List.map_map, List.map_map]; rfl), _, _, rfl, rfl, ?_⟩
      rw [sum_cast, List.length_map, hp.len, frontNat]
      exact k H' (s1.trans sm)
end
end PK
namespace PK
open PySem PySem.Spec PyProof.Rows L2 PM
section
variable {P : Program} {w : World} {K : PySem.W.Frag} {mg : Str → Option Value} {base : Heap} {C D : Addr}
def natL (l : List Nat) : List V := l.map fun (n : Nat) => V.int (n : Int)
theorem natL_append (l m : List Nat) : natL (l ++ m) = natL l ++ natL m := List.map_append
theorem natL_len (l : List Nat) : (natL l).length = l.length := List.length_map ..
theorem lit_snoc (k n : Nat) : Sv14.little (k + 1) n = Sv14.little k n ++ [n / 256 ^ k % 256] := by
  unfold Sv14.little; rw [List.range_succ, List.map_append]; rfl
def Gives (H : Hp) (Q : VK) (xs : List V) : Prop := ∀ (H' : Hp) (q : Addr), Same H H' → H q = none → H' q = some (.lst xs) → Q (.ref q) H'
def sp_number_bytes : Sp := fun vs H Q _ => ∃ (n k : Nat), vs = [.int n, .int k] ∧ k ≤ 8 ∧ Gives H Q (natL (Sv14.little k n))
theorem sc_number_bytes : FnScope ["number", "size", "i"] ["number", "size"] (defScope s_number_bytes) := ⟨rfl, rfl, rfl, by decide +kernel, rfl, by decide +kernel, by decide +kernel⟩
theorem byte_val (n i : Nat) : Builtin.bitAnd ((n : Int) / 2 ^ (8 * ((0 : Int) + (i : Int))).toNat) 255 = ((n / 256 ^ i % 256 : Nat) : Int) := by
  rw [bitAnd_m8, show (8 * ((0 : Int) + (i : Int))).toNat = 8 * i by omega]
  have e : (2 : Int) ^ (8 * i) = ((256 ^ i : Nat) : Int) := by
    rw [Int.natCast_pow, Int.pow_mul]; rfl
  rw [e, ← Int.natCast_ediv]
  generalize n / 256 ^ i = z
  omega
theorem ok_number_bytes (T : Txt K mg C D) : DefOk P w K mg base "number_bytes" ["number", "size"] 1 sp_number_bytes := by
  have nd := sc_number_bytes.nd
  refine T.number_bytes.ok sc_number_bytes (fun vs H Q E h => ?_) (fun f cdv A outer s H vs Q E hr h => ?_)
  · obtain ⟨n, k, rfl, _⟩ := h; rfl
  · obtain ⟨n, k, rfl, hk, q⟩ := h
    refine ⟨_, pss_one (ps_ret (pe_lc (own := [("i", 2)]) rfl nd (pi_range1 rfl T.range (pa_cons (pv 1) pa_nil)) (blkOk_by (by show blkC ["number", "size", "i"] (defScope s_number_bytes) _ [("i", 2)] = true; decide +kernel)) (fun _ _ _ _ _ => by exact pg_name (i := 2) nd rfl (Or.inl rfl)) (fun _ _ _ _ _ => by exact pts_nil)
      (fun _ _ _ _ _ => by exact pe_op op_and (pe_op op_shr (pv 0) (pe_op op_mul pe_int (pv 2))) pe_int))), ?_⟩
    refine ⟨_, rfl, k, rfl, by omega, by omega, fun d hd => lc_range (fun i H' => H' d = some (.lst (natL (Sv14.little i n))) ∧ Same H H') ?_ ?_ ?_⟩
    · exact ⟨upd_same, Same.new hd⟩
    · rintro i H' hi ⟨h1, sm⟩
      refine ⟨rfl, ?_⟩
      refine ⟨_, rfl, _, rfl, _, _, rfl, rfl, .inl ⟨by decide, by decide⟩, _, _, rfl, rfl, by omega, _, _, rfl, rfl, _, h1, ?_, ?_, ?_⟩
      · rw [natL_len, sizeLine_val]; unfold Sv14.little; rw [List.length_map, List.length_range]; omega
      · rw [upd_same, lit_snoc, natL_append]
        have := byte_val n i
        dsimp only
        rw [this]; rfl
      · intro b o hb
        rw [upd_ne (ne_of_none hb hd)]; exact sm _ _ hb
    · rintro H' ⟨h1, sm⟩
      exact q H' d sm hd (by rw [h1, Int.toNat_natCast])
def PIn (p : Sv14.Part) : Prop := (∀ s, s ∈ p.spans → s.1 ≤ s.2 ∧ s.2 < 65536) ∧ p.spans.length ≤ 65536 ∧ Sv14.sizeOf_ p.spans ≤ 65536
def sp_numbers_within (C : Addr) : Sp := fun vs H Q _ => ∃ (a : Addr) (p : Sv14.Part), vs = [.ref a] ∧ PartOf C H a p ∧ PIn p ∧ Gives H Q (natL (nums p.spans))
theorem sc_numbers_within : FnScope ["part", "numbers", "i"] ["part"] (defScope s_numbers_within) := ⟨rfl, rfl, rfl, by decide +kernel, rfl, by decide +kernel, by decide +kernel⟩
theorem nums_snoc (l : List Sv14.Span) (s : Sv14.Span) : nums (l ++ [s]) = nums l ++ (List.range (s.2 + 1 - s.1)).map fun i => s.1 + i := by
  unfold nums; rw [List.flatMap_append, List.flatMap_cons, List.flatMap_nil, List.append_nil]
theorem rng_nat (a n : Nat) : rngV (a : Int) n = natL ((List.range n).map fun i => a + i) := by
  unfold rngV natL; rw [List.map_map]; apply List.map_congr_left; intro i _; show V.int _ = V.int _; congr 1
theorem size_take (l : List Sv14.Span) (i : Nat) : Sv14.sizeOf_ (l.take i) ≤ Sv14.sizeOf_ l := by
  conv => rhs; rw [← List.take_append_drop i l]
  rw [size_append]; omega
theorem ok_numbers_within (T : Txt K mg C D) : DefOk P w K mg base "numbers_within" ["part"] 1 (sp_numbers_within C) := by
  have cl := T.Part.cl
  have nE := T.Part.no "edges" (by simp)
  have nd := sc_numbers_within.nd
  refine T.numbers_within.ok sc_numbers_within (fun vs H Q E h => ?_) (fun f cdv A outer s H vs Q E hr h => ?_)
  · obtain ⟨a, p, rfl, _⟩ := h; rfl
  · obtain ⟨a, p, rfl, ⟨dx, e, h1, h2⟩, hin, k⟩ := h
    refine ⟨_, pss_cons (ps_set (i := 1) nd rfl (Or.inl rfl) (pe_lst pa_nil))
      (pss_cons (ps_for PassesOwn.never rfl (pi_range3 rfl T.range (pa_cons pe_int (pa_cons (pe_callB call_len_seq (by rfl) T.len PySem.boot_len (pa_cons (pe_fld (pv 0) rfl) pa_nil)) (pa_cons pe_int pa_nil)))) (pg_name (i := 2) nd rfl (Or.inl rfl))
        (pss_one (ps_expr (pe_bm PySem.F.plainAttrs_list PySem.F.slot_list_extend PySem.F.type_list_extend mt_extend (pv 1) (pa_cons (pe_callTy (call_list_rng rfl) rfl T.list (by rfl) (pa_cons (pe_callTy call_rng2 rfl T.range (by rfl)
          (pa_cons (pe_ix ix_list (pe_fld (pv 0) rfl) (pv 2) (fun _ _ => rfl)) (pa_cons (pe_ix ix_list (pe_fld (pv 0) rfl) (pe_op op_add (pv 2) pe_int) (fun _ _ => rfl)) pa_nil))) pa_nil)) pa_nil)))))
      (pss_one (ps_ret (pv 1)))), ?_⟩
    refine ⟨Nat.zero_le _, fun d hd => ?_⟩
    have s1 := Same.new (o := .lst []) hd
    refine ⟨_, rfl, a, C, dx, _, _, rfl, s1 _ _ h1, cl, nE, pf_edges, e, _, rfl, .inl (SqL.of (s1 _ _ h2)), 0, _, 2, p.spans.length, rfl, ?_, ?_⟩
    · rw [flV_len]; exact rg_two (by have := hin.2.1; omega)
    · refine for_rangeC (Pv := fun i σ H' => ∃ v2 : Option V, σ = [some (.ref a), some (.ref d), v2] ∧ H' d = some (.lst (natL (nums (p.spans.take i)))) ∧ Same H H') ?_ ?_ ?_
      · exact ⟨none, rfl, upd_same, s1⟩
      · rintro i σ H1 hi ⟨v2, rfl, x1, sm⟩
        have hsi : p.spans[i]? = some p.spans[i] := List.getElem?_eq_getElem hi
        generalize p.spans[i] = sp at hsi
        have hv := hin.1 sp (List.mem_of_getElem? hsi)
        have e0 : (0 : Int) + (i : Int) * 2 = ((2 * i : Nat) : Int) := by omega
        rw [e0]
        have ix : atI (flV p.spans) (((2 * i : Nat) : Int) + 1) = some (V.int ((sp.2 : Int) + 1)) := at_of (j := 2 * i + 1) (by omega) (flV_odd hsi)
        refine ⟨_, rfl, .inl ⟨rfl, _, SqL.of x1⟩, _, rfl, a, C, dx, _, _, rfl, sm _ _ h1, cl, nE, pf_edges, _, rfl, e, _, _, _, rfl, rfl, SqL.of (sm _ _ h2), atI_nat (flV_even hsi),
          _, rfl, a, C, dx, _, _, rfl, sm _ _ h1, cl, nE, pf_edges, _, rfl, _, _, rfl, rfl, e, _, _, _, rfl, rfl, SqL.of (sm _ _ h2), ix, _, _, rfl, fun g hg => ?_⟩
        refine ⟨g, _, _, rfl, upd_same, ⟨by omega, by omega, by omega, by omega⟩, by omega, fun l hl => ?_⟩
        have dg : d ≠ g := ne_of_none x1 hg
        have gl : g ≠ l := fun z => by rw [z, upd_same] at hl; cases hl
        have hl1 : H1 l = none := by rw [upd_ne (Ne.symm gl)] at hl; exact hl
        have dl : d ≠ l := ne_of_none x1 hl1
        have en : (((sp.2 : Int) + 1) - (sp.1 : Int)).toNat = sp.2 + 1 - sp.1 := by omega
        have sz := size_take p.spans (i + 1)
        rw [take_snoc hsi, size_append] at sz
        have sz1 : Sv14.sizeOf_ [sp] = sp.2 + 1 - sp.1 := by rw [size_cons, size_nil]; omega
        refine ⟨d, l, _, _, rfl, rfl, by rw [upd_ne dl, upd_ne dg]; exact x1, upd_same, ?_, ?_⟩
        · rw [natL_len, nums_length, en, rng_nat, natL_len, List.length_map, List.length_range, sizeLine_val]
          have := hin.2.2
          omega
        · refine ⟨_, rfl, ?_, ?_⟩
          · rw [upd_same, en, rng_nat, take_snoc hsi, nums_snoc, natL_append]
          · intro b o hb
            rw [upd_ne (ne_of_none hb hd), upd_ne (ne_of_none (sm _ _ hb) hl1), upd_ne (ne_of_none (sm _ _ hb) hg)]
            exact sm _ _ hb
      · rintro σ H1 ⟨v2, rfl, x1, sm⟩
        rw [List.take_length] at x1
        exact ⟨_, rfl, k H1 d sm hd x1⟩
end
end PK
namespace PK
open PySem PySem.Spec PyProof.Rows L2 PM
section
variable {P : Program} {w : World} {K : PySem.W.Frag} {mg : Str → Option Value} {base : Heap} {C D : Addr}
def rbs (l : List Sv14.Span) : List Nat := l.flatMap fun s => Sv14.little 2 s.1 ++ Sv14.little 2 (s.2 - s.1)
theorem rbs_snoc (l : List Sv14.Span) (s : Sv14.Span) : rbs (l ++ [s]) = rbs l ++ (Sv14.little 2 s.1 ++ Sv14.little 2 (s.2 - s.1)) := by
  unfold rbs; rw [List.flatMap_append, List.flatMap_cons, List.flatMap_nil, List.append_nil]
theorem rbs_len (l : List Sv14.Span) : (rbs l).length = 4 * l.length := flat_len (k := 4) (fun s => by rw [List.length_append, little_len, little_len]) l
def sp_runs_bytes (C : Addr) : Sp := fun vs H Q _ => ∃ (a : Addr) (p : Sv14.Part), vs = [.ref a] ∧ PartOf C H a p ∧ PIn p ∧ Gives H Q (natL (Sv14.little 2 p.spans.length ++ rbs p.spans))
theorem sc_runs_bytes : FnScope ["part", "written", "i", "first"] ["part"] (defScope s_runs_bytes) := ⟨rfl, rfl, rfl, by decide +kernel, rfl, by decide +kernel, by decide +kernel⟩
theorem ok_runs_bytes (T : Txt K mg C D) : DefOk P w K mg base "runs_bytes" ["part"] 2 (sp_runs_bytes C) := by
  have cl := T.Part.cl
  have nE := T.Part.no "edges" (by simp)
  have nd := sc_runs_bytes.nd
  refine T.runs_bytes.ok sc_runs_bytes (fun vs H Q E h => ?_) (fun f cdv A outer s H vs Q E hr h => ?_)
  · obtain ⟨a, p, rfl, _⟩ := h; rfl
  · obtain ⟨a, p, rfl, ⟨dx, e, h1, h2⟩, hin, k⟩ := h
    refine ⟨_, pss_cons (ps_set (i := 1) nd rfl (Or.inl rfl) (pe_callD (ok_number_bytes T) hr rfl (pa_cons (pe_op op_fdiv (pe_callB call_len_seq (by rfl) T.len PySem.boot_len (pa_cons (pe_fld (pv 0) rfl) pa_nil)) pe_int) (pa_cons pe_int pa_nil))))
      (pss_cons (ps_for PassesOwn.never rfl (pi_range3 rfl T.range (pa_cons pe_int (pa_cons (pe_callB call_len_seq (by rfl) T.len PySem.boot_len (pa_cons (pe_fld (pv 0) rfl) pa_nil)) (pa_cons pe_int pa_nil)))) (pg_name (i := 2) nd rfl (Or.inl rfl))
        (pss_cons (ps_set (i := 3) nd rfl (Or.inl rfl) (pe_ix ix_list (pe_fld (pv 0) rfl) (pv 2) (fun _ _ => rfl)))
        (pss_cons (ps_expr (pe_bm PySem.F.plainAttrs_list PySem.F.slot_list_extend PySem.F.type_list_extend mt_extend (pv 1) (pa_cons (pe_callD (ok_number_bytes T) hr rfl (pa_cons (pv 3) (pa_cons pe_int pa_nil))) pa_nil)))
        (pss_one (ps_expr (pe_bm PySem.F.plainAttrs_list PySem.F.slot_list_extend PySem.F.type_list_extend mt_extend (pv 1) (pa_cons (pe_callD (ok_number_bytes T) hr rfl (pa_cons (pe_op op_sub (pe_op op_sub (pe_ix ix_list (pe_fld (pv 0) rfl) (pe_op op_add (pv 2) pe_int) (fun _ _ => rfl)) (pv 3)) pe_int) (pa_cons pe_int pa_nil))) pa_nil)))))))
      (pss_one (ps_ret (pv 1)))), ?_⟩
    have z : ((flV p.spans).length : Int) / 2 = ((p.spans.length : Nat) : Int) := by rw [flV_len]; omega
    refine ⟨_, rfl, a, C, dx, _, _, rfl, h1, cl, nE, pf_edges, e, _, rfl, .inl (SqL.of h2), _, _, rfl, rfl, ⟨by decide, by decide⟩, p.spans.length, 2, by dsimp only; rw [z]; rfl, by decide, fun H0 d s1 hd x0 => ?_⟩
    refine ⟨_, rfl, a, C, dx, _, _, rfl, s1 _ _ h1, cl, nE, pf_edges, e, _, rfl, .inl (SqL.of (s1 _ _ h2)), 0, _, 2, p.spans.length, rfl, ?_, ?_⟩
    · rw [flV_len]; exact rg_two (by have := hin.2.1; omega)
    · refine for_rangeC (Pv := fun i σ H' => ∃ v2 v3 : Option V, σ = [some (.ref a), some (.ref d), v2, v3] ∧ H' d = some (.lst (natL (Sv14.little 2 p.spans.length ++ rbs (p.spans.take i)))) ∧ Same H H') ?_ ?_ ?_
      · exact ⟨none, none, rfl, by rw [x0, List.take_zero]; rfl, s1⟩
      · rintro i σ H1 hi ⟨v2, v3, rfl, x1, sm⟩
        have hsi : p.spans[i]? = some p.spans[i] := List.getElem?_eq_getElem hi
        generalize p.spans[i] = sp at hsi
        have hv := hin.1 sp (List.mem_of_getElem? hsi)
        have e0 : (0 : Int) + (i : Int) * 2 = ((2 * i : Nat) : Int) := by omega
        rw [e0]
        have ix : atI (flV p.spans) (((2 * i : Nat) : Int) + 1) = some (V.int ((sp.2 : Int) + 1)) := at_of (j := 2 * i + 1) (by omega) (flV_odd hsi)
        have ev : ((sp.2 : Int) + 1) - (sp.1 : Int) - 1 = ((sp.2 - sp.1 : Nat) : Int) := by omega
        have bl : (natL (Sv14.little 2 p.spans.length ++ rbs (p.spans.take i))).length ≤ 300000 := by
          have := hin.2.1
          rw [natL_len, List.length_append, little_len, rbs_len, List.length_take]; omega
        refine ⟨_, rfl, a, C, dx, _, _, rfl, sm _ _ h1, cl, nE, pf_edges, _, rfl, e, _, _, _, rfl, rfl, SqL.of (sm _ _ h2), atI_nat (flV_even hsi), ?_⟩
        refine ⟨_, rfl, .inl ⟨rfl, _, SqL.of x1⟩, _, rfl, sp.1, 2, rfl, by decide, fun H2 g2 s2 hg2 y2 => ?_⟩
        have d2 : d ≠ g2 := ne_of_none x1 hg2
        refine ⟨d, g2, _, _, rfl, rfl, s2 _ _ x1, y2, by rw [natL_len (Sv14.little 2 sp.1), little_len, sizeLine_val]; omega, ?_⟩
        have s12 : Same H (upd H2 d (.lst (natL (Sv14.little 2 p.spans.length ++ rbs (p.spans.take i)) ++ natL (Sv14.little 2 sp.1)))) := fun b o hb => by
          rw [upd_ne (ne_of_none hb hd)]; exact s2 _ _ (sm _ _ hb)
        refine ⟨_, rfl, .inl ⟨rfl, _, SqL.of upd_same⟩, _, rfl, a, C, dx, _, _, rfl, s12 _ _ h1, cl, nE, pf_edges, _, rfl, _, _, rfl, rfl, e, _, _, _, rfl, rfl, SqL.of (s12 _ _ h2), ix, _, rfl, _, _, rfl, rfl, _, _, rfl, rfl, sp.2 - sp.1, 2, by dsimp only; rw [ev]; rfl, by decide, fun H3 g3 s3 hg3 y3 => ?_⟩
        refine ⟨d, g3, _, _, rfl, rfl, s3 _ _ upd_same, y3, by rw [List.length_append, natL_len (Sv14.little 2 sp.1), natL_len (Sv14.little 2 (sp.2 - sp.1)), little_len, little_len, sizeLine_val]; omega, ?_⟩
        refine ⟨_, _, rfl, ?_, ?_⟩
        · rw [upd_same, take_snoc hsi, rbs_snoc]; simp only [natL_append, List.append_assoc]
        · intro b o hb
          rw [upd_ne (ne_of_none hb hd)]; exact s3 _ _ (s12 _ _ hb)
      · rintro σ H1 ⟨v2, v3, rfl, x1, sm⟩
        rw [List.take_length] at x1
        exact ⟨_, rfl, k H1 d sm hd x1⟩
def lbs (l : List Nat) : List Nat := l.flatMap (Sv14.little 2)
theorem lbs_snoc (l : List Nat) (x : Nat) : lbs (l ++ [x]) = lbs l ++ Sv14.little 2 x := by unfold lbs; rw [List.flatMap_append, List.flatMap_cons, List.flatMap_nil, List.append_nil]
theorem lbs_len (l : List Nat) : (lbs l).length = 2 * l.length := flat_len (k := 2) (fun s => little_len _ _) l
theorem natL_get {l : List Nat} {i : Nat} {y : V} (h : (natL l)[i]? = some y) : ∃ n, l[i]? = some n ∧ y = V.int (n : Int) := by
  unfold natL at h
  rw [List.getElem?_map, Option.map_eq_some_iff] at h
  obtain ⟨n, a, b⟩ := h
  exact ⟨n, a, b.symm⟩
def sp_list_bytes (C : Addr) : Sp := fun vs H Q _ => ∃ (a : Addr) (p : Sv14.Part), vs = [.ref a] ∧ PartOf C H a p ∧ PIn p ∧ Gives H Q (natL (lbs (nums p.spans)))
theorem sc_list_bytes : FnScope ["part", "written", "number"] ["part"] (defScope s_list_bytes) := ⟨rfl, rfl, rfl, by decide +kernel, rfl, by decide +kernel, by decide +kernel⟩
theorem ok_list_bytes (T : Txt K mg C D) : DefOk P w K mg base "list_bytes" ["part"] 2 (sp_list_bytes C) := by
  have nd := sc_list_bytes.nd
  refine T.list_bytes.ok sc_list_bytes (fun vs H Q E h => ?_) (fun f cdv A outer s H vs Q E hr h => ?_)
  · obtain ⟨a, p, rfl, _⟩ := h; rfl
  · obtain ⟨a, p, rfl, hp, hin, k⟩ := h
    refine ⟨_, pss_cons (ps_set (i := 1) nd rfl (Or.inl rfl) (pe_lst pa_nil))
      (pss_cons (ps_for PassesOwn.never rfl (pi_list (pe_callD (ok_numbers_within T) hr rfl (pa_cons (pv 0) pa_nil))) (pg_name (i := 2) nd rfl (Or.inl rfl))
        (pss_one (ps_expr (pe_bm PySem.F.plainAttrs_list PySem.F.slot_list_extend PySem.F.type_list_extend mt_extend (pv 1) (pa_cons (pe_callD (ok_number_bytes T) hr rfl (pa_cons (pv 2) (pa_cons pe_int pa_nil))) pa_nil)))))
      (pss_one (ps_ret (pv 1)))), ?_⟩
    refine ⟨Nat.zero_le _, fun d hd => ?_⟩
    have s1 := Same.new (o := .lst []) hd
    refine ⟨_, rfl, a, p, rfl, hp.same s1, hin, fun H0 q s2 hq x0 => ?_⟩
    have qd : q ≠ d := fun z => by rw [z, upd_same] at hq; cases hq
    have hq0 : H q = none := by rw [upd_ne qd] at hq; exact hq
    refine ⟨q, rfl, ⟨_, SqL.of x0⟩, for_list (K := K) (a := q) (xs := natL (nums p.spans)) (fun i σ H' => ∃ v2 : Option V, σ = [some (.ref a), some (.ref d), v2] ∧ H' d = some (.lst (natL (lbs ((nums p.spans).take i)))) ∧ H' q = some (.lst (natL (nums p.spans))) ∧ Same H H') ?_ ?_ ?_ ?_⟩
    · exact ⟨none, rfl, s2 _ _ upd_same, x0, s1.trans s2⟩
    · rintro i σ H' _ ⟨_, _, _, h2, _⟩
      exact SqL.of h2
    · rintro i y σ H1 hi ⟨v2, rfl, x1, x2, sm⟩
      obtain ⟨n, hn, rfl⟩ := natL_get hi
      refine ⟨_, rfl, .inl ⟨rfl, _, SqL.of x1⟩, _, rfl, n, 2, rfl, by decide, fun H2 g2 s3 hg2 y2 => ?_⟩
      refine ⟨d, g2, _, _, rfl, rfl, s3 _ _ x1, y2, ?_, ?_⟩
      · have := hin.2.2
        rw [natL_len, natL_len, lbs_len, little_len, List.length_take, nums_length, sizeLine_val]; omega
      · refine ⟨_, rfl, ?_, ?_, ?_⟩
        · rw [upd_same, take_snoc hn, lbs_snoc, natL_append]
        · rw [upd_ne qd]; exact s3 _ _ x2
        · intro b o hb
          rw [upd_ne (ne_of_none hb hd)]; exact s3 _ _ (sm _ _ hb)
    · rintro σ H1 ⟨v2, rfl, x1, x2, sm⟩
      rw [natL_len, List.take_length] at x1
      exact ⟨_, rfl, k H1 d sm hd x1⟩
def rGetN (K : PySem.W.Frag) : V → V → Hp → VK → Prop := fun x y H Q => ∃ (p : Addr) (xs : List V) (j : Nat) (v : V), x = .ref p ∧ y = .int j ∧ SqL K H p xs ∧ xs[j]? = some v ∧ Q v H
theorem get_list {X : Cx} : PGet X (rGetN X.K) := by
  intro pins s σ H o i ov iv Q I ro ri h
  obtain ⟨p, xs, j, z, rfl, rfl, hq, he, q⟩ := h
  cases ro
  obtain ⟨t, rfl⟩ := ri
  obtain ⟨its, r, pl, hz⟩ := I.list hq
  obtain ⟨w, ew, rw'⟩ := r.get he
  have lt := (List.getElem?_eq_some_iff.mp he).1
  rw [sizeLine_val] at hz
  exact wpAny_getItem_list pl.isList (by omega) (by omega) (by rw [Int.toNat_natCast]; simpa using ew) ⟨z, H, I, rw', q⟩
def sp_bits_bytes (C : Addr) : Sp := fun vs H Q _ => ∃ (a : Addr) (p : Sv14.Part), vs = [.ref a] ∧ PartOf C H a p ∧ PIn p ∧ Gives H Q (natL (Sv14.bitBytes p.spans))
theorem sc_bits_bytes : FnScope ["part", "written", "number"] ["part"] (defScope s_bits_bytes) := ⟨rfl, rfl, rfl, by decide +kernel, rfl, by decide +kernel, by decide +kernel⟩
theorem rep_zero : ∀ n : Nat, (List.replicate n [V.int 0]).flatten = natL (List.replicate n 0)
  | 0 => rfl
  | n + 1 => by rw [List.replicate_succ, List.replicate_succ, List.flatten_cons, rep_zero n]; rfl
theorem ok_bits_bytes (T : Txt K mg C D) : DefOk P w K mg base "bits_bytes" ["part"] 2 (sp_bits_bytes C) := by
  have nd := sc_bits_bytes.nd
  have gB := T.BITS_SIZE
  refine T.bits_bytes.ok sc_bits_bytes (fun vs H Q E h => ?_) (fun f cdv A outer s H vs Q E hr h => ?_)
  · obtain ⟨a, p, rfl, _⟩ := h; rfl
  · obtain ⟨a, p, rfl, hp, hin, k⟩ := h
    refine ⟨_, pss_cons (ps_set (i := 1) nd rfl (Or.inl rfl) (pe_op op_rep (pe_lst (pa_cons pe_int pa_nil)) (pe_gint rfl gB)))
      (pss_cons (ps_for PassesOwn.never rfl (pi_list (pe_callD (ok_numbers_within T) hr rfl (pa_cons (pv 0) pa_nil))) (pg_name (i := 2) nd rfl (Or.inl rfl))
        (pss_one (ps_augS (pv 1) (pe_op op_fdiv (pv 2) pe_int) get_list (pe_op op_shl pe_int (pe_op op_mod (pv 2) pe_int)) ip_add set_list)))
      (pss_one (ps_ret (pv 1)))), ?_⟩
    refine ⟨by decide, fun z hz => ?_⟩
    refine ⟨z, _, _, rfl, rfl, upd_same, by decide, by decide, by decide, fun d hd => ?_⟩
    have dz : d ≠ z := fun q => by rw [q, upd_same] at hd; cases hd
    have hd0 : H d = none := by rw [upd_ne dz] at hd; exact hd
    have s1 : Same H (upd (upd H z (.lst [V.int 0])) d (.lst (List.replicate (8192 : Int).toNat [V.int 0]).flatten)) := fun b o hb => by
      rw [upd_ne (ne_of_none hb hd0), upd_ne (ne_of_none hb hz)]; exact hb
    refine ⟨_, rfl, a, p, rfl, hp.same s1, hin, fun H0 q s2 hq x0 => ?_⟩
    have qd : q ≠ d := fun z => by rw [z, upd_same] at hq; cases hq
    have hx : H0 d = some (.lst (natL (List.replicate 8192 0))) := by rw [s2 _ _ upd_same, rep_zero]; rfl
    refine ⟨q, rfl, ⟨_, SqL.of x0⟩, for_list (K := K) (a := q) (xs := natL (nums p.spans)) (fun i σ H' => ∃ v2 : Option V, σ = [some (.ref a), some (.ref d), v2] ∧ H' d = some (.lst (natL (((nums p.spans).take i).foldl bstep (List.replicate 8192 0)))) ∧ H' q = some (.lst (natL (nums p.spans))) ∧ Same H H') ?_ ?_ ?_ ?_⟩
    · exact ⟨none, rfl, hx, x0, s1.trans s2⟩
    · rintro i σ H' _ ⟨_, _, _, h2, _⟩
      exact SqL.of h2
    · rintro i y σ H1 hi ⟨v2, rfl, x1, x2, sm⟩
      obtain ⟨n, hn, rfl⟩ := natL_get hi
      have hn6 : n < 65536 := nums_below (fun s hs => (hin.1 s hs).2) n (List.mem_of_getElem? hn)
      generalize ht : ((nums p.spans).take i).foldl bstep (List.replicate 8192 0) = t at x1
      have tl : t.length = 8192 := by rw [← ht, bfold_len, List.length_replicate]
      have lt : n / 8 < t.length := by omega
      have gy : t[n / 8]? = some t[n / 8] := List.getElem?_eq_getElem lt
      generalize t[n / 8] = y at gy
      have en : ((n : Nat) : Int) / 8 = ((n / 8 : Nat) : Int) := by omega
      refine ⟨_, rfl, _, rfl, _, _, rfl, rfl, ⟨by decide, by decide⟩, d, _, n / 8, V.int (y : Int), rfl, by dsimp only; rw [en], SqL.of x1, by unfold natL; rw [List.getElem?_map, gy]; rfl, _, rfl, _, _, rfl, rfl, (by show (0 : Int) < 8; decide), _, _, rfl, rfl, ⟨by omega, by omega, by decide⟩, _, _, rfl, rfl, d, _, _, n / 8, rfl, rfl, x1, ?_, ?_⟩
      · rw [en, natL_len]
        unfold ixN
        rw [if_pos (by omega), if_pos (by omega)]; congr 1
      · refine ⟨_, rfl, ?_, ?_, ?_⟩
        · rw [upd_same, take_snoc hn, List.foldl_append, ht, List.foldl_cons, List.foldl_nil, bstep_set gy]
          congr 2
          unfold natL
          rw [List.map_set]
          congr 1
          show V.int _ = V.int _
          congr 1
          have : (((n : Nat) : Int) % 8).toNat = n % 8 := by omega
          rw [this, Int.one_mul, Int.natCast_add, Int.natCast_pow]; rfl
        · rw [upd_ne qd]; exact x2
        · intro b o hb
          rw [upd_ne (ne_of_none hb hd0)]; exact sm _ _ hb
    · rintro σ H1 ⟨v2, rfl, x1, x2, sm⟩
      rw [natL_len, List.take_length, ← bitBytes_eq] at x1
      exact ⟨_, rfl, k H1 d sm hd0 x1⟩
end
end PK
namespace PK
open PySem PySem.Spec PyProof.Rows L2 PM
section
variable {P : Program} {w : World} {K : PySem.W.Frag} {mg : Str → Option Value} {base : Heap} {C D : Addr}
theorem PIn.ok {p : Sv14.Part} (h : PIn p) : Ok p.spans := fun s hs => (h.1 s hs).1
def sp_part_bytes (C : Addr) : Sp := fun vs H Q _ => ∃ (a : Addr) (p : Sv14.Part), vs = [.ref a] ∧ PartOf C H a p ∧ PIn p ∧ Gives H Q (natL p.bytes)
theorem sc_part_bytes : FnScope ["part"] ["part"] (defScope s_part_bytes) := ⟨rfl, rfl, rfl, by decide +kernel, rfl, by decide +kernel, by decide +kernel⟩
theorem Gives.same {H H0 : Hp} {Q : VK} {xs : List V} (g : Gives H Q xs) (s : Same H H0) : Gives H0 Q xs := fun H' q sm hq x => g H' q (s.trans sm) (s.free hq) x
theorem ok_part_bytes (T : Txt K mg C D) : DefOk P w K mg base "part_bytes" ["part"] 3 (sp_part_bytes C) := by
  have cl := T.Part.cl
  have nE := T.Part.no "edges" (by simp)
  have nR := T.Part.no "as_runs" (by simp)
  refine T.part_bytes.ok sc_part_bytes (fun vs H Q E h => ?_) (fun f cdv A outer s H vs Q E hr h => ?_)
  · obtain ⟨a, p, rfl, _⟩ := h; rfl
  · obtain ⟨a, p, rfl, hp, hin, k⟩ := h
    have hp' := hp
    obtain ⟨dx, e, h1, h2⟩ := hp'
    refine ⟨_, pss_cons (ps_if (pt_val (pe_fld (pv 0) rfl)) (pss_one (ps_ret (pe_callD (ok_runs_bytes T) hr rfl (pa_cons (pv 0) pa_nil)))) pss_nil)
      (pss_cons (ps_if (pt_val (pe_callD (ok_is_listed T) (hr.mono (by decide)) rfl (pa_cons (pe_callD (ok_count_numbers T) (hr.mono (by decide)) rfl (pa_cons (pe_fld (pv 0) rfl) pa_nil)) pa_nil))) (pss_one (ps_ret (pe_callD (ok_list_bytes T) hr rfl (pa_cons (pv 0) pa_nil)))) pss_nil)
      (pss_one (ps_ret (pe_callD (ok_bits_bytes T) hr rfl (pa_cons (pv 0) pa_nil))))), ?_⟩
    refine ⟨_, rfl, a, C, dx, _, _, rfl, h1, cl, nR, pf_runs, _, rfl, ?_⟩
    unfold Sv14.Part.bytes at k
    by_cases hr' : p.runs = true
    · refine goT hr' ?_
      rw [if_pos hr'] at k
      exact ⟨_, rfl, a, p, rfl, hp, hin, k⟩
    · rw [if_neg hr'] at k
      refine goF (by simpa using hr') ?_
      refine ⟨_, rfl, a, C, dx, _, _, rfl, h1, cl, nE, pf_edges, e, _, rfl, SqL.of h2, hin.ok, fun H1 s1 => ⟨_, rfl, _, rfl, ?_⟩⟩
      by_cases c : Sv14.sizeOf_ p.spans ≤ 4096
      · refine goT (decide_eq_true (by omega)) ?_
        rw [if_pos c, some_all _ _ hin.ok c] at k
        exact ⟨_, rfl, a, p, rfl, hp.same s1, hin, k.same s1⟩
      · refine goF (decide_eq_false (by omega)) ?_
        rw [if_neg c] at k
        exact ⟨_, rfl, a, p, rfl, hp.same s1, hin, k.same s1⟩
def Pins (ps : List Sv14.Part) : Prop := ∀ q, q ∈ ps → PIn q ∧ q.key < 65536 ∧ 1 ≤ Sv14.sizeOf_ q.spans
def sp_marks_bytes (C : Addr) : Sp := fun vs H Q _ => ∃ (p : Addr) (as : List Addr) (ps : List Sv14.Part), vs = [.ref p] ∧ PsAt C H p as ps ∧ ps.length ≤ 70000 ∧ Gives H Q (natL (marks (ps.map fun x => x.runs) ps.length))
theorem sc_marks_bytes : FnScope ["parts", "written", "i", "part"] ["parts"] (defScope s_marks_bytes) := ⟨rfl, rfl, rfl, by decide +kernel, rfl, by decide +kernel, by decide +kernel⟩
theorem for_enum {K : PySem.W.Frag} {a : Addr} {xs : List V} {g : TG} {tb : TS} {Dn : Ends} {σ : L2.St} {H : Hp} (Pv : Nat → L2.St → Hp → Prop) (h0 : Pv 0 σ H) (hl : ∀ i σ H, i ≤ xs.length → Pv i σ H → SqL K H a xs)
    (hs : ∀ i x σ H T, xs[i]? = some x → Pv i σ H → H T = none → g (.ref T) σ (upd H T (.tup [.int (i : Nat), x])) fun σ2 H2 => tb { Dn with nx := Pv (i + 1), ct := Pv (i + 1), bk := Dn.nx } σ2 H2) (hd : ∀ σ H, Pv xs.length σ H → Dn.nx σ H) :
    ∃ W : Nat → Nat → L2.St → Hp → Prop, (∃ m, W 0 m σ H) ∧ ∀ i m σ H, W i m σ H →
      ((Ite K a).stop i H ∧ Dn.nx σ H) ∨ ((Ite K a).go i H ∧ ∃ N : L2.St → Hp → Prop, (∀ σ' H', N σ' H' → ∃ m', m' < m ∧ W (i + 1) m' σ' H') ∧ ∀ x H', (Ite K a).yld i H x H' → g x σ H' fun σ2 H2 => tb { Dn with nx := N, ct := N, bk := Dn.nx } σ2 H2) := by
  refine ⟨fun i m σ H => m = xs.length - i ∧ i ≤ xs.length ∧ Pv i σ H, ⟨xs.length, rfl, Nat.zero_le _, h0⟩, fun i m σ H hw => ?_⟩
  obtain ⟨rfl, hi, pv⟩ := hw
  have sq := hl i σ H hi pv
  rcases Nat.lt_or_ge i xs.length with c | c
  · have gx : xs[i]? = some xs[i] := List.getElem?_eq_getElem c
    refine .inr ⟨⟨xs, _, sq, gx⟩, Pv (i + 1), fun σ' H' p' => ⟨xs.length - (i + 1), by omega, rfl, c, p'⟩, fun x H' y => ?_⟩
    obtain ⟨T, x', rfl, hT, rfl, all⟩ := y
    exact hs i x' σ H T (all xs sq) pv hT
  · have e : i = xs.length := by omega
    subst e
    exact .inl ⟨⟨xs, sq, c⟩, hd σ H pv⟩
theorem ok_marks_bytes (T : Txt K mg C D) : DefOk P w K mg base "marks_bytes" ["parts"] 2 (sp_marks_bytes C) := by
  have cl := T.Part.cl
  have nR := T.Part.no "as_runs" (by simp)
  have nd := sc_marks_bytes.nd
  refine T.marks_bytes.ok sc_marks_bytes (fun vs H Q E h => ?_) (fun f cdv A outer s H vs Q E hr h => ?_)
  · obtain ⟨p, as, ps, rfl, _⟩ := h; rfl
  · obtain ⟨p, as, ps, rfl, hp, hl, k⟩ := h
    refine ⟨_, pss_cons (ps_set (i := 1) nd rfl (Or.inl rfl) (pe_op op_rep (pe_lst (pa_cons pe_int pa_nil)) (pe_callD (ok_marks_size T) hr rfl (pa_cons (pe_callB call_len_seq (by rfl) T.len PySem.boot_len (pa_cons (pv 0) pa_nil)) pa_nil))))
      (pss_cons (ps_for PassesOwn.never rfl (pi_enum rfl T.enumerate (pa_cons (pv 0) pa_nil)) (pg_tup rfl (pgs_cons (pg_name (i := 2) nd rfl (Or.inl rfl)) (pgs_cons (pg_name (i := 3) nd rfl (Or.inl rfl)) pgs_nil)))
        (pss_one (ps_if (pt_val (pe_fld (pv 3) rfl)) (pss_one (ps_augS (pv 1) (pe_op op_fdiv (pv 2) pe_int) get_list (pe_op op_shl pe_int (pe_op op_mod (pv 2) pe_int)) ip_add set_list)) pss_nil)))
      (pss_one (ps_ret (pv 1)))), ?_⟩
    refine ⟨by decide, fun z hz => ?_⟩
    have sz1 := Same.new (o := .lst [V.int 0]) hz
    have ek : ((((as.map V.ref).length : Nat) : Int) + 7) / 8 = (((ps.length + 7) / 8 : Nat) : Int) := by rw [List.length_map, hp.len]; omega
    refine ⟨_, rfl, p, _, rfl, .inl (SqL.of (sz1 _ _ hp.lst)), _, rfl, ?_⟩
    rw [ek]
    refine ⟨z, _, _, rfl, rfl, upd_same, by omega, by omega, ?_, fun d hd => ?_⟩
    · rw [Int.toNat_natCast, sizeLine_val]; show 1 * _ ≤ _; omega
    have dz : d ≠ z := fun q => by rw [q, upd_same] at hd; cases hd
    have hd0 : H d = none := by rw [upd_ne dz] at hd; exact hd
    have s1 : Same H (upd (upd H z (.lst [V.int 0])) d (.lst (List.replicate (((ps.length + 7) / 8 : Nat) : Int).toNat [V.int 0]).flatten)) := fun b o hb => by
      rw [upd_ne (ne_of_none hb hd0), upd_ne (ne_of_none hb hz)]; exact hb
    have fl : (ps.map fun x => x.runs).length = ps.length := List.length_map ..
    refine ⟨_, rfl, p, _, rfl, SqL.of (s1 _ _ hp.lst), for_enum (K := K) (a := p) (xs := as.map V.ref) (fun i σ H' => ∃ v2 v3 : Option V, σ = [some (.ref p), some (.ref d), v2, v3] ∧ H' d = some (.lst (natL (marks (ps.map fun x => x.runs) i))) ∧ Same H H') ?_ ?_ ?_ ?_⟩
    · refine ⟨none, none, rfl, ?_, s1⟩
      rw [upd_same, rep_zero, Int.toNat_natCast, marks_zero, fl]
    · rintro i σ H' _ ⟨_, _, _, _, sm⟩
      exact SqL.of (sm _ _ hp.lst)
    · rintro i y σ H1 Tp hi ⟨v2, v3, rfl, x1, sm⟩ hT
      obtain ⟨a, r, rfl, hr', dx, e, y1, y2⟩ := hp.get hi
      have sT : Same H1 (upd H1 Tp (.tup [.int (i : Nat), .ref a])) := Same.new hT
      have hlt : i < ps.length := (List.getElem?_eq_some_iff.mp hr').1
      have hf : (ps.map fun x => x.runs).getD i false = r.runs := by rw [List.getD_eq_getElem?_getD, List.getElem?_map, hr']; rfl
      refine ⟨Tp, _, rfl, SqT.of upd_same, rfl, _, _, rfl, _, _, rfl, rfl, ?_⟩
      have x1' := sT _ _ x1
      refine ⟨_, rfl, a, C, dx, _, _, rfl, sT _ _ (sm _ _ y1), cl, nR, pf_runs, _, rfl, ?_⟩
      by_cases hrr : r.runs = true
      · refine goT hrr ?_
        rw [hrr] at hf
        have ltm : i / 8 < ((ps.map fun x => x.runs).length + 7) / 8 := by rw [fl]; omega
        have gy := marks_get (f := ps.map fun x => x.runs) (n := i) ltm
        have en : ((i : Nat) : Int) / 8 = ((i / 8 : Nat) : Int) := by omega
        refine ⟨_, rfl, _, rfl, _, _, rfl, rfl, ⟨by decide, by decide⟩, d, _, i / 8, V.int (mark (ps.map fun x => x.runs) i (i / 8) : Nat), rfl, by dsimp only; rw [en], SqL.of x1', by unfold natL; rw [List.getElem?_map, gy]; rfl, _, rfl, _, _, rfl, rfl, (by show (0 : Int) < 8; decide), _, _, rfl, rfl, ⟨by omega, by omega, by decide⟩, _, _, rfl, rfl, d, _, _, i / 8, rfl, rfl, x1', ?_, ?_⟩
        · rw [en, natL_len, marks_len]
          unfold ixN
          rw [if_pos (by omega), if_pos (by omega)]; congr 1
        · refine ⟨_, _, rfl, ?_, ?_⟩
          · rw [upd_same, marks_yes (by rw [fl]; exact hlt) hf]
            congr 2
            unfold natL
            rw [List.map_set]
            congr 1
            show V.int _ = V.int _
            congr 1
            have : (((i : Nat) : Int) % 8).toNat = i % 8 := by omega
            rw [this, Int.one_mul, Int.natCast_add, Int.natCast_pow]; rfl
          · intro b o hb
            rw [upd_ne (ne_of_none hb hd0)]; exact sT _ _ (sm _ _ hb)
      · refine goF (by simpa using hrr) ?_
        refine ⟨_, _, rfl, ?_, sm.trans sT⟩
        rw [x1', marks_no (by rw [hf]; simpa using hrr)]
    · rintro σ H1 ⟨v2, v3, rfl, x1, sm⟩
      rw [List.length_map, hp.len] at x1
      exact ⟨_, rfl, k H1 d sm hd0 x1⟩
def hd2 (x : Sv14.Part) : List Nat := Sv14.little 2 x.key ++ Sv14.little 2 (Sv14.sizeOf_ x.spans - 1)
theorem heads_snoc (l : List Sv14.Part) (x : Sv14.Part) : heads (l ++ [x]) = heads l ++ hd2 x := by unfold heads hd2; rw [List.flatMap_append, List.flatMap_cons, List.flatMap_nil, List.append_nil]
theorem heads_len (l : List Sv14.Part) : (heads l).length = 4 * l.length := flat_len (k := 4) (fun s => by rw [List.length_append, little_len, little_len]) l
def sp_keys_bytes (C : Addr) : Sp := fun vs H Q _ => ∃ (p : Addr) (as : List Addr) (ps : List Sv14.Part), vs = [.ref p] ∧ PsAt C H p as ps ∧ ps.length ≤ 70000 ∧ Pins ps ∧ Gives H Q (natL (heads ps))
theorem sc_keys_bytes : FnScope ["parts", "written", "part"] ["parts"] (defScope s_keys_bytes) := ⟨rfl, rfl, rfl, by decide +kernel, rfl, by decide +kernel, by decide +kernel⟩
theorem ok_keys_bytes (T : Txt K mg C D) : DefOk P w K mg base "keys_bytes" ["parts"] 2 (sp_keys_bytes C) := by
  have cl := T.Part.cl
  have nK := T.Part.no "key" (by simp)
  have nE := T.Part.no "edges" (by simp)
  have nd := sc_keys_bytes.nd
  refine T.keys_bytes.ok sc_keys_bytes (fun vs H Q E h => ?_) (fun f cdv A outer s H vs Q E hr h => ?_)
  · obtain ⟨p, as, ps, rfl, _⟩ := h; rfl
  · obtain ⟨p, as, ps, rfl, hp, hl, hin, k⟩ := h
    refine ⟨_, pss_cons (ps_set (i := 1) nd rfl (Or.inl rfl) (pe_lst pa_nil))
      (pss_cons (ps_for PassesOwn.never rfl (pi_list (pv 0)) (pg_name (i := 2) nd rfl (Or.inl rfl))
        (pss_cons (ps_expr (pe_bm PySem.F.plainAttrs_list PySem.F.slot_list_extend PySem.F.type_list_extend mt_extend (pv 1) (pa_cons (pe_callD (ok_number_bytes T) hr rfl (pa_cons (pe_fld (pv 2) rfl) (pa_cons pe_int pa_nil))) pa_nil)))
        (pss_one (ps_expr (pe_bm PySem.F.plainAttrs_list PySem.F.slot_list_extend PySem.F.type_list_extend mt_extend (pv 1) (pa_cons (pe_callD (ok_number_bytes T) hr rfl (pa_cons (pe_op op_sub (pe_callD (ok_count_numbers T) hr rfl (pa_cons (pe_fld (pv 2) rfl) pa_nil)) pe_int) (pa_cons pe_int pa_nil))) pa_nil))))))
      (pss_one (ps_ret (pv 1)))), ?_⟩
    refine ⟨Nat.zero_le _, fun d hd => ?_⟩
    have s1 := Same.new (o := .lst []) hd
    refine ⟨_, rfl, p, rfl, ⟨_, SqL.of (s1 _ _ hp.lst)⟩, for_list (K := K) (a := p) (xs := as.map V.ref) (fun i σ H' => ∃ v2 : Option V, σ = [some (.ref p), some (.ref d), v2] ∧ H' d = some (.lst (natL (heads (ps.take i)))) ∧ Same H H') ?_ ?_ ?_ ?_⟩
    · exact ⟨none, rfl, upd_same, s1⟩
    · rintro i σ H' _ ⟨_, _, _, sm⟩
      exact SqL.of (sm _ _ hp.lst)
    · rintro i y σ H1 hi ⟨v2, rfl, x1, sm⟩
      obtain ⟨a, r, rfl, hr', dx, e, y1, y2⟩ := hp.get hi
      obtain ⟨pin, _, sz⟩ := hin r (List.mem_of_getElem? hr')
      have bl : (natL (heads (ps.take i))).length ≤ 300000 := by rw [natL_len, heads_len, List.length_take]; omega
      refine ⟨_, rfl, .inl ⟨rfl, _, SqL.of x1⟩, _, rfl, a, C, dx, _, _, rfl, sm _ _ y1, cl, nK, pf_key, r.key, 2, rfl, by decide, fun H2 g2 s2 hg2 z2 => ?_⟩
      refine ⟨d, g2, _, _, rfl, rfl, s2 _ _ x1, z2, by rw [natL_len (Sv14.little 2 r.key), little_len, sizeLine_val]; omega, ?_⟩
      have s12 : Same H (upd H2 d (.lst (natL (heads (ps.take i)) ++ natL (Sv14.little 2 r.key)))) := fun b o hb => by
        rw [upd_ne (ne_of_none hb hd)]; exact s2 _ _ (sm _ _ hb)
      have ev : ((Sv14.sizeOf_ r.spans : Nat) : Int) - 1 = ((Sv14.sizeOf_ r.spans - 1 : Nat) : Int) := by omega
      refine ⟨_, rfl, .inl ⟨rfl, _, SqL.of upd_same⟩, _, rfl, a, C, dx, _, _, rfl, s12 _ _ y1, cl, nE, pf_edges, e, _, rfl, SqL.of (s12 _ _ y2), pin.ok, fun H3 s3 => ?_⟩
      refine ⟨_, _, rfl, rfl, Sv14.sizeOf_ r.spans - 1, 2, by dsimp only; rw [ev]; rfl, by decide, fun H4 g4 s4 hg4 z4 => ?_⟩
      refine ⟨d, g4, _, _, rfl, rfl, s4 _ _ (s3 _ _ upd_same), z4, by rw [List.length_append, natL_len (Sv14.little 2 r.key), natL_len (Sv14.little 2 (Sv14.sizeOf_ r.spans - 1)), little_len, little_len, sizeLine_val]; omega, ?_⟩
      refine ⟨_, rfl, ?_, ?_⟩
      · rw [upd_same, take_snoc hr', heads_snoc]; unfold hd2; simp only [natL_append, List.append_assoc]
      · intro b o hb
        rw [upd_ne (ne_of_none hb hd)]; exact s4 _ _ (s3 _ _ (s12 _ _ hb))
    · rintro σ H1 ⟨v2, rfl, x1, sm⟩
      rw [List.length_map, hp.len, List.take_length] at x1
      exact ⟨_, rfl, k H1 d sm hd x1⟩
def firsts (ps : List Sv14.Part) : List Nat := if anyRuns ps = true then Sv14.little 4 (12347 + Sv14.PART * (ps.length - 1)) ++ marks (ps.map fun x => x.runs) ps.length else Sv14.little 4 12346 ++ Sv14.little 4 ps.length
def sp_first_bytes (C : Addr) : Sp := fun vs H Q _ => ∃ (p : Addr) (as : List Addr) (ps : List Sv14.Part), vs = [.ref p] ∧ PsAt C H p as ps ∧ ps.length ≤ 70000 ∧ Gives H Q (natL (firsts ps))
theorem sc_first_bytes : FnScope ["parts"] ["parts"] (defScope s_first_bytes) := ⟨rfl, rfl, rfl, by decide +kernel, rfl, by decide +kernel, by decide +kernel⟩
theorem ok_first_bytes (T : Txt K mg C D) : DefOk P w K mg base "first_bytes" ["parts"] 3 (sp_first_bytes C) := by
  have gR := T.RUNS_FRONT
  have gP := T.PLAIN_FRONT
  refine T.first_bytes.ok sc_first_bytes (fun vs H Q E h => ?_) (fun f cdv A outer s H vs Q E hr h => ?_)
  · obtain ⟨p, as, ps, rfl, _⟩ := h; rfl
  · obtain ⟨p, as, ps, rfl, hp, hl, k⟩ := h
    refine ⟨_, pss_cons (ps_if (pt_val (pe_callD (ok_has_runs T) (hr.mono (by decide)) rfl (pa_cons (pv 0) pa_nil)))
        (pss_one (ps_ret (pe_op op_cat (pe_callD (ok_number_bytes T) (hr.mono (by decide)) rfl (pa_cons (pe_op op_add (pe_gint rfl gR) (pe_op op_mul pe_int (pe_op op_sub (pe_callB call_len_seq (by rfl) T.len PySem.boot_len (pa_cons (pv 0) pa_nil)) pe_int))) (pa_cons pe_int pa_nil))) (pe_callD (ok_marks_bytes T) hr rfl (pa_cons (pv 0) pa_nil))))) pss_nil)
      (pss_one (ps_ret (pe_op op_cat (pe_callD (ok_number_bytes T) (hr.mono (by decide)) rfl (pa_cons (pe_gint rfl gP) (pa_cons pe_int pa_nil))) (pe_callD (ok_number_bytes T) (hr.mono (by decide)) rfl (pa_cons (pe_callB call_len_seq (by rfl) T.len PySem.boot_len (pa_cons (pv 0) pa_nil)) (pa_cons pe_int pa_nil)))))), ?_⟩
    refine ⟨_, rfl, p, as, ps, rfl, hp, hl, fun H1 s1 => ⟨_, rfl, ?_⟩⟩
    have hlen : (as.map V.ref).length = ps.length := by rw [List.length_map]; exact hp.len
    unfold firsts at k
    by_cases hr' : anyRuns ps = true
    · rw [if_pos hr'] at k
      refine goT hr' ?_
      have pos : 1 ≤ ps.length := by
        cases ps with
        | nil => cases hr'
        | cons _ _ => simp
      have ev : 12347 + 65536 * ((((as.map V.ref).length : Nat) : Int) - 1) = ((12347 + Sv14.PART * (ps.length - 1) : Nat) : Int) := by rw [hlen]; unfold Sv14.PART; omega
      refine ⟨_, rfl, p, _, rfl, .inl (SqL.of (s1 _ _ hp.lst)), _, _, rfl, rfl, _, _, rfl, rfl, .inl ⟨by decide, by decide⟩, _, _, rfl, rfl, 12347 + Sv14.PART * (ps.length - 1), 4, by dsimp only; rw [ev]; rfl, by decide, fun H2 g2 s2 hg2 y2 => ?_⟩
      refine ⟨_, rfl, p, as, ps, rfl, hp.same (s1.trans s2), hl, fun H3 g3 s3 hg3 y3 => ?_⟩
      refine ⟨g2, g3, _, _, rfl, rfl, s3 _ _ y2, y3, ?_, fun g4 hg4 => ?_⟩
      · rw [natL_len, natL_len, little_len, marks_len, List.length_map, sizeLine_val]; omega
      · have sm := ((s1.trans s2).trans s3).trans (Same.new (o := .lst (natL (Sv14.little 4 (12347 + Sv14.PART * (ps.length - 1))) ++ natL (marks (ps.map fun x => x.runs) ps.length))) hg4)
        exact k _ g4 sm (((s1.trans s2).trans s3).free hg4) (by rw [upd_same, natL_append])
    · rw [if_neg hr'] at k
      refine goF (by simpa using hr') ?_
      refine ⟨12346, 4, rfl, by decide, fun H2 g2 s2 hg2 y2 => ?_⟩
      refine ⟨_, rfl, p, _, rfl, .inl (SqL.of (s2 _ _ (s1 _ _ hp.lst))), ps.length, 4, by rw [hlen]; rfl, by decide, fun H3 g3 s3 hg3 y3 => ?_⟩
      refine ⟨g2, g3, _, _, rfl, rfl, s3 _ _ y2, y3, ?_, fun g4 hg4 => ?_⟩
      · rw [natL_len, natL_len, little_len, little_len, sizeLine_val]; omega
      · have sm := ((s1.trans s2).trans s3).trans (Same.new (o := .lst (natL (Sv14.little 4 12346) ++ natL (Sv14.little 4 ps.length))) hg4)
        exact k _ g4 sm (((s1.trans s2).trans s3).free hg4) (by rw [upd_same, natL_append])
end
end PK
namespace PK
open PySem PySem.Spec PyProof.Rows L2 PM
section
variable {P : Program} {w : World} {K : PySem.W.Frag} {mg : Str → Option Value} {base : Heap} {C D : Addr}
theorem plc_snoc : ∀ (l : List Sv14.Part) (n : Nat) (x : Sv14.Part), Sv14.placesOf n (l ++ [x]) = Sv14.placesOf n l ++ [n + (l.map Sv14.Part.long).sum]
  | [], n, x => by show [n] = [n + 0]; rfl
  | p :: l, n, x => by
    show n :: Sv14.placesOf (n + p.long) (l ++ [x]) = n :: (Sv14.placesOf (n + p.long) l ++ [n + ((p :: l).map Sv14.Part.long).sum])
    rw [plc_snoc l, List.map_cons, List.sum_cons, Nat.add_assoc]
def pbs (n : Nat) (l : List Sv14.Part) : List Nat := (Sv14.placesOf n l).flatMap (Sv14.little 4)
theorem pbs_snoc (n : Nat) (l : List Sv14.Part) (x : Sv14.Part) : pbs n (l ++ [x]) = pbs n l ++ Sv14.little 4 (n + (l.map Sv14.Part.long).sum) := by
  unfold pbs; rw [plc_snoc, List.flatMap_append, List.flatMap_cons, List.flatMap_nil, List.append_nil]
theorem pbs_len (n : Nat) (l : List Sv14.Part) : (pbs n l).length = 4 * l.length := by unfold pbs; rw [flat_len (k := 4) (fun s => little_len _ _), placesOf_len]
theorem sum_snoc' (l : List Sv14.Part) (x : Sv14.Part) : ((l ++ [x]).map Sv14.Part.long).sum = (l.map Sv14.Part.long).sum + x.long := by
  rw [List.map_append, List.sum_append]; simp
def sp_places_bytes (C : Addr) : Sp := fun vs H Q _ => ∃ (p : Addr) (as : List Addr) (ps : List Sv14.Part), vs = [.ref p] ∧ PsAt C H p as ps ∧ ps.length ≤ 70000 ∧ Pins ps ∧ Gives H Q (natL (places ps))
theorem sc_places_bytes : FnScope ["parts", "written", "place", "part"] ["parts"] (defScope s_places_bytes) := ⟨rfl, rfl, rfl, by decide +kernel, rfl, by decide +kernel, by decide +kernel⟩
theorem ok_places_bytes (T : Txt K mg C D) : DefOk P w K mg base "places_bytes" ["parts"] 5 (sp_places_bytes C) := by
  have nd := sc_places_bytes.nd
  refine T.places_bytes.ok sc_places_bytes (fun vs H Q E h => ?_) (fun f cdv A outer s H vs Q E hr h => ?_)
  · obtain ⟨p, as, ps, rfl, _⟩ := h; rfl
  · obtain ⟨p, as, ps, rfl, hp, hl, hin, k⟩ := h
    refine ⟨_, pss_cons (ps_set (i := 1) nd rfl (Or.inl rfl) (pe_lst pa_nil))
      (pss_cons (ps_set (i := 2) nd rfl (Or.inl rfl) (pe_callD (ok_front_size T) (hr.mono (by decide)) rfl (pa_cons (pe_callB call_len_seq (by rfl) T.len PySem.boot_len (pa_cons (pv 0) pa_nil)) (pa_cons (pe_callD (ok_has_runs T) (hr.mono (by decide)) rfl (pa_cons (pv 0) pa_nil)) pa_nil))))
      (pss_cons (ps_for PassesOwn.never rfl (pi_list (pv 0)) (pg_name (i := 3) nd rfl (Or.inl rfl))
        (pss_cons (ps_expr (pe_bm PySem.F.plainAttrs_list PySem.F.slot_list_extend PySem.F.type_list_extend mt_extend (pv 1) (pa_cons (pe_callD (ok_number_bytes T) (hr.mono (by decide)) rfl (pa_cons (pv 2) (pa_cons pe_int pa_nil))) pa_nil)))
        (pss_one (ps_aug (i := 2) nd rfl (Or.inl rfl) (pe_callD (ok_part_size T) hr rfl (pa_cons (pv 3) pa_nil)) ip_add))))
      (pss_one (ps_ret (pv 1))))), ?_⟩
    refine ⟨Nat.zero_le _, fun d hd => ?_⟩
    have s0 := Same.new (o := .lst []) hd
    have hlen : (as.map V.ref).length = ps.length := by rw [List.length_map]; exact hp.len
    refine ⟨_, rfl, p, _, rfl, .inl (SqL.of (s0 _ _ hp.lst)), _, rfl, p, as, ps, rfl, hp.same s0, hl, fun H1 s1 => ⟨_, _, rfl, ?_⟩⟩
    rw [hlen, frontNat]
    refine ⟨_, rfl, p, rfl, ⟨_, SqL.of (s1 _ _ (s0 _ _ hp.lst))⟩, for_list (K := K) (a := p) (xs := as.map V.ref) (fun i σ H' => ∃ v3 : Option V, σ = [some (.ref p), some (.ref d), some (.int ((Sv14.frontLong ps + ((ps.take i).map Sv14.Part.long).sum : Nat) : Int)), v3] ∧ H' d = some (.lst (natL (pbs (Sv14.frontLong ps) (ps.take i)))) ∧ Same H H') ?_ ?_ ?_ ?_⟩
    · exact ⟨none, rfl, s1 _ _ upd_same, s0.trans s1⟩
    · rintro i σ H' _ ⟨_, _, _, sm⟩
      exact SqL.of (sm _ _ hp.lst)
    · rintro i y σ H2 hi ⟨v3, rfl, x1, sm⟩
      obtain ⟨a, r, rfl, hr', po⟩ := hp.get hi
      obtain ⟨pin, _, sz⟩ := hin r (List.mem_of_getElem? hr')
      refine ⟨_, rfl, .inl ⟨rfl, _, SqL.of x1⟩, _, rfl, _, 4, rfl, by decide, fun H3 g3 s3 hg3 z3 => ?_⟩
      refine ⟨d, g3, _, _, rfl, rfl, s3 _ _ x1, z3, by rw [natL_len, natL_len, little_len, pbs_len, List.length_take, sizeLine_val]; omega, ?_⟩
      have s23 : Same H (upd H3 d (.lst (natL (pbs (Sv14.frontLong ps) (ps.take i)) ++ natL (Sv14.little 4 (Sv14.frontLong ps + ((ps.take i).map Sv14.Part.long).sum))))) := fun b o hb => by
        rw [upd_ne (ne_of_none hb hd)]; exact s3 _ _ (sm _ _ hb)
      refine ⟨_, rfl, _, rfl, a, r, rfl, po.same s23, pin.ok, fun H4 s4 => ⟨_, _, rfl, rfl, ?_⟩⟩
      refine ⟨some (.ref a), ?_, ?_, s23.trans s4⟩
      · rw [take_snoc hr', sum_snoc', ← Nat.add_assoc, Int.natCast_add (_ + _)]; rfl
      · rw [s4 _ _ upd_same, take_snoc hr', pbs_snoc, natL_append]
    · rintro σ H2 ⟨v3, rfl, x1, sm⟩
      rw [hlen, List.take_length] at x1
      exact ⟨_, rfl, k H2 d sm hd x1⟩
theorem whole_parts (ps : List Sv14.Part) : Sv14.wholeOf ps = firsts ps ++ heads ps ++ (if tellsB (ps.length : Int) (anyRuns ps) = true then places ps else []) ++ ps.flatMap Sv14.Part.bytes := by
  unfold firsts tellsB
  by_cases h : anyRuns ps = true
  · rw [wholeOf_runs h, if_pos h, h]
    by_cases c : ps.length < 4
    · rw [if_pos c, if_neg (by simp; omega)]
    · rw [if_neg c, if_pos (by simp; omega)]
  · have h : anyRuns ps = false := by simpa using h
    rw [wholeOf_plain h, h, if_neg (by decide), if_pos (by rfl)]
def sp_set_bytes (C : Addr) : Sp := fun vs H Q _ => ∃ (p : Addr) (as : List Addr) (ps : List Sv14.Part), vs = [.ref p] ∧ PsAt C H p as ps ∧ ps.length ≤ 70000 ∧ Pins ps ∧ Sv14.wholeLong ps ≤ 1000000 ∧ Gives H Q (natL (Sv14.wholeOf ps))
theorem sc_set_bytes : FnScope ["parts", "written", "part"] ["parts"] (defScope s_set_bytes) := ⟨rfl, rfl, rfl, by decide +kernel, rfl, by decide +kernel, by decide +kernel⟩
theorem ok_set_bytes (T : Txt K mg C D) : DefOk P w K mg base "set_bytes" ["parts"] 6 (sp_set_bytes C) := by
  have nd := sc_set_bytes.nd
  refine T.set_bytes.ok sc_set_bytes (fun vs H Q E h => ?_) (fun f cdv A outer s H vs Q E hr h => ?_)
  · obtain ⟨p, as, ps, rfl, _⟩ := h; rfl
  · obtain ⟨p, as, ps, rfl, hp, hl, hin, hw, k⟩ := h
    have hlen : (as.map V.ref).length = ps.length := by rw [List.length_map]; exact hp.len
    have wl := whole_len (l := ps) fun q hq => (hin q hq).1.ok
    rw [whole_parts] at wl k
    simp only [List.length_append] at wl
    refine ⟨_, pss_cons (ps_set (i := 1) nd rfl (Or.inl rfl) (pe_op op_cat (pe_callD (ok_first_bytes T) (hr.mono (by decide)) rfl (pa_cons (pv 0) pa_nil)) (pe_callD (ok_keys_bytes T) (hr.mono (by decide)) rfl (pa_cons (pv 0) pa_nil))))
      (pss_cons (ps_if (pt_val (pe_callD (ok_tells_places T) (hr.mono (by decide)) rfl (pa_cons (pe_callB call_len_seq (by rfl) T.len PySem.boot_len (pa_cons (pv 0) pa_nil)) (pa_cons (pe_callD (ok_has_runs T) (hr.mono (by decide)) rfl (pa_cons (pv 0) pa_nil)) pa_nil))))
        (pss_one (ps_expr (pe_bm PySem.F.plainAttrs_list PySem.F.slot_list_extend PySem.F.type_list_extend mt_extend (pv 1) (pa_cons (pe_callD (ok_places_bytes T) hr rfl (pa_cons (pv 0) pa_nil)) pa_nil)))) pss_nil)
      (pss_cons (ps_for PassesOwn.never rfl (pi_list (pv 0)) (pg_name (i := 2) nd rfl (Or.inl rfl))
        (pss_one (ps_expr (pe_bm PySem.F.plainAttrs_list PySem.F.slot_list_extend PySem.F.type_list_extend mt_extend (pv 1) (pa_cons (pe_callD (ok_part_bytes T) (hr.mono (by decide)) rfl (pa_cons (pv 2) pa_nil)) pa_nil)))))
      (pss_one (ps_ret (pv 1))))), ?_⟩
    refine ⟨_, rfl, p, as, ps, rfl, hp, hl, fun H1 g1 s1 hg1 y1 => ?_⟩
    refine ⟨_, rfl, p, as, ps, rfl, hp.same s1, hl, hin, fun H2 g2 s2 hg2 y2 => ?_⟩
    refine ⟨g1, g2, _, _, rfl, rfl, s2 _ _ y1, y2, by rw [natL_len, natL_len, sizeLine_val]; omega, fun d hd => ?_⟩
    have hd0 : H d = none := (s1.trans s2).free hd
    have s3 : Same H (upd H2 d (.lst (natL (firsts ps) ++ natL (heads ps)))) := (s1.trans s2).trans (Same.new hd)
    -- the parts
    have rest : ∀ (pre : List Nat) (H4 : Hp), pre = firsts ps ++ heads ps ++ (if tellsB (ps.length : Int) (anyRuns ps) = true then places ps else []) → H4 d = some (.lst (natL pre)) → Same H H4 →
        tSeq (tFor (iList K (tVar 0)) (gName 2) (tDrop (tBM K "list" rExtend (tVar 1) (tCons (tCall (sp_part_bytes C) [] E0 (tCons (tVar 2) tNil)) tNil)))) (tRet (tVar 1)) { nx := fun _ H' => Q .non H', rt := Q } [some (.ref p), some (.ref d), none] H4 := by
      intro pre H4 hpre x0 sm0
      refine ⟨_, rfl, p, rfl, ⟨_, SqL.of (sm0 _ _ hp.lst)⟩, for_list (K := K) (a := p) (xs := as.map V.ref) (fun i σ H' => ∃ v2 : Option V, σ = [some (.ref p), some (.ref d), v2] ∧ H' d = some (.lst (natL (pre ++ (ps.take i).flatMap Sv14.Part.bytes))) ∧ Same H H') ?_ ?_ ?_ ?_⟩
      · exact ⟨none, rfl, by rw [x0]; simp, sm0⟩
      · rintro i σ H' _ ⟨_, _, _, sm⟩
        exact SqL.of (sm _ _ hp.lst)
      · rintro i y σ H5 hi ⟨v2, rfl, x1, sm⟩
        obtain ⟨a, r, rfl, hr', po⟩ := hp.get hi
        obtain ⟨pin, _, sz⟩ := hin r (List.mem_of_getElem? hr')
        refine ⟨_, rfl, .inl ⟨rfl, _, SqL.of x1⟩, _, rfl, a, r, rfl, po.same sm, pin, fun H6 g6 s6 hg6 z6 => ?_⟩
        have ln : (pre ++ (ps.take (i + 1)).flatMap Sv14.Part.bytes).length ≤ 1000000 := by
          rw [hpre, List.length_append, List.length_append, List.length_append]
          have : ((ps.take (i + 1)).flatMap Sv14.Part.bytes).length ≤ (ps.flatMap Sv14.Part.bytes).length := by
            conv => rhs; rw [← List.take_append_drop (i + 1) ps]
            rw [List.flatMap_append, List.length_append]; omega
          omega
        rw [take_snoc hr', List.flatMap_append, List.flatMap_cons, List.flatMap_nil, List.append_nil, ← List.append_assoc] at ln
        refine ⟨d, g6, _, _, rfl, rfl, s6 _ _ x1, z6, by rw [natL_len, natL_len, sizeLine_val]; rw [List.length_append] at ln; omega, ?_⟩
        refine ⟨_, rfl, ?_, fun b o hb => by rw [upd_ne (ne_of_none hb hd0)]; exact s6 _ _ (sm _ _ hb)⟩
        rw [upd_same, take_snoc hr', List.flatMap_append, List.flatMap_cons, List.flatMap_nil, List.append_nil]
        simp only [natL_append, List.append_assoc]
      · rintro σ H5 ⟨v2, rfl, x1, sm⟩
        rw [hlen, List.take_length] at x1
        refine ⟨_, rfl, k H5 d sm hd0 ?_⟩
        rw [x1, hpre]
    refine ⟨_, rfl, p, _, rfl, .inl (SqL.of (s3 _ _ hp.lst)), _, rfl, p, as, ps, rfl, hp.same s3, hl, fun H4 s4 => ⟨_, _, rfl, _, rfl, ?_⟩⟩
    rw [hlen]
    have x4 := s4 _ _ (upd_same (H := H2) (a := d) (o := .lst (natL (firsts ps) ++ natL (heads ps))))
    by_cases ht : tellsB (ps.length : Int) (anyRuns ps) = true
    · refine goT ht ?_
      rw [if_pos ht] at wl
      refine ⟨_, rfl, .inl ⟨rfl, _, SqL.of x4⟩, _, rfl, p, as, ps, rfl, hp.same (s3.trans s4), hl, hin, fun H6 g6 s6 hg6 z6 => ?_⟩
      refine ⟨d, g6, _, _, rfl, rfl, s6 _ _ x4, z6, by rw [List.length_append, natL_len, natL_len, natL_len, sizeLine_val]; omega, ?_⟩
      refine rest (firsts ps ++ heads ps ++ places ps) _ (by rw [if_pos ht]) ?_ fun b o hb => by rw [upd_ne (ne_of_none hb hd0)]; exact s6 _ _ (s4 _ _ (s3 _ _ hb))
      rw [upd_same, natL_append, natL_append]
    · refine goF (by simpa using ht) ?_
      refine rest (firsts ps ++ heads ps) H4 (by rw [if_neg ht, List.append_nil]) ?_ (s3.trans s4)
      rw [x4, natL_append]
end
end PK
namespace PK
open PySem PySem.Spec PyProof.Rows L2 PM
section
variable {P : Program} {w : World} {K : PySem.W.Frag} {mg : Str → Option Value} {base : Heap} {C D : Addr}
def sp_may_fill : Sp := fun vs H Q _ => ∃ room : Int, vs = [.int room] ∧ Q (.bl (Sv14.size room)) H
theorem sc_may_fill : FnScope ["room"] ["room"] (defScope s_may_fill) := ⟨rfl, rfl, rfl, by decide +kernel, rfl, by decide +kernel, by decide +kernel⟩
theorem fill_eq (room : Int) : Sv14.size room = (decide (0 ≤ room) && decide (room ≤ 16777216)) := rfl
theorem ok_may_fill (T : Txt K mg C D) : DefOk P w K mg base "may_fill" ["room"] 1 sp_may_fill := by
  have gM := T.MOST_ROOM
  refine T.may_fill.ok sc_may_fill (fun vs H Q E h => ?_) (fun f cdv A outer s H vs Q E hr h => ?_)
  · obtain ⟨room, rfl, _⟩ := h; rfl
  · obtain ⟨room, rfl, k⟩ := h
    refine ⟨_, pss_one (ps_ret (pe_chain op_le op_le pe_int (pv 0) (pe_gint rfl gM))), ?_⟩
    rw [fill_eq] at k
    refine ⟨_, rfl, _, _, rfl, rfl, _, rfl, ?_⟩
    by_cases c1 : 0 ≤ room
    · refine goT (decide_eq_true c1) ?_
      refine ⟨_, _, rfl, rfl, ?_⟩
      rw [decide_eq_true c1, Bool.true_and] at k
      exact k
    · refine goF (decide_eq_false c1) ?_
      rw [decide_eq_false c1, Bool.false_and] at k
      exact k
def mayB (r room : Int) : Bool := Sv14.bit r && Sv14.size room
def sp_may_write : Sp := fun vs H Q _ => ∃ (r room : Int), vs = [.int r, .int room] ∧ Q (.bl (mayB r room)) H
theorem sc_may_write : FnScope ["runs", "room"] ["runs", "room"] (defScope s_may_write) := ⟨rfl, rfl, rfl, by decide +kernel, rfl, by decide +kernel, by decide +kernel⟩
theorem mayB_eq (r room : Int) : mayB r room = ((decide (0 ≤ r) && decide (r ≤ 1)) && Sv14.size room) := rfl
theorem ok_may_write (T : Txt K mg C D) : DefOk P w K mg base "may_write" ["runs", "room"] 2 sp_may_write := by
  refine T.may_write.ok sc_may_write (fun vs H Q E h => ?_) (fun f cdv A outer s H vs Q E hr h => ?_)
  · obtain ⟨r, room, rfl, _⟩ := h; rfl
  · obtain ⟨r, room, rfl, k⟩ := h
    refine ⟨_, pss_one (ps_ret (pe_and (pe_chain op_le op_le pe_int (pv 0) pe_int) (pe_one (pe_callD (ok_may_fill T) hr rfl (pa_cons (pv 1) pa_nil))))), ?_⟩
    rw [mayB_eq] at k
    refine ⟨_, rfl, _, _, rfl, rfl, _, rfl, ?_⟩
    by_cases c1 : 0 ≤ r
    · refine goT (decide_eq_true c1) ?_
      refine ⟨_, _, rfl, rfl, _, rfl, ?_⟩
      by_cases c2 : r ≤ 1
      · refine goT (decide_eq_true c2) ?_
        refine ⟨_, rfl, room, rfl, ?_⟩
        rw [decide_eq_true c1, decide_eq_true c2, Bool.true_and, Bool.true_and] at k
        exact k
      · refine goF (decide_eq_false c2) ?_
        rw [decide_eq_false c2, Bool.and_false, Bool.false_and] at k
        exact k
    · refine goF (decide_eq_false c1) ?_
      rw [decide_eq_false c1, Bool.false_and, Bool.false_and] at k
      exact ⟨_, rfl, k⟩
def toldL (l : List Sv14.Span) (r room : Int) : List Int := if room < (Sv14.wholeLong (Sv14.partsFor l (r == 1)) : Int) then [-7] else (Sv14.wholeLong (Sv14.partsFor l (r == 1)) : Int) :: (Sv14.wholeOf (Sv14.partsFor l (r == 1))).map fun (x : Nat) => (x : Int)
def shortL (l : List Sv14.Span) (r room : Int) : Prop := Sv14.wholeLong (Sv14.partsFor l (r == 1)) ≤ 70000 ∨ room < (Sv14.wholeLong (Sv14.partsFor l (r == 1)) : Int)
theorem told_eq (l : List Sv14.Span) (r room : Int) : (Sv14.told l r room).v :: ((Sv14.told l r room).l.map fun (x : Nat) => (x : Int)) = toldL l r room := by
  unfold Sv14.told toldL
  dsimp only
  split <;> rfl
theorem pins_for {l : List Sv14.Span} (h : Sv14.Proper l) (r : Bool) : Pins (Sv14.partsFor l r) ∧ (Sv14.partsFor l r).length ≤ 65536 := by
  obtain ⟨h1, h2⟩ := chunks_ok h
  have G := (grouped_ok _ h1 h2).1
  rw [partsFor_eq]
  refine ⟨fun q hq => ?_, by rw [List.length_map]; exact G.len⟩
  obtain ⟨g, hg, rfl⟩ := List.mem_map.mp hq
  obtain ⟨a, b⟩ := G.one g hg
  obtain ⟨z1, z2, z3⟩ := a.size
  exact ⟨⟨fun s hs => a.2.1 s hs, by show g.2.length ≤ 65536; omega, z1⟩, b, z3⟩
def sp_answer_set (K : PySem.W.Frag) : Sp := fun vs H Q _ => ∃ (a : Addr) (l : List Sv14.Span) (r room : Int), vs = [.ref a, .int r, .int room] ∧ SqL K H a (flV l) ∧ Sv14.Proper l ∧ l.length ≤ 4000000 ∧ shortL l r room ∧ Gives H Q ((toldL l r room).map V.int)
theorem sc_answer_set : FnScope ["edges", "runs", "room", "parts", "size"] ["edges", "runs", "room"] (defScope s_answer_set) := ⟨rfl, rfl, rfl, by decide +kernel, rfl, by decide +kernel, by decide +kernel⟩
theorem ok_answer_set (T : Txt K mg C D) : DefOk P w K mg base "answer_set" ["edges", "runs", "room"] 7 (sp_answer_set K) := by
  have nd := sc_answer_set.nd
  have gN := T.NO_ROOM
  refine T.answer_set.ok sc_answer_set (fun vs H Q E h => ?_) (fun f cdv A outer s H vs Q E hr h => ?_)
  · obtain ⟨a, l, r, room, rfl, _⟩ := h; rfl
  · obtain ⟨a, l, r, room, rfl, ha, hpr, hlen, hsh, k⟩ := h
    refine ⟨_, pss_cons (ps_set (i := 3) nd rfl (Or.inl rfl) (pe_callD (ok_plan T) (hr.mono (by decide)) rfl (pa_cons (pv 0) (pa_cons (pv 1) pa_nil))))
      (pss_cons (ps_set (i := 4) nd rfl (Or.inl rfl) (pe_callD (ok_set_size T) (hr.mono (by decide)) rfl (pa_cons (pv 3) pa_nil)))
      (pss_cons (ps_if (pt_cmpR op_gt (pv 4) (pv 2) (nomark _)) (pss_one (ps_ret (pe_lst (pa_cons (pe_gint rfl gN) pa_nil)))) pss_nil)
      (pss_one (ps_ret (pe_op op_cat (pe_lst (pa_cons (pv 4) pa_nil)) (pe_callD (ok_set_bytes T) hr rfl (pa_cons (pv 3) pa_nil))))))), ?_⟩
    refine ⟨_, rfl, _, rfl, a, l, r, rfl, ha, hpr, hlen, fun H1 p tr s1 q1 q2 q3 => ?_⟩
    have PA := PsAt.of q1 q2
    rw [q3] at PA
    obtain ⟨pin, plen⟩ := pins_for hpr (r == 1)
    refine ⟨_, rfl, p, _, _, rfl, PA, by omega, fun q hq => (pin q hq).1.ok, fun H2 s2 => ?_⟩
    refine ⟨_, rfl, _, rfl, _, _, rfl, rfl, _, rfl, ?_⟩
    unfold toldL at k
    unfold shortL at hsh
    by_cases c : room < (Sv14.wholeLong (Sv14.partsFor l (r == 1)) : Int)
    · refine goT (decide_eq_true c) ?_
      rw [if_pos c] at k
      refine ⟨by decide, fun d hd => ?_⟩
      exact k _ d ((s1.trans s2).trans (Same.new hd)) ((s1.trans s2).free hd) upd_same
    · refine goF (decide_eq_false c) ?_
      rw [if_neg c] at k
      refine ⟨_, rfl, (by show 1 ≤ sizeLine; decide), fun d hd => ?_⟩
      refine ⟨_, rfl, p, _, _, rfl, PA.same (s2.trans (Same.new hd)), by omega, pin, by omega, fun H3 g3 s3 hg3 z3 => ?_⟩
      have wl := whole_len (l := Sv14.partsFor l (r == 1)) fun q hq => (pin q hq).1.ok
      refine ⟨d, g3, _, _, rfl, rfl, s3 _ _ upd_same, z3, ?_, fun g4 hg4 => ?_⟩
      · rw [natL_len, wl, sizeLine_val]; show 1 + _ ≤ _; omega
      · have sm : Same H H3 := (s1.trans s2).trans ((Same.new hd).trans s3)
        refine k _ g4 (sm.trans (Same.new hg4)) (sm.free hg4) ?_
        rw [upd_same, List.map_cons, List.map_map]
        rfl
end
end PK
namespace PK
open PySem PySem.Spec PyProof.Rows L2 PM
section
variable {P : Program} {w : World} {K : PySem.W.Frag} {mg : Str → Option Value} {base : Heap} {C D : Addr}
theorem pairs_get : ∀ (xs : List Int) (j : Nat) (x y : Int), xs[2 * j]? = some x → xs[2 * j + 1]? = some y → (Sv14Neutral.pairs xs)[j]? = some (x.toNat, y.toNat)
  | [], j, x, y, h, _ => by simp at h
  | [a], 0, x, y, _, h => by simp at h
  | [a], j + 1, x, y, h, _ => by simp at h
  | a :: b :: r, 0, x, y, h1, h2 => by
    have e1 : a = x := Option.some.inj h1
    have e2 : b = y := Option.some.inj h2
    subst e1 e2; rfl
  | a :: b :: r, j + 1, x, y, h1, h2 => by
    rw [show 2 * (j + 1) = 2 * j + 1 + 1 by omega, List.getElem?_cons_succ, List.getElem?_cons_succ] at h1
    rw [show 2 * (j + 1) + 1 = 2 * j + 1 + 1 + 1 by omega, List.getElem?_cons_succ, List.getElem?_cons_succ] at h2
    show (_ :: Sv14Neutral.pairs r)[j + 1]? = _
    rw [List.getElem?_cons_succ]
    exact pairs_get r j x y h1 h2
theorem pairs_len : ∀ (xs : List Int) (k : Nat), xs.length = 2 * k → (Sv14Neutral.pairs xs).length = k
  | [], k, h => by
    have h : 0 = 2 * k := h
    have : k = 0 := by omega
    rw [this]; rfl
  | [a], k, h => by simp at h; omega
  | a :: b :: r, k, h => by
    simp only [List.length_cons] at h
    show (Sv14Neutral.pairs r).length + 1 = k
    rw [pairs_len r (k - 1) (by omega)]; omega
def prOf (H : Hp) (t : Addr) : Int × Int := match H t with
  | some (.tup [.int a, .int b]) => (a, b)
  | _ => (0, 0)
theorem prOf_eq {H : Hp} {t : Addr} {a b : Int} (h : H t = some (.tup [.int a, .int b])) : prOf H t = (a, b) := by unfold prOf; rw [h]
structure PrAt (H : Hp) (ts : List Addr) (xs : List Int) : Prop where
  at_ : ∀ (j : Nat) t, ts[j]? = some t → ∃ x y, xs[2 * j]? = some x ∧ xs[2 * j + 1]? = some y ∧ H t = some (.tup [.int x, .int y])
theorem PrAt.same {H H' : Hp} {ts : List Addr} {xs : List Int} (h : PrAt H ts xs) (s : Same H H') : PrAt H' ts xs := ⟨fun j t ht => by
  obtain ⟨x, y, a, b, c⟩ := h.at_ j t ht; exact ⟨x, y, a, b, s _ _ c⟩⟩
def spOf (p : Int × Int) : Sv14.Span := (p.1.toNat, p.2.toNat)
theorem PrAt.map {H : Hp} {ts : List Addr} {xs : List Int} {k : Nat} (h : PrAt H ts xs) (hk : ts.length = k) (hx : xs.length = 2 * k) : ts.map (fun t => spOf (prOf H t)) = Sv14Neutral.pairs xs := by
  apply List.ext_getElem?
  intro j
  rw [List.getElem?_map]
  cases e : ts[j]? with
  | none =>
    rw [List.getElem?_eq_none_iff] at e
    rw [List.getElem?_eq_none (by rw [pairs_len xs k hx]; omega)]; rfl
  | some t =>
    obtain ⟨x, y, a, b, c⟩ := h.at_ j t e
    rw [pairs_get xs j x y a b]
    show some (spOf (prOf H t)) = _
    rw [prOf_eq c]; rfl
end
end PK
namespace PK
open PySem PySem.Spec PyProof.Rows L2 PM
section
variable {P : Program} {w : World} {K : PySem.W.Frag} {mg : Str → Option Value} {base : Heap} {C D : Addr}
def intV (l : List Int) : List V := l.map V.int
theorem intV_fl (l : List Sv14.Span) : intV (fl l) = flV l := rfl
theorem flV_end (l : List Sv14.Span) : flV l ++ [V.int 4294967297] = intV (fl l ++ [4294967297]) := by unfold intV; rw [List.map_append]; rfl
theorem intV_get {l : List Int} {i : Nat} {x : Int} (h : l[i]? = some x) : (intV l)[i]? = some (V.int x) := by unfold intV; rw [List.getElem?_map, h]; rfl
def inJ (how : Int) : List Int := if how = 0 then [0, 0, 0, 1] else if how = 1 then [0, 1, 1, 1] else if how = 2 then [0, 1, 1, 0] else [0, 0, 1, 0]
theorem inJ_get (how : Int) (i j : Nat) : (inJ how)[i % 2 * 2 + j % 2]? = some (if Sv14.joined how (odd i) (odd j) = true then 1 else 0) := by
  unfold inJ Sv14.joined odd
  have hi : i % 2 = 0 ∨ i % 2 = 1 := by omega
  have hj : j % 2 = 0 ∨ j % 2 = 1 := by omega
  by_cases h0 : how = 0
  · rcases hi with a | a <;> rcases hj with b | b <;> rw [a, b, if_pos h0, if_pos h0] <;> rfl
  · by_cases h1 : how = 1
    · rcases hi with a | a <;> rcases hj with b | b <;> rw [a, b, if_neg h0, if_neg h0, if_pos h1, if_pos h1] <;> rfl
    · by_cases h2 : how = 2
      · rcases hi with a | a <;> rcases hj with b | b <;> rw [a, b, if_neg h0, if_neg h0, if_neg h1, if_neg h1, if_pos h2, if_pos h2] <;> rfl
      · rcases hi with a | a <;> rcases hj with b | b <;> rw [a, b, if_neg h0, if_neg h0, if_neg h1, if_neg h1, if_neg h2, if_neg h2] <;> rfl
def sp_join_edges : Sp := fun vs H Q _ => ∃ (how : Int) (a b : Addr) (l1 l2 : List Sv14.Span), vs = [.int how, .ref a, .ref b] ∧ 0 ≤ how ∧ how ≤ 3 ∧ H a = some (.lst (flV l1)) ∧ H b = some (.lst (flV l2)) ∧ Sv14.Proper l1 ∧ Sv14.Proper l2 ∧ l1.length ≤ 3000000 ∧ l2.length ≤ 3000000 ∧
  Gives H Q (flV (Sv14.joinSpans how l1 l2))
theorem sc_join_edges : FnScope ["how", "left", "right", "in_joined", "left_edges", "right_edges", "i", "j", "edges", "at"] ["how", "left", "right"] (defScope s_join_edges) := ⟨rfl, rfl, rfl, by decide +kernel, rfl, by decide +kernel, by decide +kernel⟩
def jmsr (n : Nat) (σ : L2.St) : Nat := match σ[6]?, σ[7]? with
  | some (some (V.int i)), some (some (V.int j)) => n - (i.toNat + j.toNat)
  | _, _ => 0
theorem min_if (x y : Int) : (if y < x then y else x) = min x y := by split <;> omega
theorem nxt_le (A : List Int) (i : Nat) (t : Int) : i ≤ nxt A i t ∧ nxt A i t ≤ i + 1 := by unfold nxt; split <;> omega
theorem je_moves {how : Int} {A B : List Int} {t : Int} {i j : Nat} {E : List Int} (I : JE how A B t i j E) : i + j < nxt A i t + nxt B j t := by
  have := I.tat
  unfold nxt
  by_cases c : lf A i = t
  · rw [if_pos c]; split <;> omega
  · rw [if_neg c, if_pos (by omega)]; omega
theorem jtest {b : Bool} {n : Nat} : (V.int (if b = true then 1 else 0) = V.int (((n : Nat) : Int) % 2)) ↔ b = odd n := by
  unfold odd
  constructor
  · intro h
    have h := V.int.inj h
    cases b with
    | true => rw [if_pos rfl] at h; exact (decide_eq_true (by omega)).symm
    | false => rw [if_neg (by decide)] at h; exact (decide_eq_false (by omega)).symm
  · intro h
    subst h
    congr 1
    by_cases c : n % 2 = 1
    · rw [if_pos (decide_eq_true c)]; omega
    · rw [if_neg (by simpa using c)]; omega
theorem jtF {b : Bool} {El : List Int} (h : b = odd El.length) : (!decide (V.int (if b = true then 1 else 0) = V.int (((intV El).length : Int) % 2))) = false := by
  have : (intV El).length = El.length := List.length_map ..
  rw [this, decide_eq_true (jtest.mpr h)]; rfl
theorem jtT {b : Bool} {El : List Int} (h : ¬ b = odd El.length) : (!decide (V.int (if b = true then 1 else 0) = V.int (((intV El).length : Int) % 2))) = true := by
  have : (intV El).length = El.length := List.length_map ..
  rw [this, decide_eq_false (fun z => h (jtest.mp z))]; rfl
theorem ok_join_edges (T : Txt K mg C D) : DefOk P w K mg base "join_edges" ["how", "left", "right"] 1 sp_join_edges := by
  have nd := sc_join_edges.nd
  have gB := T.BEYOND
  obtain ⟨tb, tts, gT, tupT, tlen, rowsT⟩ := T.IN_JOINED.ex
  refine T.join_edges.ok sc_join_edges (fun vs H Q E h => ?_) (fun f cdv A outer s H vs Q E hr h => ?_)
  · obtain ⟨how, a, b, l1, l2, rfl, _⟩ := h; rfl
  · obtain ⟨how, a, b, l1, l2, rfl, hw0, hw3, ha, hb, p1, p2, n1, n2, k⟩ := h
    refine ⟨_, pss_cons (ps_set (i := 3) nd rfl (Or.inl rfl) (pe_ix ix_tup (pe_glob (v := .ref tb) rfl gT rfl) (pv 0) (fun _ _ => rfl)))
      (pss_cons (ps_set (i := 4) nd rfl (Or.inl rfl) (pe_op op_cat (pv 1) (pe_lst (pa_cons (pe_gint rfl gB) pa_nil))))
      (pss_cons (ps_set (i := 5) nd rfl (Or.inl rfl) (pe_op op_cat (pv 2) (pe_lst (pa_cons (pe_gint rfl gB) pa_nil))))
      (pss_cons (ps_set (i := 6) nd rfl (Or.inl rfl) pe_int)
      (pss_cons (ps_set (i := 7) nd rfl (Or.inl rfl) pe_int)
      (pss_cons (ps_set (i := 8) nd rfl (Or.inl rfl) (pe_lst pa_nil))
      (pss_cons (ps_set (i := 9) nd rfl (Or.inl rfl) (pe_callB (call_min2 rfl) (by rfl) T.min (by rfl) (pa_cons (pe_ix ix_list (pv 4) pe_int (fun _ _ => rfl)) (pa_cons (pe_ix ix_list (pv 5) pe_int (fun _ _ => rfl)) pa_nil))))
      (pss_cons (ps_while PassesOwn.never (pt_cmpR op_lt (pv 9) (pe_gint rfl gB) (nomark _))
        (pss_cons (ps_if (pt_cmpR op_eq (pe_ix ix_list (pv 4) (pv 6) (fun _ _ => rfl)) (pv 9) (nomark _)) (pss_one (ps_aug (i := 6) nd rfl (Or.inl rfl) pe_int ip_add)) pss_nil)
        (pss_cons (ps_if (pt_cmpR op_eq (pe_ix ix_list (pv 5) (pv 7) (fun _ _ => rfl)) (pv 9) (nomark _)) (pss_one (ps_aug (i := 7) nd rfl (Or.inl rfl) pe_int ip_add)) pss_nil)
        (pss_cons (ps_if (pt_cmpR op_ne (pe_ix ix_tup (pv 3) (pe_op op_add (pe_op op_mul (pe_op op_mod (pv 6) pe_int) pe_int) (pe_op op_mod (pv 7) pe_int)) (fun _ _ => rfl)) (pe_op op_mod (pe_callB call_len_seq (by rfl) T.len PySem.boot_len (pa_cons (pv 8) pa_nil)) pe_int) (nomark _))
          (pss_one (ps_expr (pe_bm PySem.F.plainAttrs_list PySem.F.slot_list_append PySem.F.type_list_append mt_append (pv 8) (pa_cons (pv 9) pa_nil)))) pss_nil)
        (pss_one (ps_set (i := 9) nd rfl (Or.inl rfl) (pe_callB (call_min2 rfl) (by rfl) T.min (by rfl) (pa_cons (pe_ix ix_list (pv 4) (pv 6) (fun _ _ => rfl)) (pa_cons (pe_ix ix_list (pv 5) (pv 7) (fun _ _ => rfl)) pa_nil)))))))))
      (pss_one (ps_ret (pv 8)))))))))), ?_⟩
    obtain ⟨m, rfl⟩ : ∃ m : Nat, how = (m : Int) := ⟨how.toNat, by omega⟩
    have hm : m < 4 := by omega
    have lt4 : m < tts.length := by rw [tlen]; exact hm
    have gt := List.getElem?_eq_getElem lt4
    generalize tts[m] = tm at gt
    have row : TupK K tm (intV (inJ (m : Int))) := by
      refine rowsT m tm (inJ (m : Int)) gt ?_
      have : m = 0 ∨ m = 1 ∨ m = 2 ∨ m = 3 := by omega
      rcases this with rfl | rfl | rfl | rfl <;> rfl
    refine ⟨_, rfl, tb, _, _, _, rfl, rfl, tupT.sq H, atI_nat (by rw [List.getElem?_map, gt]; rfl), ?_⟩
    -- left + [BEYOND]
    refine ⟨_, rfl, by decide, fun z1 hz1 => ?_⟩
    refine ⟨a, z1, _, _, rfl, rfl, by rw [upd_ne (ne_of_none ha hz1)]; exact ha, upd_same, by rw [flV_len, sizeLine_val]; show _ + 1 ≤ _; omega, fun la hla => ?_⟩
    rw [flV_end]
    have sA := (Same.new (o := .lst [V.int 4294967297]) hz1).trans (Same.new (o := .lst (intV (fl l1 ++ [4294967297]))) hla)
    have xA : upd (upd H z1 (.lst [V.int 4294967297])) la (.lst (intV (fl l1 ++ [4294967297]))) la = some (.lst (intV (fl l1 ++ [4294967297]))) := upd_same
    generalize upd (upd H z1 (.lst [V.int 4294967297])) la (.lst (intV (fl l1 ++ [4294967297]))) = HA at sA xA
    refine ⟨_, rfl, by decide, fun z2 hz2 => ?_⟩
    refine ⟨b, z2, _, _, rfl, rfl, by rw [upd_ne (ne_of_none (sA _ _ hb) hz2)]; exact sA _ _ hb, upd_same, by rw [flV_len, sizeLine_val]; show _ + 1 ≤ _; omega, fun lb hlb => ?_⟩
    rw [flV_end]
    have sB0 := (Same.new (o := .lst [V.int 4294967297]) hz2).trans (Same.new (o := .lst (intV (fl l2 ++ [4294967297]))) hlb)
    have xB : upd (upd HA z2 (.lst [V.int 4294967297])) lb (.lst (intV (fl l2 ++ [4294967297]))) lb = some (.lst (intV (fl l2 ++ [4294967297]))) := upd_same
    have xA2 := sB0 _ _ xA
    have sB := sA.trans sB0
    generalize upd (upd HA z2 (.lst [V.int 4294967297])) lb (.lst (intV (fl l2 ++ [4294967297]))) = HB at sB xB xA2
    refine ⟨Nat.zero_le _, fun e he => ?_⟩
    have he0 : H e = none := sB.free he
    have sE := Same.new (o := .lst []) he
    have ela : e ≠ la := Ne.symm (ne_of_none xA2 he)
    have elb : e ≠ lb := Ne.symm (ne_of_none xB he)
    have A1 := fl_rising l1 (apart_of_proper p1)
    have A2 := fl_rising l2 (apart_of_proper p2)
    have m1 : ∀ x, x ∈ fl l1 → 0 ≤ x ∧ x ≤ 4294967296 := fun x hx => ⟨A1.2 x hx, le_fl (n := 4294967296) (fun s hs => p1.1 s hs) x hx⟩
    have m2 : ∀ x, x ∈ fl l2 → 0 ≤ x ∧ x ≤ 4294967296 := fun x hx => ⟨A2.2 x hx, le_fl (n := 4294967296) (fun s hs => p2.1 s hs) x hx⟩
    refine ⟨_, rfl, la, _, _, _, rfl, rfl, SqL.of (sE _ _ xA2), atI_nat (j := 0) (intV_get (lf_get (Nat.zero_le _))), _, rfl, lb, _, _, _, rfl, rfl, SqL.of (sE _ _ xB), atI_nat (j := 0) (intV_get (lf_get (Nat.zero_le _))), _, _, rfl, ?_⟩
    rw [min_if]
    refine while_by (Pv := fun σ H' => ∃ (t : Int) (i j : Nat) (El : List Int), σ = [some (.int (m : Int)), some (.ref a), some (.ref b), some (.ref tm), some (.ref la), some (.ref lb), some (.int (i : Int)), some (.int (j : Int)), some (.ref e), some (.int t)] ∧ JE (m : Int) (fl l1) (fl l2) t i j El ∧
        H' e = some (.lst (intV El)) ∧ H' la = some (.lst (intV (fl l1 ++ [4294967297]))) ∧ H' lb = some (.lst (intV (fl l2 ++ [4294967297]))) ∧ Same H H') (μ := fun σ _ => jmsr ((fl l1).length + (fl l2).length) σ) ?_ ?_ ?_
    · exact ⟨_, 0, 0, [], rfl, JE.start _ A1.1 A2.1 (fun x hx => (m1 x hx).2) (fun x hx => (m2 x hx).2), upd_same, sE _ _ xA2, sE _ _ xB, sB.trans sE⟩
    · rintro σ H1 ⟨t, i, j, El, rfl, I, y1, y2, y3, sm⟩
      refine ⟨_, rfl, _, _, rfl, rfl, _, rfl, ?_⟩
      by_cases c : t < 4294967297
      · refine goT (decide_eq_true c) ?_
        have mv := je_moves I
        have n1' := nxt_le (fl l1) i t
        have n2' := nxt_le (fl l2) j t
        have S := I.step A1.1 A2.1 m1 m2 c rfl
        have sle1 := S.sa.le
        have sle2 := S.sb.le
        rw [fl_length] at sle1 sle2
        have len1 := I.len
        -- i
        refine ⟨_, rfl, _, rfl, la, _, _, _, rfl, rfl, SqL.of y2, atI_nat (intV_get (lf_get I.sa.le)), _, rfl, rfl, _, rfl, ?_⟩
        by_cases c1 : lf (fl l1) i = t
        · refine goT (decide_eq_true (by rw [c1])) ?_
          have ei : nxt (fl l1) i t = i + 1 := if_pos c1
          rw [ei] at S n1' mv sle1
          refine ⟨_, rfl, _, _, rfl, rfl, ?_⟩
          refine ⟨_, rfl, _, rfl, lb, _, _, _, rfl, rfl, SqL.of y3, atI_nat (intV_get (lf_get I.sb.le)), _, rfl, rfl, _, rfl, ?_⟩
          by_cases c2 : lf (fl l2) j = t
          · refine goT (decide_eq_true (by rw [c2])) ?_
            have ej : nxt (fl l2) j t = j + 1 := if_pos c2
            rw [ej] at S n2' mv sle2
            refine ⟨_, rfl, _, _, rfl, rfl, ?_⟩
            have jg := inJ_get (m : Int) (i + 1) (j + 1)
            have ixv : atI (intV (inJ (m : Int))) (((i + 1 : Nat) : Int) % 2 * 2 + ((j + 1 : Nat) : Int) % 2) = some (V.int (if Sv14.joined (m : Int) (odd (i + 1)) (odd (j + 1)) = true then 1 else 0)) := at_of (j := (i + 1) % 2 * 2 + (j + 1) % 2) (by omega) (intV_get jg)
            refine ⟨_, rfl, _, rfl, _, _, rfl, rfl, (by show (0 : Int) < 2; decide), _, _, rfl, rfl, .inr ⟨by decide, by decide⟩, _, rfl, _, _, rfl, rfl, (by show (0 : Int) < 2; decide), _, _, rfl, rfl, tm, _, _, _, rfl, rfl, row.sq H1, ixv, _, rfl, e, _, rfl, .inl (SqL.of y1), _, _, rfl, rfl, (by show (0 : Int) < 2; decide), rfl, _, rfl, ?_⟩
            by_cases c3 : Sv14.joined (m : Int) (odd (i + 1)) (odd (j + 1)) = odd El.length
            · refine goF (jtF c3) ?_
              rw [if_neg (by simpa using c3)] at S
              refine ⟨_, rfl, _, rfl, la, _, _, _, rfl, rfl, SqL.of y2, at_of (j := i + 1) rfl (intV_get (lf_get S.sa.le)), _, rfl, _, rfl, lb, _, _, _, rfl, rfl, SqL.of y3, at_of (j := j + 1) rfl (intV_get (lf_get S.sb.le)), _, _, rfl, ?_⟩
              rw [min_if]
              refine ⟨⟨_, i + 1, j + 1, El, rfl, S, y1, y2, y3, sm⟩, ?_⟩
              show (fl l1).length + (fl l2).length - (((i + 1 : Nat) : Int).toNat + ((j + 1 : Nat) : Int).toNat) < (fl l1).length + (fl l2).length - (((i : Nat) : Int).toNat + ((j : Nat) : Int).toNat)
              simp only [Int.toNat_natCast, fl_length]
              omega
            · refine goT (jtT c3) ?_
              rw [if_pos c3] at S
              refine ⟨_, rfl, .inl ⟨rfl, _, SqL.of y1⟩, _, rfl, e, _, _, rfl, rfl, y1, by unfold intV; rw [List.length_map, sizeLine_val]; omega, ?_⟩
              rw [show intV El ++ [V.int t] = intV (El ++ [t]) by unfold intV; rw [List.map_append]; rfl]
              refine ⟨_, rfl, _, rfl, la, _, _, _, rfl, rfl, SqL.of (by rw [upd_ne (Ne.symm ela)]; exact y2), at_of (j := i + 1) rfl (intV_get (lf_get S.sa.le)), _, rfl, _, rfl, lb, _, _, _, rfl, rfl, SqL.of (by rw [upd_ne (Ne.symm elb)]; exact y3), at_of (j := j + 1) rfl (intV_get (lf_get S.sb.le)), _, _, rfl, ?_⟩
              rw [min_if]
              refine ⟨⟨_, i + 1, j + 1, El ++ [t], rfl, S, upd_same, (by rw [upd_ne (Ne.symm ela)]; exact y2), (by rw [upd_ne (Ne.symm elb)]; exact y3), (fun b o hb => by rw [upd_ne (ne_of_none hb he0)]; exact sm _ _ hb)⟩, ?_⟩
              show (fl l1).length + (fl l2).length - (((i + 1 : Nat) : Int).toNat + ((j + 1 : Nat) : Int).toNat) < (fl l1).length + (fl l2).length - (((i : Nat) : Int).toNat + ((j : Nat) : Int).toNat)
              simp only [Int.toNat_natCast, fl_length]
              omega
          · refine goF (decide_eq_false fun z => c2 (V.int.inj z)) ?_
            have ej : nxt (fl l2) j t = j := if_neg c2
            rw [ej] at S n2' mv sle2
            have jg := inJ_get (m : Int) (i + 1) (j)
            have ixv : atI (intV (inJ (m : Int))) (((i + 1 : Nat) : Int) % 2 * 2 + ((j : Nat) : Int) % 2) = some (V.int (if Sv14.joined (m : Int) (odd (i + 1)) (odd (j)) = true then 1 else 0)) := at_of (j := (i + 1) % 2 * 2 + (j) % 2) (by omega) (intV_get jg)
            refine ⟨_, rfl, _, rfl, _, _, rfl, rfl, (by show (0 : Int) < 2; decide), _, _, rfl, rfl, .inr ⟨by decide, by decide⟩, _, rfl, _, _, rfl, rfl, (by show (0 : Int) < 2; decide), _, _, rfl, rfl, tm, _, _, _, rfl, rfl, row.sq H1, ixv, _, rfl, e, _, rfl, .inl (SqL.of y1), _, _, rfl, rfl, (by show (0 : Int) < 2; decide), rfl, _, rfl, ?_⟩
            by_cases c3 : Sv14.joined (m : Int) (odd (i + 1)) (odd (j)) = odd El.length
            · refine goF (jtF c3) ?_
              rw [if_neg (by simpa using c3)] at S
              refine ⟨_, rfl, _, rfl, la, _, _, _, rfl, rfl, SqL.of y2, at_of (j := i + 1) rfl (intV_get (lf_get S.sa.le)), _, rfl, _, rfl, lb, _, _, _, rfl, rfl, SqL.of y3, at_of (j := j) rfl (intV_get (lf_get S.sb.le)), _, _, rfl, ?_⟩
              rw [min_if]
              refine ⟨⟨_, i + 1, j, El, rfl, S, y1, y2, y3, sm⟩, ?_⟩
              show (fl l1).length + (fl l2).length - (((i + 1 : Nat) : Int).toNat + ((j : Nat) : Int).toNat) < (fl l1).length + (fl l2).length - (((i : Nat) : Int).toNat + ((j : Nat) : Int).toNat)
              simp only [Int.toNat_natCast, fl_length]
              omega
            · refine goT (jtT c3) ?_
              rw [if_pos c3] at S
              refine ⟨_, rfl, .inl ⟨rfl, _, SqL.of y1⟩, _, rfl, e, _, _, rfl, rfl, y1, by unfold intV; rw [List.length_map, sizeLine_val]; omega, ?_⟩
              rw [show intV El ++ [V.int t] = intV (El ++ [t]) by unfold intV; rw [List.map_append]; rfl]
              refine ⟨_, rfl, _, rfl, la, _, _, _, rfl, rfl, SqL.of (by rw [upd_ne (Ne.symm ela)]; exact y2), at_of (j := i + 1) rfl (intV_get (lf_get S.sa.le)), _, rfl, _, rfl, lb, _, _, _, rfl, rfl, SqL.of (by rw [upd_ne (Ne.symm elb)]; exact y3), at_of (j := j) rfl (intV_get (lf_get S.sb.le)), _, _, rfl, ?_⟩
              rw [min_if]
              refine ⟨⟨_, i + 1, j, El ++ [t], rfl, S, upd_same, (by rw [upd_ne (Ne.symm ela)]; exact y2), (by rw [upd_ne (Ne.symm elb)]; exact y3), (fun b o hb => by rw [upd_ne (ne_of_none hb he0)]; exact sm _ _ hb)⟩, ?_⟩
              show (fl l1).length + (fl l2).length - (((i + 1 : Nat) : Int).toNat + ((j : Nat) : Int).toNat) < (fl l1).length + (fl l2).length - (((i : Nat) : Int).toNat + ((j : Nat) : Int).toNat)
              simp only [Int.toNat_natCast, fl_length]
              omega
        · refine goF (decide_eq_false fun z => c1 (V.int.inj z)) ?_
          have ei : nxt (fl l1) i t = i := if_neg c1
          rw [ei] at S n1' mv sle1
          refine ⟨_, rfl, _, rfl, lb, _, _, _, rfl, rfl, SqL.of y3, atI_nat (intV_get (lf_get I.sb.le)), _, rfl, rfl, _, rfl, ?_⟩
          by_cases c2 : lf (fl l2) j = t
          · refine goT (decide_eq_true (by rw [c2])) ?_
            have ej : nxt (fl l2) j t = j + 1 := if_pos c2
            rw [ej] at S n2' mv sle2
            refine ⟨_, rfl, _, _, rfl, rfl, ?_⟩
            have jg := inJ_get (m : Int) (i) (j + 1)
            have ixv : atI (intV (inJ (m : Int))) (((i : Nat) : Int) % 2 * 2 + ((j + 1 : Nat) : Int) % 2) = some (V.int (if Sv14.joined (m : Int) (odd (i)) (odd (j + 1)) = true then 1 else 0)) := at_of (j := (i) % 2 * 2 + (j + 1) % 2) (by omega) (intV_get jg)
            refine ⟨_, rfl, _, rfl, _, _, rfl, rfl, (by show (0 : Int) < 2; decide), _, _, rfl, rfl, .inr ⟨by decide, by decide⟩, _, rfl, _, _, rfl, rfl, (by show (0 : Int) < 2; decide), _, _, rfl, rfl, tm, _, _, _, rfl, rfl, row.sq H1, ixv, _, rfl, e, _, rfl, .inl (SqL.of y1), _, _, rfl, rfl, (by show (0 : Int) < 2; decide), rfl, _, rfl, ?_⟩
            by_cases c3 : Sv14.joined (m : Int) (odd (i)) (odd (j + 1)) = odd El.length
            · refine goF (jtF c3) ?_
              rw [if_neg (by simpa using c3)] at S
              refine ⟨_, rfl, _, rfl, la, _, _, _, rfl, rfl, SqL.of y2, at_of (j := i) rfl (intV_get (lf_get S.sa.le)), _, rfl, _, rfl, lb, _, _, _, rfl, rfl, SqL.of y3, at_of (j := j + 1) rfl (intV_get (lf_get S.sb.le)), _, _, rfl, ?_⟩
              rw [min_if]
              refine ⟨⟨_, i, j + 1, El, rfl, S, y1, y2, y3, sm⟩, ?_⟩
              show (fl l1).length + (fl l2).length - (((i : Nat) : Int).toNat + ((j + 1 : Nat) : Int).toNat) < (fl l1).length + (fl l2).length - (((i : Nat) : Int).toNat + ((j : Nat) : Int).toNat)
              simp only [Int.toNat_natCast, fl_length]
              omega
            · refine goT (jtT c3) ?_
              rw [if_pos c3] at S
              refine ⟨_, rfl, .inl ⟨rfl, _, SqL.of y1⟩, _, rfl, e, _, _, rfl, rfl, y1, by unfold intV; rw [List.length_map, sizeLine_val]; omega, ?_⟩
              rw [show intV El ++ [V.int t] = intV (El ++ [t]) by unfold intV; rw [List.map_append]; rfl]
              refine ⟨_, rfl, _, rfl, la, _, _, _, rfl, rfl, SqL.of (by rw [upd_ne (Ne.symm ela)]; exact y2), at_of (j := i) rfl (intV_get (lf_get S.sa.le)), _, rfl, _, rfl, lb, _, _, _, rfl, rfl, SqL.of (by rw [upd_ne (Ne.symm elb)]; exact y3), at_of (j := j + 1) rfl (intV_get (lf_get S.sb.le)), _, _, rfl, ?_⟩
              rw [min_if]
              refine ⟨⟨_, i, j + 1, El ++ [t], rfl, S, upd_same, (by rw [upd_ne (Ne.symm ela)]; exact y2), (by rw [upd_ne (Ne.symm elb)]; exact y3), (fun b o hb => by rw [upd_ne (ne_of_none hb he0)]; exact sm _ _ hb)⟩, ?_⟩
              show (fl l1).length + (fl l2).length - (((i : Nat) : Int).toNat + ((j + 1 : Nat) : Int).toNat) < (fl l1).length + (fl l2).length - (((i : Nat) : Int).toNat + ((j : Nat) : Int).toNat)
              simp only [Int.toNat_natCast, fl_length]
              omega
          · refine goF (decide_eq_false fun z => c2 (V.int.inj z)) ?_
            have ej : nxt (fl l2) j t = j := if_neg c2
            rw [ej] at S n2' mv sle2
            have jg := inJ_get (m : Int) (i) (j)
            have ixv : atI (intV (inJ (m : Int))) (((i : Nat) : Int) % 2 * 2 + ((j : Nat) : Int) % 2) = some (V.int (if Sv14.joined (m : Int) (odd (i)) (odd (j)) = true then 1 else 0)) := at_of (j := (i) % 2 * 2 + (j) % 2) (by omega) (intV_get jg)
            refine ⟨_, rfl, _, rfl, _, _, rfl, rfl, (by show (0 : Int) < 2; decide), _, _, rfl, rfl, .inr ⟨by decide, by decide⟩, _, rfl, _, _, rfl, rfl, (by show (0 : Int) < 2; decide), _, _, rfl, rfl, tm, _, _, _, rfl, rfl, row.sq H1, ixv, _, rfl, e, _, rfl, .inl (SqL.of y1), _, _, rfl, rfl, (by show (0 : Int) < 2; decide), rfl, _, rfl, ?_⟩
            by_cases c3 : Sv14.joined (m : Int) (odd (i)) (odd (j)) = odd El.length
            · refine goF (jtF c3) ?_
              rw [if_neg (by simpa using c3)] at S
              refine ⟨_, rfl, _, rfl, la, _, _, _, rfl, rfl, SqL.of y2, at_of (j := i) rfl (intV_get (lf_get S.sa.le)), _, rfl, _, rfl, lb, _, _, _, rfl, rfl, SqL.of y3, at_of (j := j) rfl (intV_get (lf_get S.sb.le)), _, _, rfl, ?_⟩
              rw [min_if]
              refine ⟨⟨_, i, j, El, rfl, S, y1, y2, y3, sm⟩, ?_⟩
              show (fl l1).length + (fl l2).length - (((i : Nat) : Int).toNat + ((j : Nat) : Int).toNat) < (fl l1).length + (fl l2).length - (((i : Nat) : Int).toNat + ((j : Nat) : Int).toNat)
              simp only [Int.toNat_natCast, fl_length]
              omega
            · refine goT (jtT c3) ?_
              rw [if_pos c3] at S
              refine ⟨_, rfl, .inl ⟨rfl, _, SqL.of y1⟩, _, rfl, e, _, _, rfl, rfl, y1, by unfold intV; rw [List.length_map, sizeLine_val]; omega, ?_⟩
              rw [show intV El ++ [V.int t] = intV (El ++ [t]) by unfold intV; rw [List.map_append]; rfl]
              refine ⟨_, rfl, _, rfl, la, _, _, _, rfl, rfl, SqL.of (by rw [upd_ne (Ne.symm ela)]; exact y2), at_of (j := i) rfl (intV_get (lf_get S.sa.le)), _, rfl, _, rfl, lb, _, _, _, rfl, rfl, SqL.of (by rw [upd_ne (Ne.symm elb)]; exact y3), at_of (j := j) rfl (intV_get (lf_get S.sb.le)), _, _, rfl, ?_⟩
              rw [min_if]
              refine ⟨⟨_, i, j, El ++ [t], rfl, S, upd_same, (by rw [upd_ne (Ne.symm ela)]; exact y2), (by rw [upd_ne (Ne.symm elb)]; exact y3), (fun b o hb => by rw [upd_ne (ne_of_none hb he0)]; exact sm _ _ hb)⟩, ?_⟩
              show (fl l1).length + (fl l2).length - (((i : Nat) : Int).toNat + ((j : Nat) : Int).toNat) < (fl l1).length + (fl l2).length - (((i : Nat) : Int).toNat + ((j : Nat) : Int).toNat)
              simp only [Int.toNat_natCast, fl_length]
              omega
      · refine goF (decide_eq_false c) ?_
        refine ⟨_, rfl, k H1 e sm he0 ?_⟩
        rw [y1, I.done p1 p2 c]; rfl
    · rintro σ H Q Q' hq ⟨x1, e1, x10, x11, e10, e11, x12, e12, h⟩
      exact ⟨x1, e1, x10, x11, e10, e11, x12, e12, hq _ _ h⟩
end
end PK
namespace PK
open PySem PySem.Spec PyProof.Rows L2 PM
section
variable {P : Program} {w : World} {K : PySem.W.Frag} {mg : Str → Option Value} {base : Heap} {C D : Addr}
def sp_require (D : Addr) : Sp := fun vs H Q E => ∃ b : Bool, vs = [.bl b] ∧ (b = true → Q .non H) ∧ (b = false → E (.ref D) none H)
theorem sc_require : FnScope ["holds"] ["holds"] (defScope s_require) := ⟨rfl, rfl, rfl, by decide +kernel, rfl, by decide +kernel, by decide +kernel⟩
theorem ok_require (T : Txt K mg C D) : DefX P w K mg base D "require" ["holds"] 1 (sp_require D) := by
  refine T.require.okX sc_require (fun vs H Q E h => ?_) (fun f cdv A outer s H vs Q E hr h => ?_)
  · obtain ⟨b, rfl, _⟩ := h; rfl
  · obtain ⟨b, rfl, k1, k2⟩ := h
    refine ⟨_, pss_one (ps_if (pt_not (pt_val (pv 0))) (pss_one (ps_raise0 T.NotASet rfl)) pss_nil), ?_⟩
    refine ⟨_, rfl, _, rfl, ?_⟩
    cases b with
    | true => exact goF rfl (k1 rfl)
    | false => exact goT rfl ⟨Same.refl H, k2 rfl⟩
def ByAt (K : PySem.W.Frag) (H : Hp) (a : Addr) (bs : List Nat) : Prop := SqL K H a (natL bs) ∧ Bytes8 bs ∧ bs.length ≤ 70000
theorem ByAt.same {H H' : Hp} {a : Addr} {bs : List Nat} (h : ByAt K H a bs) (s : Same H H') : ByAt K H' a bs := ⟨s.seq h.1, h.2⟩
def sp_number_at (K : PySem.W.Frag) (D : Addr) : Sp := fun vs H Q E => ∃ (a : Addr) (bs : List Nat) (i k : Nat), vs = [.ref a, .int i, .int k] ∧ ByAt K H a bs ∧ k ≤ 8 ∧ (∀ v, num? bs i k = some v → Q (.int (v : Nat)) H) ∧ (num? bs i k = none → E (.ref D) none H)
theorem sc_number_at : FnScope ["a", "place", "size", "number", "i"] ["a", "place", "size"] (defScope s_number_at) := ⟨rfl, rfl, rfl, by decide +kernel, rfl, by decide +kernel, by decide +kernel⟩
theorem natL_get' {l : List Nat} {i n : Nat} (h : l[i]? = some n) : (natL l)[i]? = some (V.int (n : Int)) := by unfold natL; rw [List.getElem?_map, h]; rfl
theorem ok_number_at (T : Txt K mg C D) : DefX P w K mg base D "number_at" ["a", "place", "size"] 2 (sp_number_at K D) := by
  have nd := sc_number_at.nd
  refine T.number_at.okX sc_number_at (fun vs H Q E h => ?_) (fun f cdv A outer s H vs Q E hr h => ?_)
  · obtain ⟨a, bs, i, k, rfl, _⟩ := h; rfl
  · obtain ⟨a, bs, i, k, rfl, hb, hk, k1, k2⟩ := h
    refine ⟨_, pss_cons (ps_expr (pe_callX (E := EX H E) (ok_require T) passR hr rfl (pa_cons (pe_cmpR op_le (pe_op op_add (pv 1) (pv 2)) (pe_callB call_len_seq (by rfl) T.len PySem.boot_len (pa_cons (pv 0) pa_nil)) (nomark _)) pa_nil)))
      (pss_cons (ps_set (i := 3) nd rfl (Or.inl rfl) pe_int)
      (pss_cons (ps_for PassesOwn.leaving rfl (pi_range1 rfl T.range (pa_cons (pv 2) pa_nil)) (pg_name (i := 4) nd rfl (Or.inl rfl))
        (pss_one (ps_aug (i := 3) nd rfl (Or.inl rfl) (pe_op op_shl (pe_ix ix_list (pv 0) (pe_op op_add (pv 1) (pv 4)) (fun _ _ => rfl)) (pe_op op_mul pe_int (pv 4))) ip_add)))
      (pss_one (ps_ret (pv 3))))), ?_⟩
    refine ⟨_, rfl, _, rfl, _, _, rfl, rfl, _, rfl, a, _, rfl, .inl hb.1, _, _, rfl, rfl, _, rfl, fun hc => ?_, fun hc => ?_⟩
    · have hc := of_decide_eq_true hc
      rw [natL_len] at hc
      have le : i + k ≤ bs.length := by omega
      have q := k1 _ (num_some le)
      refine ⟨_, rfl, k, rfl, by omega, by omega, for_range (lo := 0) (n := (k : Int).toNat) (fun m σ H' => ∃ v4 : Option V, H' = H ∧ σ = [some (.ref a), some (.int (i : Int)), some (.int (k : Int)), some (.int ((Sv14.at_ bs.toArray i m : Nat) : Int)), v4]) ?_ ?_ ?_⟩
      · exact ⟨none, rfl, rfl⟩
      · rintro m σ H' hm ⟨v4, rfl, rfl⟩
        rw [Int.toNat_natCast] at hm
        have lt : i + m < bs.length := by omega
        have gm := List.getElem?_eq_getElem lt
        generalize bs[i + m] = c at gm
        refine ⟨_, rfl, _, rfl, _, rfl, _, rfl, _, _, rfl, rfl, a, _, _, _, rfl, rfl, hb.1, at_of (j := i + m) (by omega) (natL_get' gm), _, rfl, _, _, rfl, rfl, .inl ⟨by decide, by decide⟩, _, _, rfl, rfl, ⟨by omega, by omega, ?_⟩, _, _, rfl, rfl, ?_⟩
        · have := hb.2.1 c (List.mem_of_getElem? gm); omega
        · refine ⟨some (.int ((0 : Int) + (m : Int))), rfl, ?_⟩
          have e1 : (8 * ((0 : Int) + (m : Int))).toNat = 8 * m := by omega
          have e2 : (2 : Int) ^ (8 * m) = ((256 ^ m : Nat) : Int) := by rw [Int.natCast_pow, Int.pow_mul]; rfl
          rw [at_succ, getD_some gm, Int.natCast_add, Int.natCast_mul]
          show [_, _, _, some (V.int (_ + (c : Int) * 2 ^ (8 * ((0 : Int) + (m : Int))).toNat)), _] = _
          rw [e1, e2]
      · rintro σ H' ⟨v4, rfl, rfl⟩
        refine ⟨_, rfl, ?_⟩
        rw [Int.toNat_natCast]; exact q
    · have hc := of_decide_eq_false hc
      rw [natL_len] at hc
      exact ⟨Same.refl H, k2 (num_none (by omega))⟩
end
end PK
namespace PK
open PySem PySem.Spec PyProof.Rows L2 PM
section
variable {P : Program} {w : World} {K : PySem.W.Frag} {mg : Str → Option Value} {base : Heap} {C D : Addr}
def GivesX (D : Addr) (H : Hp) (Q : VK) (E : XK) (o : Option (List V)) : Prop := (∀ xs, o = some xs → Gives H Q xs) ∧ (o = none → ∀ H', Same H H' → E (.ref D) none H')
theorem GivesX.same {H H0 : Hp} {Q : VK} {E : XK} {o : Option (List V)} (g : GivesX D H Q E o) (s : Same H H0) : GivesX D H0 Q E o := ⟨fun xs h => (g.1 xs h).same s, fun h H' s' => g.2 h H' (s.trans s')⟩
def mkV (ms : List Bool) : List V := ms.map fun b => V.int (if b = true then 1 else 0)
theorem mkV_len (ms : List Bool) : (mkV ms).length = ms.length := List.length_map ..
def plainM (bs : List Nat) : Option (List Bool) := (num? bs 4 4).bind fun p => if p ≤ 65536 then some (List.replicate p false) else none
def sp_plain_marks (K : PySem.W.Frag) (D : Addr) : Sp := fun vs H Q E => ∃ (a : Addr) (bs : List Nat), vs = [.ref a] ∧ ByAt K H a bs ∧ GivesX D H Q E ((plainM bs).map mkV)
theorem sc_plain_marks : FnScope ["a", "part_count"] ["a"] (defScope s_plain_marks) := ⟨rfl, rfl, rfl, by decide +kernel, rfl, by decide +kernel, by decide +kernel⟩
theorem rep_mk : ∀ n : Nat, (List.replicate n [V.int 0]).flatten = mkV (List.replicate n false)
  | 0 => rfl
  | n + 1 => by rw [List.replicate_succ, List.replicate_succ, List.flatten_cons, rep_mk n]; rfl
theorem ok_plain_marks (T : Txt K mg C D) : DefX P w K mg base D "plain_marks" ["a"] 3 (sp_plain_marks K D) := by
  have nd := sc_plain_marks.nd
  have gM := T.MOST_PARTS
  refine T.plain_marks.okX sc_plain_marks (fun vs H Q E h => ?_) (fun f cdv A outer s H vs Q E hr h => ?_)
  · obtain ⟨a, bs, rfl, _⟩ := h; rfl
  · obtain ⟨a, bs, rfl, hb, k1, k2⟩ := h
    refine ⟨_, pss_cons (ps_set (i := 1) nd rfl (Or.inl rfl) (pe_callX (E := EX H E) (ok_number_at T) passR hr rfl (pa_cons (pv 0) (pa_cons pe_int (pa_cons pe_int pa_nil)))))
      (pss_cons (ps_expr (pe_callX (E := EX H E) (ok_require T) passR (hr.mono (by decide)) rfl (pa_cons (pe_cmpR op_le (pv 1) (pe_gint rfl gM) (nomark _)) pa_nil)))
      (pss_one (ps_ret (pe_op op_rep (pe_lst (pa_cons pe_int pa_nil)) (pv 1))))), ?_⟩
    refine ⟨_, rfl, a, bs, 4, 4, rfl, hb, by decide, fun p hp => ?_, fun hp => ⟨Same.refl H, k2 (by unfold plainM; rw [hp]; rfl) H (Same.refl H)⟩⟩
    have e : plainM bs = if p ≤ 65536 then some (List.replicate p false) else none := by unfold plainM; rw [hp]; rfl
    rw [e] at k1 k2
    refine ⟨_, rfl, _, _, rfl, rfl, _, rfl, fun hc => ?_, fun hc => ?_⟩
    · have hc := of_decide_eq_true hc
      rw [if_pos (by omega)] at k1
      refine ⟨by decide, fun z hz => ?_⟩
      refine ⟨_, rfl, z, _, _, rfl, rfl, upd_same, by omega, by omega, by rw [Int.toNat_natCast, sizeLine_val]; show 1 * _ ≤ _; omega, fun d hd => ?_⟩
      rw [Int.toNat_natCast, rep_mk]
      exact k1 _ rfl _ d ((Same.new hz).trans (Same.new hd)) ((Same.new hz).free hd) upd_same
    · have hc := of_decide_eq_false hc
      exact ⟨Same.refl H, k2 (by rw [if_neg (by omega)]; rfl) H (Same.refl H)⟩
def sp_runs_marks (K : PySem.W.Frag) (D : Addr) : Sp := fun vs H Q E => ∃ (a : Addr) (bs : List Nat) (p : Nat), vs = [.ref a, .int p] ∧ ByAt K H a bs ∧ p ≤ 70000 ∧ GivesX D H Q E ((rdRunMarks bs p).map mkV)
theorem sc_runs_marks : FnScope ["a", "part_count", "size", "bits", "marks", "i"] ["a", "part_count"] (defScope s_runs_marks) := ⟨rfl, rfl, rfl, by decide +kernel, rfl, by decide +kernel, by decide +kernel⟩
theorem bit_val (c i : Nat) : Builtin.bitAnd ((c : Int) / 2 ^ ((((i : Nat) : Int)) % 8).toNat) 1 = if c.testBit (i % 8) = true then 1 else 0 := by
  rw [bitAnd_m1, Nat.testBit_eq_decide_div_mod_eq, show (((i : Nat) : Int) % 8).toNat = i % 8 by omega]
  have e : (2 : Int) ^ (i % 8) = ((2 ^ (i % 8) : Nat) : Int) := by rw [Int.natCast_pow]; rfl
  rw [e, ← Int.natCast_ediv]
  generalize c / 2 ^ (i % 8) = z
  by_cases h : z % 2 = 1
  · rw [if_pos (decide_eq_true h)]; omega
  · rw [if_neg (by simpa using h)]; omega
theorem in_mk (ms : List Bool) : inV (V.int 1) (mkV ms) = decide (true ∈ ms) := by
  unfold inV mkV
  rw [List.any_map]
  cases h : decide (true ∈ ms) with
  | true =>
    have h := of_decide_eq_true h
    rw [List.any_eq_true]
    exact ⟨true, h, rfl⟩
  | false =>
    have h := of_decide_eq_false h
    rw [List.any_eq_false]
    intro b hb
    cases b with
    | true => exact absurd hb h
    | false => decide
theorem flat_mk (ms : List Bool) : (mkV ms).all flatV = true := by
  unfold mkV; rw [List.all_map, List.all_eq_true]; intro b _; rfl
theorem mkV_take (ms : List Bool) (n : Nat) : mkV (ms.take n) = (mkV ms).take n := List.map_take
theorem mkV_drop (ms : List Bool) (n : Nat) : mkV (ms.drop n) = (mkV ms).drop n := List.map_drop
theorem bitsAll_len (bs : List Nat) (p : Nat) : (bitsAll bs p).length = 8 * msz p := by unfold bitsAll; rw [List.length_map, List.length_range]
theorem sIx_some (n d p : Nat) : HT.sIx n d (some (p : Int)) = min p n := by
  show (if (p : Int) < 0 then ((p : Int) + n).toNat else min (p : Int).toNat n) = _
  rw [if_neg (by omega), Int.toNat_natCast]
theorem cut_take (xs : List V) (p : Nat) : cutV xs none (some (p : Int)) = xs.take p := by
  unfold cutV
  rw [sIx_some]
  show (xs.drop 0).take (min p xs.length - 0) = _
  rw [List.drop_zero, Nat.sub_zero]
  by_cases c : p ≤ xs.length
  · rw [Nat.min_eq_left c]
  · rw [Nat.min_eq_right (by omega), List.take_length, List.take_of_length_le (by omega)]
theorem cut_drop (xs : List V) (p : Nat) : cutV xs (some (p : Int)) none = xs.drop p := by
  unfold cutV
  rw [sIx_some]
  show (xs.drop (min p xs.length)).take (xs.length - min p xs.length) = _
  by_cases c : p ≤ xs.length
  · rw [Nat.min_eq_left c, List.take_of_length_le (by rw [List.length_drop]; exact Nat.le_refl _)]
  · rw [Nat.min_eq_right (by omega), List.drop_length, List.take_nil, List.drop_eq_nil_iff.mpr (by omega)]
theorem ok_runs_marks (T : Txt K mg C D) : DefX P w K mg base D "runs_marks" ["a", "part_count"] 2 (sp_runs_marks K D) := by
  have nd := sc_runs_marks.nd
  refine T.runs_marks.okX sc_runs_marks (fun vs H Q E h => ?_) (fun f cdv A outer s H vs Q E hr h => ?_)
  · obtain ⟨a, bs, p, rfl, _⟩ := h; rfl
  · obtain ⟨a, bs, p, rfl, hb, hp, k1, k2⟩ := h
    refine ⟨_, pss_cons (ps_set (i := 2) nd rfl (Or.inl rfl) (pe_callD (ok_marks_size T) hr rfl (pa_cons (pv 1) pa_nil)))
      (pss_cons (ps_expr (pe_callX (E := EX H E) (ok_require T) passR hr rfl (pa_cons (pe_cmpR op_le (pe_op op_add pe_int (pv 2)) (pe_callB call_len_seq (by rfl) T.len PySem.boot_len (pa_cons (pv 0) pa_nil)) (nomark _)) pa_nil)))
      (pss_cons (ps_setLc (i := 3) (own := [("i", 5)]) (te := tOp (rI0 fun i j => .int (Builtin.bitAnd i j)) (tOp (rI (fun _ j => 0 ≤ j) fun i j => .int (i / 2 ^ j.toNat)) (tOp (rIxL K) (tVar 0) (tOp (rI0 fun i j => .int (i + j)) (tC (.int 4)) (tOp (rI CDiv fun i j => .int (i / j)) (tVar 5) (tC (.int 8))))) (tOp (rI (fun _ j => 0 < j) fun i j => .int (i % j)) (tVar 5) (tC (.int 8)))) (tC (.int 1))) rfl nd rfl rfl (by rfl)
          (pi_range1 rfl T.range (pa_cons (pe_op op_mul pe_int (pv 2)) pa_nil)) (blkOk_by (by show blkC ["a", "part_count", "size", "bits", "marks", "i"] (defScope s_runs_marks) _ [("i", 5)] = true; decide +kernel)) (fun _ _ _ _ _ => by exact pg_name (i := 5) nd rfl (Or.inl rfl)) (fun _ _ _ _ _ => by exact pts_nil)
          (fun _ _ _ _ _ => by exact pe_op op_and (pe_op op_shr (pe_ix ix_list (pv 0) (pe_op op_add pe_int (pe_op op_fdiv (pv 5) pe_int)) (fun _ _ => rfl)) (pe_op op_mod (pv 5) pe_int)) pe_int))
      (pss_cons (ps_set (i := 4) nd rfl (Or.inl rfl) (pe_slice sl_list (pv 3) po_none (po_some (pv 1))))
      (pss_cons (ps_expr (pe_callX (E := EX H E) (ok_require T) passR hr rfl (pa_cons (pe_cmpR op_in_seq pe_int (pv 4) (by rfl)) pa_nil)))
      (pss_cons (ps_expr (pe_callX (E := EX H E) (ok_require T) passR hr rfl (pa_cons (pe_cmpR op_notIn_seq pe_int (pe_slice sl_list (pv 3) (po_some (pv 1)) po_none) (by rfl)) pa_nil)))
      (pss_one (ps_ret (pv 4)))))))), ?_⟩
    have em : (((p : Nat) : Int) + 7) / 8 = ((msz p : Nat) : Int) := by unfold msz; omega
    refine ⟨_, rfl, _, rfl, ?_⟩
    rw [em]
    refine ⟨_, rfl, _, _, rfl, rfl, _, rfl, a, _, rfl, .inl hb.1, _, _, rfl, rfl, _, rfl, fun hc => ?_, fun hc => ?_⟩
    rotate_left
    · have hc := of_decide_eq_false hc
      rw [natL_len] at hc
      refine ⟨Same.refl H, k2 ?_ H (Same.refl H)⟩
      unfold rdRunMarks; rw [if_neg (fun h => hc (by have := h.1; omega))]; rfl
    have hc := of_decide_eq_true hc
    rw [natL_len] at hc
    have le : 4 + msz p ≤ bs.length := by omega
    have e8 : (8 : Int) * ((msz p : Nat) : Int) = ((8 * msz p : Nat) : Int) := by omega
    refine ⟨_, rfl, _, _, rfl, rfl, .inl ⟨by decide, by decide⟩, _, rfl, by omega, by omega, fun d hd => lc_range (fun i H' => H' d = some (.lst (mkV ((bitsAll bs p).take i))) ∧ Same H H') ?_ ?_ ?_⟩
    · exact ⟨upd_same, Same.new hd⟩
    · rintro i H' hi ⟨h1, sm⟩
      have hi : i < 8 * msz p := by omega
      have lt : 4 + i / 8 < bs.length := by omega
      have gm := List.getElem?_eq_getElem lt
      generalize bs[4 + i / 8] = c at gm
      have z0 : (0 : Int) + (i : Int) = ((i : Nat) : Int) := by omega
      rw [z0]
      refine ⟨rfl, ?_⟩
      refine ⟨_, rfl, _, rfl, _, _, rfl, rfl, ⟨by decide, by decide⟩, _, _, rfl, rfl, a, _, _, _, rfl, rfl, sm.seq hb.1, at_of (j := 4 + i / 8) (by omega) (natL_get' gm), _, rfl, _, _, rfl, rfl, (by show (0 : Int) < 8; decide), _, _, rfl, rfl, by omega, _, _, rfl, rfl, _, h1, ?_, ?_, ?_⟩
      · rw [mkV_len, List.length_take, bitsAll_len, sizeLine_val]; unfold msz; omega
      · have gb : (bitsAll bs p)[i]? = some (bitAt bs i) := by unfold bitsAll; rw [List.getElem?_map, List.getElem?_range hi]; rfl
        have bv := bit_val c i
        have ba : bitAt bs i = c.testBit (i % 8) := by unfold bitAt bitOf; rw [getD_some gm]
        rw [upd_same, take_snoc gb]
        dsimp only
        rw [bv, ← ba]
        unfold mkV
        rw [List.map_append]; rfl
      · intro b o hb'
        rw [upd_ne (ne_of_none hb' hd)]; exact sm _ _ hb'
    · rintro H1 ⟨h1, sm⟩
      rw [show ((8 : Int) * ((msz p : Nat) : Int)).toNat = 8 * msz p by omega, List.take_of_length_le (by rw [bitsAll_len]; exact Nat.le_refl _)] at h1
      refine ⟨_, rfl, _, rfl, _, rfl, d, _, rfl, SqL.of h1, fun m hm => ?_⟩
      rw [cut_take, ← mkV_take]
      have s2 := sm.trans (Same.new (o := .lst (mkV ((bitsAll bs p).take p))) hm)
      have md : m ≠ d := Ne.symm (ne_of_none h1 hm)
      refine ⟨_, rfl, m, _, rfl, .inl (SqL.of upd_same), rfl, flat_mk _, _, rfl, fun hc1 => ?_, fun hc1 => ?_⟩
      rotate_left
      · rw [if_neg (by decide), in_mk] at hc1
        have hc1 := of_decide_eq_false hc1
        refine ⟨s2, k2 ?_ _ s2⟩
        unfold rdRunMarks; rw [if_neg (fun h => hc1 h.2.1)]; rfl
      rw [if_neg (by decide), in_mk] at hc1
      have hc1 := of_decide_eq_true hc1
      refine ⟨_, rfl, _, rfl, _, rfl, d, _, rfl, SqL.of (by rw [upd_ne (Ne.symm md)]; exact h1), fun q hq => ?_⟩
      rw [cut_drop, ← mkV_drop]
      have s3 := s2.trans (Same.new (o := .lst (mkV ((bitsAll bs p).drop p))) hq)
      have mq : m ≠ q := fun z => by rw [← z, upd_same] at hq; cases hq
      refine ⟨q, _, rfl, .inl (SqL.of upd_same), rfl, flat_mk _, _, rfl, fun hc2 => ?_, fun hc2 => ?_⟩
      · rw [if_pos rfl, in_mk] at hc2
        have hc2 : true ∉ (bitsAll bs p).drop p := by
          intro z; rw [decide_eq_true z] at hc2; cases hc2
        refine ⟨_, rfl, k1 (mkV ((bitsAll bs p).take p)) ?_ _ m s3 (sm.free hm) (by rw [upd_ne mq, upd_same])⟩
        unfold rdRunMarks; rw [if_pos ⟨le, hc1, hc2⟩]; rfl
      · rw [if_pos rfl, in_mk] at hc2
        have hc2 : true ∈ (bitsAll bs p).drop p := by
          rcases Decidable.em (true ∈ (bitsAll bs p).drop p) with z | z
          · exact z
          · rw [decide_eq_false z] at hc2; cases hc2
        refine ⟨s3, k2 ?_ _ s3⟩
        unfold rdRunMarks; rw [if_neg (fun h => h.2.2 hc2)]; rfl
def sp_read_marks (K : PySem.W.Frag) (D : Addr) : Sp := fun vs H Q E => ∃ (a : Addr) (bs : List Nat), vs = [.ref a] ∧ ByAt K H a bs ∧ GivesX D H Q E ((rdMarks bs).map mkV)
theorem sc_read_marks : FnScope ["a", "first"] ["a"] (defScope s_read_marks) := ⟨rfl, rfl, rfl, by decide +kernel, rfl, by decide +kernel, by decide +kernel⟩
theorem ok_read_marks (T : Txt K mg C D) : DefX P w K mg base D "read_marks" ["a"] 4 (sp_read_marks K D) := by
  have nd := sc_read_marks.nd
  have gP := T.PLAIN_FRONT
  have gR := T.RUNS_FRONT
  refine T.read_marks.okX sc_read_marks (fun vs H Q E h => ?_) (fun f cdv A outer s H vs Q E hr h => ?_)
  · obtain ⟨a, bs, rfl, _⟩ := h; rfl
  · obtain ⟨a, bs, rfl, hb, k1, k2⟩ := h
    refine ⟨_, pss_cons (ps_set (i := 1) nd rfl (Or.inl rfl) (pe_callX (E := EX H E) (ok_number_at T) passR (hr.mono (by decide)) rfl (pa_cons (pv 0) (pa_cons pe_int (pa_cons pe_int pa_nil)))))
      (pss_cons (ps_if (pt_cmpR op_eq (pv 1) (pe_gint rfl gP) (nomark _)) (pss_one (ps_ret (pe_callX (E := EX H E) (ok_plain_marks T) passR hr rfl (pa_cons (pv 0) pa_nil)))) pss_nil)
      (pss_cons (ps_expr (pe_callX (E := EX H E) (ok_require T) passR (hr.mono (by decide)) rfl (pa_cons (pe_cmpR op_eq (pe_op op_mod (pv 1) pe_int) (pe_gint rfl gR) (nomark _)) pa_nil)))
      (pss_one (ps_ret (pe_callX (E := EX H E) (ok_runs_marks T) passR (hr.mono (by decide)) rfl (pa_cons (pv 0) (pa_cons (pe_op op_add (pe_op op_fdiv (pv 1) pe_int) pe_int) pa_nil))))))), ?_⟩
    refine ⟨_, rfl, a, bs, 0, 4, rfl, hb, by decide, fun v hv => ?_, fun hv => ⟨Same.refl H, k2 (by unfold rdMarks; rw [hv]; rfl) H (Same.refl H)⟩⟩
    have e : rdMarks bs = if v = 12346 then plainM bs else if v % 65536 = 12347 then rdRunMarks bs (v / 65536 + 1) else none := by unfold rdMarks; rw [hv]; rfl
    rw [e] at k1 k2
    have v4 : v < 256 ^ 4 := by have := (num_iff.mp hv).2; rw [← this]; exact at_lt hb.2.1 0 4
    refine ⟨_, rfl, rfl, _, rfl, ?_⟩
    by_cases c : v = 12346
    · rw [if_pos c] at k1 k2
      refine goT (decide_eq_true (by rw [c]; rfl)) ?_
      exact ⟨_, rfl, a, bs, rfl, hb, fun xs hx => k1 xs hx, fun hx H' sm => ⟨sm, k2 hx H' sm⟩⟩
    · rw [if_neg c] at k1 k2
      refine goF (decide_eq_false fun z => c (by have := V.int.inj z; omega)) ?_
      refine ⟨_, rfl, _, _, rfl, rfl, (by show (0 : Int) < 65536; decide), rfl, _, rfl, fun hc => ?_, fun hc => ?_⟩
      · have hc := V.int.inj (of_decide_eq_true hc)
        have hm : v % 65536 = 12347 := by omega
        rw [if_pos hm] at k1 k2
        have ev : ((v : Nat) : Int) / 65536 + 1 = ((v / 65536 + 1 : Nat) : Int) := by omega
        exact ⟨_, rfl, _, rfl, _, _, rfl, rfl, ⟨by decide, by decide⟩, _, _, rfl, rfl, a, bs, v / 65536 + 1, by dsimp only; rw [ev]; rfl, hb, by omega, fun xs hx => k1 xs hx, fun hx H' sm => ⟨sm, k2 hx H' sm⟩⟩
      · have hc := of_decide_eq_false hc
        have hm : ¬ v % 65536 = 12347 := fun z => hc (by show V.int _ = V.int _; congr 1; omega)
        rw [if_neg hm] at k2
        exact ⟨Same.refl H, k2 rfl H (Same.refl H)⟩
def sp_read_keys (K : PySem.W.Frag) (D : Addr) : Sp := fun vs H Q E => ∃ (a : Addr) (bs : List Nat) (p place : Nat), vs = [.ref a, .int p, .int place] ∧ ByAt K H a bs ∧ p ≤ 70000 ∧ GivesX D H Q E ((rdKeys bs p place).map natL)
theorem sc_read_keys : FnScope ["a", "part_count", "place", "keys", "i"] ["a", "part_count", "place"] (defScope s_read_keys) := ⟨rfl, rfl, rfl, by decide +kernel, rfl, by decide +kernel, by decide +kernel⟩
theorem ok_read_keys (T : Txt K mg C D) : DefX P w K mg base D "read_keys" ["a", "part_count", "place"] 3 (sp_read_keys K D) := by
  have nd := sc_read_keys.nd
  refine T.read_keys.okX sc_read_keys (fun vs H Q E h => ?_) (fun f cdv A outer s H vs Q E hr h => ?_)
  · obtain ⟨a, bs, p, place, rfl, _⟩ := h; rfl
  · obtain ⟨a, bs, p, place, rfl, hb, hp, k1, k2⟩ := h
    refine ⟨_, pss_cons (ps_setLcX (i := 3) (own := [("i", 4)]) (te := tCall (sp_number_at K D) [] (fun _ _ H' => EX H E (.ref D) none H') (tCons (tVar 0) (tCons (tOp (rI0 fun i j => .int (i + j)) (tVar 2) (tOp (rI CMul fun i j => .int (i * j)) (tC (.int 4)) (tVar 4))) (tCons (tC (.int 2)) tNil)))) rfl rfl nd rfl rfl (by rfl)
          (pi_range1 rfl T.range (pa_cons (pv 1) pa_nil)) (blkOk_by (by show blkC ["a", "part_count", "place", "keys", "i"] (defScope s_read_keys) _ [("i", 4)] = true; decide +kernel)) (fun _ _ _ _ _ => by exact pg_name (i := 4) nd rfl (Or.inl rfl)) (fun _ _ _ _ _ => by exact pts_nil)
          (fun _ _ _ _ _ => by exact pe_callX (ok_number_at T) (passB rfl rfl rfl) hr rfl (pa_cons (pv 0) (pa_cons (pe_op op_add (pv 2) (pe_op op_mul pe_int (pv 4))) (pa_cons pe_int pa_nil)))))
      (pss_cons (ps_for PassesOwn.leaving rfl (pi_range2 rfl T.range (pa_cons pe_int (pa_cons (pv 1) pa_nil))) (pg_name (i := 4) nd rfl (Or.inl rfl))
        (pss_one (ps_expr (pe_callX (E := EX H E) (ok_require T) passR (hr.mono (by decide)) rfl (pa_cons (pe_cmpR op_lt (pe_ix ix_list (pv 3) (pe_op op_sub (pv 4) pe_int) (fun _ _ => rfl)) (pe_ix ix_list (pv 3) (pv 4) (fun _ _ => rfl)) (nomark _)) pa_nil)))))
      (pss_one (ps_ret (pv 3)))), ?_⟩
    have gk : ∀ j, j < p → (keysL bs place p)[j]? = some (Sv14.at_ bs.toArray (place + 4 * j) 2) := fun j hj => by unfold keysL; rw [List.getElem?_map, List.getElem?_range hj]; rfl
    have kl : (keysL bs place p).length = p := by unfold keysL; rw [List.length_map, List.length_range]
    refine ⟨_, rfl, p, rfl, by omega, by omega, fun d hd => lc_range (fun i H' => H' d = some (.lst (natL ((keysL bs place p).take i))) ∧ Same H H' ∧ ∀ j, j < i → place + 4 * j + 2 ≤ bs.length) ?_ ?_ ?_⟩
    · exact ⟨upd_same, Same.new hd, fun j hj => absurd hj (Nat.not_lt_zero j)⟩
    · rintro i H' hi ⟨h1, sm, bd⟩
      rw [Int.toNat_natCast] at hi
      have ei : ((place : Nat) : Int) + 4 * ((0 : Int) + ((i : Nat) : Int)) = ((place + 4 * i : Nat) : Int) := by omega
      refine ⟨rfl, ?_⟩
      refine ⟨_, rfl, _, rfl, _, rfl, _, _, rfl, rfl, .inl ⟨by decide, by decide⟩, _, _, rfl, rfl, a, bs, place + 4 * i, 2, by dsimp only; rw [ei]; rfl, hb.same sm, by decide, fun v hv => ?_, fun hv => ?_⟩
      · obtain ⟨le, ev⟩ := num_iff.mp hv
        refine ⟨_, h1, ?_, ?_, ?_, ?_⟩
        · rw [natL_len, List.length_take, kl, sizeLine_val]; omega
        · rw [upd_same, take_snoc (gk i hi), natL_append, ← ev]; rfl
        · intro b o hb'
          rw [upd_ne (ne_of_none hb' hd)]; exact sm _ _ hb'
        · intro j hj
          rcases Nat.lt_or_ge j i with c | c
          · exact bd j c
          · have : j = i := by omega
            rw [this]; exact le
      · refine ⟨sm, k2 ?_ H' sm⟩
        have : ¬ place + 4 * i + 2 ≤ bs.length := fun z => by rw [num_some z] at hv; cases hv
        unfold rdKeys
        rw [if_neg (fun h => by rcases h.1 with z | z <;> omega)]; rfl
    · rintro H1 ⟨h1, sm, bd⟩
      rw [Int.toNat_natCast] at h1 bd
      rw [List.take_of_length_le (by rw [kl]; exact Nat.le_refl _)] at h1
      have bnd : p = 0 ∨ place + 4 * (p - 1) + 2 ≤ bs.length := by
        rcases Nat.eq_zero_or_pos p with z | z
        · exact .inl z
        · exact .inr (bd (p - 1) (by omega))
      refine ⟨_, rfl, 1, (p : Int), rfl, ⟨by omega, by omega, by omega, by omega⟩, for_range (lo := 1) (n := ((p : Int) - 1).toNat) (fun m σ H' => ∃ v4 : Option V, H' = H1 ∧ σ = [some (.ref a), some (.int (p : Int)), some (.int (place : Int)), some (.ref d), v4] ∧ ∀ j, j < m → Sv14.at_ bs.toArray (place + 4 * j) 2 < Sv14.at_ bs.toArray (place + 4 * (j + 1)) 2) ?_ ?_ ?_⟩
      · exact ⟨none, rfl, rfl, fun j hj => absurd hj (Nat.not_lt_zero j)⟩
      · rintro m σ H' hm ⟨v4, rfl, rfl, ih⟩
        have hm : m + 1 < p := by omega
        refine ⟨_, rfl, _, rfl, _, _, rfl, rfl, d, _, _, _, rfl, rfl, SqL.of h1, at_of (j := m) (by omega) (natL_get' (gk m (by omega))), _, rfl, _, rfl, d, _, _, _, rfl, rfl, SqL.of h1, at_of (j := m + 1) (by omega) (natL_get' (gk (m + 1) hm)), _, _, rfl, rfl, _, rfl, fun hc => ?_, fun hc => ?_⟩
        · have hc := of_decide_eq_true hc
          refine ⟨_, rfl, rfl, fun j hj => ?_⟩
          rcases Nat.lt_or_ge j m with c | c
          · exact ih j c
          · have : j = m := by omega
            rw [this]; omega
        · have hc := of_decide_eq_false hc
          refine ⟨sm, k2 ?_ _ sm⟩
          unfold rdKeys
          rw [if_neg (fun h => ?_)]; rfl
          have h2 := h.2
          unfold rises at h2
          rw [zip_all] at h2
          have := of_decide_eq_true (h2 m _ _ (gk m (by omega)) (gk (m + 1) hm))
          omega
      · rintro σ H' ⟨v4, rfl, rfl, ih⟩
        refine ⟨_, rfl, k1 (natL (keysL bs place p)) ?_ _ d sm hd h1⟩
        unfold rdKeys
        rw [if_pos]; rfl
        refine ⟨bnd, ?_⟩
        unfold rises
        rw [zip_all]
        intro j x y hx hy
        have hj : j + 1 < p := by have := (List.getElem?_eq_some_iff.mp hy).1; rw [kl] at this; exact this
        rw [gk j (by omega)] at hx
        rw [gk (j + 1) hj] at hy
        cases hx; cases hy
        exact decide_eq_true (ih j (by omega))
end
end PK
namespace PK
open PySem PySem.Spec PyProof.Rows L2 PM
section
variable {P : Program} {w : World} {K : PySem.W.Frag} {mg : Str → Option Value} {base : Heap} {C D : Addr}
def endI (l : List Sv14.Span) : Int := match l.getLast? with
  | some s => (s.2 : Int) + 1
  | none => -1
theorem endI_snoc (l : List Sv14.Span) (s : Sv14.Span) : endI (l ++ [s]) = (s.2 : Int) + 1 := by unfold endI; rw [List.getLast?_append]; rfl
theorem runsL_snoc (b : Sv14.Fast) (i n : Nat) : runsL b i (n + 1) = runsL b i n ++ [runL b i n] := by unfold runsL; rw [List.range_succ, List.map_append]; rfl
theorem runsL_prefix (b : Sv14.Fast) (i : Nat) {m n : Nat} (h : m ≤ n) : (runsL b i m).Sublist (runsL b i n) := by
  unfold runsL
  refine List.Sublist.map _ ?_
  have : List.range m = (List.range n).take m := by rw [List.take_range, Nat.min_eq_left h]
  rw [this]; exact List.take_sublist _ _
theorem apart_sub {l m : List Sv14.Span} (h : Apart m) (s : l.Sublist m) : Apart l := ⟨fun t ht => h.1 t (s.subset ht), h.2.sublist s⟩
theorem apart_snoc {l : List Sv14.Span} {s : Sv14.Span} (h : Apart l) (hs : s.1 ≤ s.2) (he : endI l < (s.1 : Int)) : Apart (l ++ [s]) := by
  rcases List.eq_nil_or_concat l with z | ⟨l0, t, z⟩
  · subst z; exact ⟨fun u hu => by rw [List.mem_singleton.mp hu]; exact hs, by simp⟩
  · rw [List.concat_eq_append] at z
    subst z
    rw [endI_snoc] at he
    refine ⟨fun u hu => ?_, ?_⟩
    · rcases List.mem_append.mp hu with q | q
      · exact h.1 u q
      · rw [List.mem_singleton.mp q]; exact hs
    · rw [List.pairwise_append]
      refine ⟨h.2, by simp, fun a ha b hb => ?_⟩
      rw [List.mem_singleton.mp hb]
      rcases List.mem_append.mp ha with q | q
      · have := (List.pairwise_append.mp h.2).2.2 a q t (by simp)
        have := h.1 t (by simp)
        omega
      · rw [List.mem_singleton.mp q]; omega
theorem apart_end {l : List Sv14.Span} {s : Sv14.Span} (h : Apart (l ++ [s])) : endI l < (s.1 : Int) := by
  rcases List.eq_nil_or_concat l with z | ⟨l0, t, z⟩
  · subst z; show (-1 : Int) < _; omega
  · rw [List.concat_eq_append] at z
    subst z
    rw [endI_snoc]
    have := (List.pairwise_append.mp h.2).2.2 t (by simp) s (by simp)
    omega
theorem mstep_gap {l : List Sv14.Span} {s : Sv14.Span} (h : endI l < (s.1 : Int)) : (mstep l.reverse s).reverse = l ++ [s] := by
  rcases List.eq_nil_or_concat l with z | ⟨l0, t, z⟩
  · subst z; rfl
  · rw [List.concat_eq_append] at z
    subst z
    rw [endI_snoc] at h
    rw [List.reverse_append]
    show (mstep (t :: l0.reverse) s).reverse = _
    unfold mstep
    dsimp only
    rw [if_neg (by omega)]
    simp
def sp_read_runs (K : PySem.W.Frag) (D : Addr) : Sp := fun vs H Q E => ∃ (a : Addr) (bs : List Nat) (i : Nat), vs = [.ref a, .int i] ∧ ByAt K H a bs ∧ GivesX D H Q E ((Sv14.runsAt bs.toArray i).map fun x => flV x.1)
theorem sc_read_runs : FnScope ["a", "place", "edges", "end", "i", "first"] ["a", "place"] (defScope s_read_runs) := ⟨rfl, rfl, rfl, by decide +kernel, rfl, by decide +kernel, by decide +kernel⟩
theorem ok_read_runs (T : Txt K mg C D) : DefX P w K mg base D "read_runs" ["a", "place"] 3 (sp_read_runs K D) := by
  have nd := sc_read_runs.nd
  have gP := T.PART
  refine T.read_runs.okX sc_read_runs (fun vs H Q E h => ?_) (fun f cdv A outer s H vs Q E hr h => ?_)
  · obtain ⟨a, bs, i, rfl, _⟩ := h; rfl
  · obtain ⟨a, bs, i, rfl, hb, k1, k2⟩ := h
    refine ⟨_, pss_cons (ps_set (i := 2) nd rfl (Or.inl rfl) (pe_lst pa_nil))
      (pss_cons (ps_set (i := 3) nd rfl (Or.inl rfl) (pe_un un_neg pe_int))
      (pss_cons (ps_for PassesOwn.leaving rfl (pi_range1 rfl T.range (pa_cons (pe_callX (E := EX H E) (ok_number_at T) passR hr rfl (pa_cons (pv 0) (pa_cons (pv 1) (pa_cons pe_int pa_nil)))) pa_nil)) (pg_name (i := 4) nd rfl (Or.inl rfl))
        (pss_cons (ps_set (i := 5) nd rfl (Or.inl rfl) (pe_callX (E := EX H E) (ok_number_at T) passR hr rfl (pa_cons (pv 0) (pa_cons (pe_op op_add (pe_op op_add (pv 1) pe_int) (pe_op op_mul pe_int (pv 4))) (pa_cons pe_int pa_nil)))))
        (pss_cons (ps_expr (pe_callX (E := EX H E) (ok_require T) passR (hr.mono (by decide)) rfl (pa_cons (pe_cmpR op_gt (pv 5) (pv 3) (nomark _)) pa_nil)))
        (pss_cons (ps_set (i := 3) nd rfl (Or.inl rfl) (pe_op op_add (pe_op op_add (pv 5) (pe_callX (E := EX H E) (ok_number_at T) passR hr rfl (pa_cons (pv 0) (pa_cons (pe_op op_add (pe_op op_add (pv 1) pe_int) (pe_op op_mul pe_int (pv 4))) (pa_cons pe_int pa_nil))))) pe_int))
        (pss_cons (ps_expr (pe_callX (E := EX H E) (ok_require T) passR (hr.mono (by decide)) rfl (pa_cons (pe_cmpR op_le (pv 3) (pe_gint rfl gP) (nomark _)) pa_nil)))
        (pss_one (ps_expr (pe_callD (ok_add_span T) (hr.mono (by decide)) rfl (pa_cons (pv 2) (pa_cons (pv 5) (pa_cons (pv 3) pa_nil)))))))))))
      (pss_one (ps_ret (pv 2))))), ?_⟩
    refine ⟨Nat.zero_le _, fun d hd => ?_⟩
    have s1 := Same.new (o := .lst []) hd
    have fail : ¬ RunsOk bs.toArray i → ∀ H', Same H H' → EX H E (.ref D) none H' := fun h H' sm => ⟨sm, k2 (by rw [runsAt_none h]; rfl) H' sm⟩
    have bsz : bs.toArray.size = bs.length := List.size_toArray
    refine ⟨_, rfl, _, rfl, _, rfl, a, bs, i, 2, rfl, hb.same s1, by decide, fun n hn => ?_, fun hn => fail (fun ok => ?_) _ s1⟩
    rotate_left
    · have := ok.le
      rw [bsz] at this
      rw [num_some (by omega)] at hn; cases hn
    obtain ⟨le0, en⟩ := num_iff.mp hn
    have n16 : n < 65536 := by rw [← en]; exact at_lt hb.2.1 i 2
    refine ⟨_, rfl, by omega, by omega, for_range (lo := 0) (n := (n : Int).toNat) (fun m σ H' => ∃ v4 v5 : Option V, σ = [some (.ref a), some (.int (i : Int)), some (.ref d), some (.int (endI (runsL bs.toArray i m))), v4, v5] ∧ H' d = some (.lst (flV (runsL bs.toArray i m))) ∧ Same H H' ∧ Apart (runsL bs.toArray i m) ∧ (∀ s, s ∈ runsL bs.toArray i m → s.2 < 65536) ∧ i + 2 + 4 * m ≤ bs.length) ?_ ?_ ?_⟩
    · exact ⟨none, none, rfl, upd_same, s1, ⟨by simp [runsL], by simp [runsL]⟩, by simp [runsL], by omega⟩
    · rintro m σ H1 hm ⟨v4, v5, rfl, x1, sm, ap, tp, ln⟩
      rw [Int.toNat_natCast] at hm
      have e1 : ((i : Nat) : Int) + 2 + 4 * ((0 : Int) + ((m : Nat) : Int)) = ((i + 2 + 4 * m : Nat) : Int) := by omega
      have e2 : ((i : Nat) : Int) + 4 + 4 * ((0 : Int) + ((m : Nat) : Int)) = ((i + 4 + 4 * m : Nat) : Int) := by omega
      have pre := runsL_prefix bs.toArray i (show m + 1 ≤ n by omega)
      refine ⟨_, rfl, _, rfl, _, _, rfl, rfl, _, rfl, _, _, rfl, rfl, .inl ⟨by decide, by decide⟩, _, _, rfl, rfl, a, bs, i + 2 + 4 * m, 2, by dsimp only; rw [e1]; rfl, hb.same sm, by decide, fun v hv => ?_, fun hv => fail (fun ok => ?_) _ sm⟩
      rotate_left
      · have := ok.le
        rw [bsz, en] at this
        rw [num_some (by omega)] at hv; cases hv
      obtain ⟨le1, ev⟩ := num_iff.mp hv
      refine ⟨_, rfl, _, rfl, _, _, rfl, rfl, _, rfl, fun hc => ?_, fun hc => fail (fun ok => ?_) _ sm⟩
      rotate_left
      · have hc := of_decide_eq_false hc
        have ap2 := apart_sub ok.ap (by rw [en]; exact pre)
        rw [runsL_snoc] at ap2
        have := apart_end ap2
        have : (runL bs.toArray i m).1 = v := ev
        omega
      have hc := of_decide_eq_true hc
      refine ⟨_, rfl, _, rfl, _, rfl, _, _, rfl, rfl, _, rfl, _, _, rfl, rfl, .inl ⟨by decide, by decide⟩, _, _, rfl, rfl, a, bs, i + 4 + 4 * m, 2, by dsimp only; rw [e2]; rfl, hb.same sm, by decide, fun u hu => ?_, fun hu => fail (fun ok => ?_) _ sm⟩
      rotate_left
      · have := ok.le
        rw [bsz, en] at this
        rw [num_some (by omega)] at hu; cases hu
      obtain ⟨le2, eu⟩ := num_iff.mp hu
      have er : runL bs.toArray i m = (v, v + u) := by unfold runL; rw [ev, eu]
      refine ⟨_, _, rfl, rfl, _, _, rfl, rfl, ?_⟩
      refine ⟨_, rfl, _, _, rfl, rfl, _, rfl, fun hc2 => ?_, fun hc2 => fail (fun ok => ?_) _ sm⟩
      rotate_left
      · have hc2 := of_decide_eq_false hc2
        have := ok.top (v, v + u) (by rw [en]; exact pre.subset (by rw [runsL_snoc, er]; simp))
        have : Sv14.PART = 65536 := rfl
        dsimp only at *
        omega
      have hc2 := of_decide_eq_true hc2
      have gap : endI (runsL bs.toArray i m) < (((v, v + u) : Sv14.Span).1 : Int) := hc
      have snoc : runsL bs.toArray i (m + 1) = runsL bs.toArray i m ++ [(v, v + u)] := by rw [runsL_snoc, er]
      refine ⟨_, rfl, _, rfl, _, rfl, d, (runsL bs.toArray i m).reverse, (v, v + u), ?_, by rw [List.reverse_reverse]; exact x1, by rw [List.length_reverse, runsL_len, sizeLine_val]; omega, ?_⟩
      · show [V.ref d, V.int _, V.int _] = [V.ref d, V.int _, V.int _]
        dsimp only
        rw [Int.natCast_add]
      · refine ⟨some (.int ((0 : Int) + (m : Int))), some (.int (v : Int)), ?_, ?_, ?_, ?_, ?_, ?_⟩
        rotate_left
        · rw [upd_same, mstep_gap gap, snoc]
        · intro b o hb'
          rw [upd_ne (ne_of_none hb' hd)]; exact sm _ _ hb'
        · rw [snoc]; exact apart_snoc ap (Nat.le_add_right _ _) gap
        · rw [snoc]
          intro s hs
          rcases List.mem_append.mp hs with q | q
          · exact tp s q
          · rw [List.mem_singleton.mp q]; dsimp only; omega
        · omega
        · rw [snoc, endI_snoc]; dsimp only; rw [Int.natCast_add]; rfl
    · rintro σ H1 ⟨v4, v5, rfl, x1, sm, ap, tp, ln⟩
      rw [Int.toNat_natCast] at x1 ap tp ln
      refine ⟨_, rfl, k1 (flV (runsL bs.toArray i n)) ?_ H1 d sm hd x1⟩
      have ok : RunsOk bs.toArray i := ⟨by rw [bsz, en]; exact ln, by rw [en]; exact tp, by rw [en]; exact ap⟩
      rw [runsAt_some ok, en]; rfl
end
end PK
namespace PK
open PySem PySem.Spec PyProof.Rows L2 PM
section
variable {P : Program} {w : World} {K : PySem.W.Frag} {mg : Str → Option Value} {base : Heap} {C D : Addr}
def lastI (l : List Nat) : Int := match l.getLast? with
  | some s => (s : Int)
  | none => -1
theorem lastI_snoc (l : List Nat) (s : Nat) : lastI (l ++ [s]) = (s : Int) := by unfold lastI; rw [List.getLast?_append]; rfl
theorem listL_snoc (b : Sv14.Fast) (i n : Nat) : listL b i (n + 1) = listL b i n ++ [Sv14.at_ b (i + 2 * n) 2] := by unfold listL; rw [List.range_succ, List.map_append]; rfl
theorem listL_prefix (b : Sv14.Fast) (i : Nat) {m n : Nat} (h : m ≤ n) : (listL b i m).Sublist (listL b i n) := by
  unfold listL
  refine List.Sublist.map _ ?_
  have : List.range m = (List.range n).take m := by rw [List.take_range, Nat.min_eq_left h]
  rw [this]; exact List.take_sublist _ _
theorem rise_snoc {l : List Nat} {s : Nat} : Rise (l ++ [s]) ↔ Rise l ∧ lastI l < (s : Int) := by
  unfold Rise
  rcases List.eq_nil_or_concat l with z | ⟨l0, t, z⟩
  · subst z
    constructor
    · intro _; exact ⟨by simp, by show (-1 : Int) < _; omega⟩
    · intro _; simp
  · rw [List.concat_eq_append] at z
    subst z
    rw [lastI_snoc, List.pairwise_append (l₁ := l0 ++ [t])]
    constructor
    · rintro ⟨h1, _, h3⟩
      have := h3 t (by simp) s (by simp)
      exact ⟨h1, by omega⟩
    · rintro ⟨h1, h2⟩
      refine ⟨h1, by simp, fun a ha b hb => ?_⟩
      rw [List.mem_singleton.mp hb]
      rcases List.mem_append.mp ha with q | q
      · have := (List.pairwise_append.mp h1).2.2 a q t (by simp); omega
      · rw [List.mem_singleton.mp q]; omega
theorem merged_snoc (l : List Nat) (x : Nat) : ((singles (l ++ [x])).foldl mstep []) = mstep ((singles l).foldl mstep []) (x, x) := by
  unfold singles; rw [List.map_append, List.foldl_append]; rfl
def sp_read_list (K : PySem.W.Frag) (D : Addr) : Sp := fun vs H Q E => ∃ (a : Addr) (bs : List Nat) (i c : Nat), vs = [.ref a, .int i, .int c] ∧ ByAt K H a bs ∧ c ≤ 70000 ∧ 1 ≤ c ∧ GivesX D H Q E ((Sv14.listAt bs.toArray i c).map fun x => flV x.1)
theorem sc_read_list : FnScope ["a", "place", "count", "edges", "last", "i", "number"] ["a", "place", "count"] (defScope s_read_list) := ⟨rfl, rfl, rfl, by decide +kernel, rfl, by decide +kernel, by decide +kernel⟩
theorem ok_read_list (T : Txt K mg C D) : DefX P w K mg base D "read_list" ["a", "place", "count"] 3 (sp_read_list K D) := by
  have nd := sc_read_list.nd
  refine T.read_list.okX sc_read_list (fun vs H Q E h => ?_) (fun f cdv A outer s H vs Q E hr h => ?_)
  · obtain ⟨a, bs, i, c, rfl, _⟩ := h; rfl
  · obtain ⟨a, bs, i, n, rfl, hb, hn7, hn1, k1, k2⟩ := h
    refine ⟨_, pss_cons (ps_set (i := 3) nd rfl (Or.inl rfl) (pe_lst pa_nil))
      (pss_cons (ps_set (i := 4) nd rfl (Or.inl rfl) (pe_un un_neg pe_int))
      (pss_cons (ps_for PassesOwn.leaving rfl (pi_range1 rfl T.range (pa_cons (pv 2) pa_nil)) (pg_name (i := 5) nd rfl (Or.inl rfl))
        (pss_cons (ps_set (i := 6) nd rfl (Or.inl rfl) (pe_callX (E := EX H E) (ok_number_at T) passR hr rfl (pa_cons (pv 0) (pa_cons (pe_op op_add (pv 1) (pe_op op_mul pe_int (pv 5))) (pa_cons pe_int pa_nil)))))
        (pss_cons (ps_expr (pe_callX (E := EX H E) (ok_require T) passR (hr.mono (by decide)) rfl (pa_cons (pe_cmpR op_gt (pv 6) (pv 4) (nomark _)) pa_nil)))
        (pss_cons (ps_expr (pe_callD (ok_add_span T) (hr.mono (by decide)) rfl (pa_cons (pv 3) (pa_cons (pv 6) (pa_cons (pe_op op_add (pv 6) pe_int) pa_nil)))))
        (pss_one (ps_set (i := 4) nd rfl (Or.inl rfl) (pv 6)))))))
      (pss_one (ps_ret (pv 3))))), ?_⟩
    refine ⟨Nat.zero_le _, fun d hd => ?_⟩
    have s1 := Same.new (o := .lst []) hd
    have bsz : bs.toArray.size = bs.length := List.size_toArray
    have fail : ¬ (i + 2 * n ≤ bs.toArray.size ∧ Rise (listL bs.toArray i n)) → ∀ H', Same H H' → EX H E (.ref D) none H' := fun h H' sm => ⟨sm, k2 (by rw [listAt_none h]; rfl) H' sm⟩
    refine ⟨_, rfl, _, rfl, _, rfl, by omega, by omega, for_range (lo := 0) (n := (n : Int).toNat) (fun m σ H' => ∃ v5 v6 : Option V, σ = [some (.ref a), some (.int (i : Int)), some (.int (n : Int)), some (.ref d), some (.int (lastI (listL bs.toArray i m))), v5, v6] ∧ H' d = some (.lst (flV ((singles (listL bs.toArray i m)).foldl mstep []).reverse)) ∧ Same H H' ∧ Rise (listL bs.toArray i m) ∧ (m = 0 ∨ i + 2 * m ≤ bs.length)) ?_ ?_ ?_⟩
    · exact ⟨none, none, rfl, upd_same, s1, by simp [Rise, listL], .inl rfl⟩
    · rintro m σ H1 hm ⟨v5, v6, rfl, x1, sm, ri, ln⟩
      rw [Int.toNat_natCast] at hm
      have e1 : ((i : Nat) : Int) + 2 * ((0 : Int) + ((m : Nat) : Int)) = ((i + 2 * m : Nat) : Int) := by omega
      refine ⟨_, rfl, _, rfl, _, rfl, _, _, rfl, rfl, .inl ⟨by decide, by decide⟩, _, _, rfl, rfl, a, bs, i + 2 * m, 2, by dsimp only; rw [e1]; rfl, hb.same sm, by decide, fun v hv => ?_, fun hv => fail (fun ok => ?_) _ sm⟩
      rotate_left
      · have := ok.1
        rw [bsz] at this
        rw [num_some (by omega)] at hv; cases hv
      obtain ⟨le1, ev⟩ := num_iff.mp hv
      have snoc : listL bs.toArray i (m + 1) = listL bs.toArray i m ++ [v] := by rw [listL_snoc, ev]
      refine ⟨_, rfl, _, rfl, _, _, rfl, rfl, _, rfl, fun hc => ?_, fun hc => fail (fun ok => ?_) _ sm⟩
      rotate_left
      · have hc := of_decide_eq_false hc
        have r2 : Rise (listL bs.toArray i (m + 1)) := List.Pairwise.sublist (listL_prefix bs.toArray i (show m + 1 ≤ n by omega)) ok.2
        rw [snoc, rise_snoc] at r2
        exact hc r2.2
      have hc := of_decide_eq_true hc
      refine ⟨_, rfl, _, rfl, _, rfl, _, _, rfl, rfl, d, _, (v, v), rfl, x1, ?_, ?_⟩
      · have := fold_len (singles (listL bs.toArray i m)) []
        have l2 : (singles (listL bs.toArray i m)).length = m := by unfold singles; rw [List.length_map, listL_len]
        rw [l2, List.length_nil] at this
        rw [sizeLine_val]; omega
      · refine ⟨_, rfl, some (.int ((0 : Int) + (m : Int))), some (.int (v : Int)), ?_, ?_, ?_, ?_, ?_⟩
        rotate_left
        · rw [upd_same, snoc, merged_snoc]
        · intro b o hb'
          rw [upd_ne (ne_of_none hb' hd)]; exact sm _ _ hb'
        · rw [snoc, rise_snoc]; exact ⟨ri, hc⟩
        · right; omega
        · rw [snoc, lastI_snoc]; rfl
    · rintro σ H1 ⟨v5, v6, rfl, x1, sm, ri, ln⟩
      rw [Int.toNat_natCast] at x1 ri ln
      have ok : i + 2 * n ≤ bs.toArray.size ∧ Rise (listL bs.toArray i n) := ⟨by rw [bsz]; omega, ri⟩
      refine ⟨_, rfl, k1 (flV (Sv14.merged (singles (listL bs.toArray i n)))) ?_ H1 d sm hd (by rw [x1, merged_eq])⟩
      rw [listAt_some ok.1 ok.2]; rfl
structure BE (b : Sv14.Fast) (i n : Nat) (El : List Int) : Prop where
  rise : El.Pairwise (· < ·)
  pos : ∀ e, e ∈ El → 0 ≤ e ∧ e < (n : Int)
  par : ∀ x : Nat, x < n → odd (ecnt El x) = bitOf b i x
theorem BE.step {b : Sv14.Fast} {i n : Nat} {El El' : List Int} (B : BE b i n El) (h : El' = if bitOf b i n ≠ odd El.length then El ++ [(n : Int)] else El) : BE b i (n + 1) El' ∧ odd El'.length = bitOf b i n := by
  have low : ∀ e, e ∈ El → e ≤ (n : Int) := fun e he => by have := (B.pos e he).2; omega
  by_cases c : bitOf b i n = odd El.length
  · rw [if_neg (by simpa using c)] at h
    subst h
    refine ⟨⟨B.rise, fun e he => by have := B.pos e he; omega, fun x hx => ?_⟩, c.symm⟩
    rcases Nat.lt_or_ge x n with z | z
    · exact B.par x z
    · have : x = n := by omega
      subst this
      rw [ecnt_low low, c]
  · rw [if_pos c] at h
    subst h
    have ol : odd (El ++ [(n : Int)]).length = bitOf b i n := by
      rw [List.length_append, List.length_singleton, odd_succ]
      cases q : bitOf b i n <;> cases r : odd El.length <;> rw [q, r] at c <;> simp at c ⊢
    refine ⟨⟨?_, ?_, fun x hx => ?_⟩, ol⟩
    · rw [List.pairwise_append]
      exact ⟨B.rise, by simp, fun e he u hu => by rw [List.mem_singleton.mp hu]; exact (B.pos e he).2⟩
    · intro e he
      rcases List.mem_append.mp he with z | z
      · have := B.pos e z; omega
      · rw [List.mem_singleton.mp z]; omega
    · rcases Nat.lt_or_ge x n with z | z
      · rw [ecnt_append, ecnt_high (E := [(n : Int)]) (by intro e he; rw [List.mem_singleton.mp he]; omega), Nat.add_zero]
        exact B.par x z
      · have : x = n := by omega
        subst this
        rw [ecnt_low (E := El ++ [(x : Int)]), ol]
        intro e he
        rcases List.mem_append.mp he with z | z
        · exact low e z
        · rw [List.mem_singleton.mp z]; omega
theorem BE.same {b : Sv14.Fast} {i n : Nat} {El : List Int} (B : BE b i n El) (k : Nat) (h : ∀ x, n ≤ x → x < n + k → bitOf b i x = odd El.length) : BE b i (n + k) El := by
  refine ⟨B.rise, fun e he => by have := B.pos e he; omega, fun x hx => ?_⟩
  rcases Nat.lt_or_ge x n with z | z
  · exact B.par x z
  · rw [ecnt_low (fun e he => by have := (B.pos e he).2; omega), h x z hx]
theorem BE.done {b : Sv14.Fast} {i : Nat} {El El' : List Int} (B : BE b i 65536 El) (h : El' = if odd El.length = true then El ++ [65536] else El) : El' = fl (Sv14.merged (singles (bitsL b i))) := by
  have ev : El'.length % 2 = 0 ∧ El'.Pairwise (· < ·) ∧ (∀ e, e ∈ El' → 0 ≤ e ∧ e ≤ 65536) ∧ ∀ x : Nat, x < 65536 → ecnt El' x = ecnt El x := by
    by_cases c : odd El.length = true
    · rw [if_pos c] at h
      subst h
      refine ⟨?_, ?_, ?_, fun x hx => ?_⟩
      · rw [List.length_append, List.length_singleton]; unfold odd at c; have := of_decide_eq_true c; omega
      · rw [List.pairwise_append]
        exact ⟨B.rise, by simp, fun e he u hu => by rw [List.mem_singleton.mp hu]; exact (B.pos e he).2⟩
      · intro e he
        rcases List.mem_append.mp he with z | z
        · have := B.pos e z; omega
        · rw [List.mem_singleton.mp z]; omega
      · rw [ecnt_append, ecnt_high (E := [65536]) (by intro e he; rw [List.mem_singleton.mp he]; omega), Nat.add_zero]
    · rw [if_neg c] at h
      subst h
      exact ⟨even_of_odd (by simpa using c), B.rise, fun e he => by have := B.pos e he; omega, fun x _ => rfl⟩
  obtain ⟨e1, e2, e3, e4⟩ := ev
  obtain ⟨m, rfl, ap⟩ := fl_of_rising El' e2 (fun e he => (e3 e he).1) e1
  have rs := bitsL_rise b i
  rw [apart_unique m (Sv14.merged (singles (bitsL b i))) ap (merged_singles_apart rs) fun x => ?_]
  rw [holds_merged (singles_ok _) (singles_sorted rs), ← ecnt_fl x m ap]
  by_cases c : x < 65536
  · rw [e4 x c, B.par x c]
    cases q : bitOf b i x with
    | true => exact (singles_holds.mpr (List.mem_filter.mpr ⟨List.mem_range.mpr c, q⟩)).symm
    | false =>
      cases r : Sv14.holds (singles (bitsL b i)) x with
      | false => rfl
      | true =>
        have := (List.mem_filter.mp (singles_holds.mp r)).2
        rw [q] at this; cases this
  · rw [ecnt_low (fun e he => by have := (e3 e he).2; omega)]
    have : odd (fl m).length = false := by unfold odd; exact decide_eq_false (by omega)
    rw [this]
    cases r : Sv14.holds (singles (bitsL b i)) x with
    | false => rfl
    | true => exact absurd (bitsL_lt b i x (singles_holds.mp r)) c
end
end PK
namespace PK
open PySem PySem.Spec PyProof.Rows L2 PM
section
variable {P : Program} {w : World} {K : PySem.W.Frag} {mg : Str → Option Value} {base : Heap} {C D : Addr}
def inI (b : Bool) : Int := if b = true then 1 else 0
theorem inI_not (b : Bool) : 1 - inI b = inI (!b) := by cases b <;> rfl
theorem inI_eq {a b : Bool} : inI a = inI b ↔ a = b := by
  constructor
  · intro h; cases a <;> cases b <;> first | rfl | (exfalso; revert h; decide)
  · intro h; rw [h]
def sp_read_bits (K : PySem.W.Frag) (D : Addr) : Sp := fun vs H Q E => ∃ (a : Addr) (bs : List Nat) (i : Nat), vs = [.ref a, .int i] ∧ ByAt K H a bs ∧ GivesX D H Q E ((Sv14.bitsAt bs.toArray i).map fun x => flV x.1)
theorem sc_read_bits : FnScope ["a", "place", "edges", "inside", "i", "byte", "bit"] ["a", "place"] (defScope s_read_bits) := ⟨rfl, rfl, rfl, by decide +kernel, rfl, by decide +kernel, by decide +kernel⟩
theorem byte_all {c : Nat} (hc : c < 256) {b : Bool} (h : (c : Int) = 255 * inI b) : ∀ j, j < 8 → c.testBit j = b := by
  intro j hj
  cases b with
  | false =>
    have : c = 0 := by unfold inI at h; simp at h; omega
    rw [this]; exact Nat.zero_testBit j
  | true =>
    have : c = 255 := by unfold inI at h; simp at h; omega
    subst this
    have : j = 0 ∨ j = 1 ∨ j = 2 ∨ j = 3 ∨ j = 4 ∨ j = 5 ∨ j = 6 ∨ j = 7 := by omega
    rcases this with rfl | rfl | rfl | rfl | rfl | rfl | rfl | rfl <;> rfl
theorem bit_at8 {bs : List Nat} {i k j c : Nat} (g : bs[i + k]? = some c) (hj : j < 8) : bitOf bs.toArray i (8 * k + j) = c.testBit j := by
  unfold bitOf
  rw [show (8 * k + j) / 8 = k by omega, show (8 * k + j) % 8 = j by omega, getD_some g]
theorem bitv (c j : Nat) : Builtin.bitAnd ((c : Int) / 2 ^ ((0 : Int) + (j : Int)).toNat) 1 = inI (c.testBit j) := by
  rw [bitAnd_m1, Nat.testBit_eq_decide_div_mod_eq, show ((0 : Int) + (j : Int)).toNat = j by omega]
  have e : (2 : Int) ^ j = ((2 ^ j : Nat) : Int) := by rw [Int.natCast_pow]; rfl
  rw [e, ← Int.natCast_ediv]
  generalize c / 2 ^ j = z
  unfold inI
  by_cases h : z % 2 = 1
  · rw [if_pos (decide_eq_true h)]; omega
  · rw [if_neg (by simpa using h)]; omega
theorem ok_read_bits (T : Txt K mg C D) : DefX P w K mg base D "read_bits" ["a", "place"] 2 (sp_read_bits K D) := by
  have nd := sc_read_bits.nd
  have gB := T.BITS_SIZE
  have gP := T.PART
  refine T.read_bits.okX sc_read_bits (fun vs H Q E h => ?_) (fun f cdv A outer s H vs Q E hr h => ?_)
  · obtain ⟨a, bs, i, rfl, _⟩ := h; rfl
  · obtain ⟨a, bs, i, rfl, hb, k1, k2⟩ := h
    refine ⟨_, pss_cons (ps_expr (pe_callX (E := EX H E) (ok_require T) passR hr rfl (pa_cons (pe_cmpR op_le (pe_op op_add (pv 1) (pe_gint rfl gB)) (pe_callB call_len_seq (by rfl) T.len PySem.boot_len (pa_cons (pv 0) pa_nil)) (nomark _)) pa_nil)))
      (pss_cons (ps_set (i := 2) nd rfl (Or.inl rfl) (pe_lst pa_nil))
      (pss_cons (ps_set (i := 3) nd rfl (Or.inl rfl) pe_int)
      (pss_cons (ps_for PassesOwn.leaving rfl (pi_range1 rfl T.range (pa_cons (pe_gint rfl gB) pa_nil)) (pg_name (i := 4) nd rfl (Or.inl rfl))
        (pss_cons (ps_set (i := 5) nd rfl (Or.inl rfl) (pe_ix ix_list (pv 0) (pe_op op_add (pv 1) (pv 4)) (fun _ _ => rfl)))
        (pss_cons (ps_if (pt_cmpR op_eq (pv 5) (pe_op op_mul pe_int (pv 3)) (nomark _)) (pss_one ps_continue) pss_nil)
        (pss_one (ps_for PassesOwn.leaving rfl (pi_range1 rfl T.range (pa_cons pe_int pa_nil)) (pg_name (i := 6) nd rfl (Or.inl rfl))
          (pss_one (ps_if (pt_cmpR op_ne (pe_op op_and (pe_op op_shr (pv 5) (pv 6)) pe_int) (pv 3) (nomark _))
            (pss_cons (ps_expr (pe_bm PySem.F.plainAttrs_list PySem.F.slot_list_append PySem.F.type_list_append mt_append (pv 2) (pa_cons (pe_op op_add (pe_op op_mul pe_int (pv 4)) (pv 6)) pa_nil)))
              (pss_one (ps_set (i := 3) nd rfl (Or.inl rfl) (pe_op op_sub pe_int (pv 3))))) pss_nil)))))))
      (pss_cons (ps_if (pt_cmpR op_eq (pv 3) pe_int (nomark _)) (pss_one (ps_expr (pe_bm PySem.F.plainAttrs_list PySem.F.slot_list_append PySem.F.type_list_append mt_append (pv 2) (pa_cons (pe_gint rfl gP) pa_nil)))) pss_nil)
      (pss_one (ps_ret (pv 2))))))), ?_⟩
    have bsz : bs.toArray.size = bs.length := List.size_toArray
    refine ⟨_, rfl, _, _, rfl, rfl, _, rfl, a, _, rfl, .inl hb.1, _, _, rfl, rfl, _, rfl, fun hc => ?_, fun hc => ?_⟩
    rotate_left
    · have hc := of_decide_eq_false hc
      rw [natL_len] at hc
      refine ⟨Same.refl H, k2 ?_ H (Same.refl H)⟩
      rw [bitsAt_eq, if_pos (by rw [bsz]; omega)]; rfl
    have hc := of_decide_eq_true hc
    rw [natL_len] at hc
    have le : i + 8192 ≤ bs.length := by omega
    refine ⟨Nat.zero_le _, fun d hd => ?_⟩
    have s1 := Same.new (o := .lst []) hd
    refine ⟨8192, rfl, by decide, by decide, for_range (lo := 0) (n := (8192 : Int).toNat) (fun m σ H' => ∃ (El : List Int) (v4 v5 v6 : Option V), σ = [some (.ref a), some (.int (i : Int)), some (.ref d), some (.int (inI (odd El.length))), v4, v5, v6] ∧ H' d = some (.lst (intV El)) ∧ Same H H' ∧ BE bs.toArray i (8 * m) El ∧ El.length ≤ 8 * m) ?_ ?_ ?_⟩
    · exact ⟨[], none, none, none, rfl, upd_same, s1, ⟨by simp, by simp, fun x hx => absurd hx (by omega)⟩, Nat.zero_le _⟩
    · rintro m σ H1 hm ⟨El, v4, v5, v6, rfl, x1, sm, be, eln⟩
      have hm : m < 8192 := hm
      have lt : i + m < bs.length := by omega
      have gm := List.getElem?_eq_getElem lt
      generalize bs[i + m] = c at gm
      have c256 : c < 256 := hb.2.1 c (List.mem_of_getElem? gm)
      refine ⟨_, rfl, _, rfl, _, rfl, _, _, rfl, rfl, a, _, _, _, rfl, rfl, sm.seq hb.1, at_of (j := i + m) (by omega) (natL_get' gm), ?_⟩
      refine ⟨_, rfl, _, rfl, _, _, rfl, rfl, .inl ⟨by decide, by decide⟩, rfl, _, rfl, ?_⟩
      by_cases hq : (c : Int) = 255 * inI (odd El.length)
      · refine goT (decide_eq_true (by show V.int _ = V.int _; rw [hq])) ?_
        refine ⟨El, _, _, _, rfl, x1, sm, ?_, by omega⟩
        have := be.same 8 fun x h1 h2 => by
          obtain ⟨j, rfl⟩ : ∃ j, x = 8 * m + j := ⟨x - 8 * m, by omega⟩
          rw [bit_at8 gm (by omega)]
          exact byte_all c256 hq j (by omega)
        exact this
      · refine goF (decide_eq_false fun z => hq (V.int.inj z)) ?_
        refine ⟨8, rfl, by decide, by decide, for_range (lo := 0) (n := (8 : Int).toNat) (fun j σ H' => ∃ (El : List Int) (v6 : Option V), σ = [some (.ref a), some (.int (i : Int)), some (.ref d), some (.int (inI (odd El.length))), some (.int ((0 : Int) + (m : Int))), some (.int (c : Int)), v6] ∧ H' d = some (.lst (intV El)) ∧ Same H H' ∧ BE bs.toArray i (8 * m + j) El ∧ El.length ≤ 8 * m + j) ?_ ?_ ?_⟩
        · exact ⟨El, _, rfl, x1, sm, be, eln⟩
        · rintro j σ H2 hj ⟨El, v6, rfl, y1, sm2, be2, eln2⟩
          have hj : j < 8 := hj
          have bb := bit_at8 gm hj
          have bv := bitv c j
          have st := be2.step rfl
          rw [bb] at st
          refine ⟨_, rfl, _, rfl, _, _, rfl, rfl, by omega, _, _, rfl, rfl, _, rfl, rfl, _, rfl, ?_⟩
          by_cases hx : c.testBit j = odd El.length
          · refine goF ?_ ?_
            · show (!decide (V.int _ = V.int _)) = false
              rw [bv, hx, decide_eq_true rfl]; rfl
            · rw [if_neg (by simpa using hx)] at st
              exact ⟨El, _, rfl, y1, sm2, st.1, by omega⟩
          · refine goT ?_ ?_
            · show (!decide (V.int _ = V.int _)) = true
              rw [bv, decide_eq_false (fun z => hx (inI_eq.mp (V.int.inj z)))]; rfl
            · rw [if_pos hx] at st
              refine ⟨_, rfl, .inl ⟨rfl, _, SqL.of y1⟩, _, rfl, _, _, rfl, rfl, .inl ⟨by decide, by decide⟩, _, rfl, _, _, rfl, rfl, d, _, _, rfl, rfl, y1, by unfold intV; rw [List.length_map, sizeLine_val]; omega, ?_⟩
              refine ⟨_, rfl, _, _, rfl, rfl, El ++ [((8 * m + j : Nat) : Int)], some (.int ((0 : Int) + (j : Int))), ?_, ?_, ?_, st.1, ?_⟩
              · show [_, _, _, some (V.int (1 - inI (odd El.length))), _, _, _] = _
                rw [inI_not, List.length_append, List.length_singleton, odd_succ]
              · rw [upd_same]
                have : (8 : Int) * ((0 : Int) + (m : Int)) + ((0 : Int) + (j : Int)) = ((8 * m + j : Nat) : Int) := by omega
                dsimp only
                rw [this]
                unfold intV; rw [List.map_append]; rfl
              · intro b o hb'
                rw [upd_ne (ne_of_none hb' hd)]; exact sm2 _ _ hb'
              · rw [List.length_append, List.length_singleton]; omega
        · rintro σ H2 ⟨El, v6, rfl, y1, sm2, be2, eln2⟩
          exact ⟨El, _, _, _, rfl, y1, sm2, be2, eln2⟩
    · rintro σ H1 ⟨El, v4, v5, v6, rfl, x1, sm, be, eln⟩
      have be : BE bs.toArray i 65536 El := be
      have eln : El.length ≤ 65536 := eln
      have fin : ∀ El', El' = (if odd El.length = true then El ++ [65536] else El) → Gives H Q (intV El') := fun El' h => by
        rw [be.done h]
        exact k1 _ (by rw [bitsAt_eq, if_neg (by rw [bsz]; omega)]; rfl)
      refine ⟨_, rfl, rfl, _, rfl, ?_⟩
      by_cases ho : odd El.length = true
      · refine goT (decide_eq_true (by rw [ho]; rfl)) ?_
        refine ⟨_, rfl, .inl ⟨rfl, _, SqL.of x1⟩, d, _, _, rfl, rfl, x1, by unfold intV; rw [List.length_map, sizeLine_val]; omega, ?_⟩
        refine ⟨_, rfl, fin _ (by rw [if_pos ho]) _ d (fun b o hb' => by rw [upd_ne (ne_of_none hb' hd)]; exact sm _ _ hb') hd ?_⟩
        rw [upd_same]; unfold intV; rw [List.map_append]; rfl
      · refine goF (decide_eq_false fun z => ho (inI_eq.mp ((V.int.inj z).trans (rfl : (1 : Int) = inI true)))) ?_
        exact ⟨_, rfl, fin _ (by rw [if_neg ho]) _ d sm hd x1⟩
end
end PK
namespace PK
open PySem PySem.Spec PyProof.Rows L2 PM
section
variable {P : Program} {w : World} {K : PySem.W.Frag} {mg : Str → Option Value} {base : Heap} {C D : Addr}
def sp_read_part (K : PySem.W.Frag) (D : Addr) : Sp := fun vs H Q E => ∃ (a : Addr) (bs : List Nat) (i : Nat) (r : Bool) (c : Nat), vs = [.ref a, .int i, .int (inI r), .int c] ∧ ByAt K H a bs ∧ 1 ≤ c ∧ c ≤ 65536 ∧ GivesX D H Q E ((rdPart bs.toArray i r c).map fun x => flV x.1)
theorem sc_read_part : FnScope ["a", "place", "mark", "count", "edges"] ["a", "place", "mark", "count"] (defScope s_read_part) := ⟨rfl, rfl, rfl, by decide +kernel, rfl, by decide +kernel, by decide +kernel⟩
theorem bits_ok {b : Sv14.Fast} {i e : Nat} {l : List Sv14.Span} (h : Sv14.bitsAt b i = some (l, e)) : Ok l := by
  rw [bitsAt_eq] at h
  split at h
  · cases h
  · have h1 := (Prod.mk.inj (Option.some.inj h)).1
    rw [← h1]; exact (merged_singles_apart (bitsL_rise b i)).1
theorem ok_read_part (T : Txt K mg C D) : DefX P w K mg base D "read_part" ["a", "place", "mark", "count"] 4 (sp_read_part K D) := by
  have nd := sc_read_part.nd
  refine T.read_part.okX sc_read_part (fun vs H Q E h => ?_) (fun f cdv A outer s H vs Q E hr h => ?_)
  · obtain ⟨a, bs, i, r, c, rfl, _⟩ := h; rfl
  · obtain ⟨a, bs, i, r, c, rfl, hb, c1, c6, k1, k2⟩ := h
    refine ⟨_, pss_cons (ps_if (pt_cmpR op_eq (pv 2) pe_int (nomark _)) (pss_one (ps_set (i := 4) nd rfl (Or.inl rfl) (pe_callX (E := EX H E) (ok_read_runs T) passR hr rfl (pa_cons (pv 0) (pa_cons (pv 1) pa_nil)))))
        (pss_one (ps_if (pt_val (pe_callD (ok_is_listed T) (hr.mono (by decide)) rfl (pa_cons (pv 3) pa_nil))) (pss_one (ps_set (i := 4) nd rfl (Or.inl rfl) (pe_callX (E := EX H E) (ok_read_list T) passR hr rfl (pa_cons (pv 0) (pa_cons (pv 1) (pa_cons (pv 3) pa_nil))))))
          (pss_one (ps_set (i := 4) nd rfl (Or.inl rfl) (pe_callX (E := EX H E) (ok_read_bits T) passR (hr.mono (by decide)) rfl (pa_cons (pv 0) (pa_cons (pv 1) pa_nil))))))))
      (pss_cons (ps_expr (pe_callX (E := EX H E) (ok_require T) passR (hr.mono (by decide)) rfl (pa_cons (pe_cmpR op_eq (pe_callD (ok_count_numbers T) (hr.mono (by decide)) rfl (pa_cons (pv 4) pa_nil)) (pv 3) (nomark _)) pa_nil)))
      (pss_one (ps_ret (pv 4)))), ?_⟩
    refine ⟨_, rfl, rfl, _, rfl, ?_⟩
    by_cases hr' : r = true
    · refine goT (decide_eq_true (by rw [hr']; rfl)) ?_
      refine ⟨_, rfl, _, rfl, a, bs, i, rfl, hb, fun xs hx => ?_, fun hx H' sm => ⟨sm, k2 ?_ H' sm⟩⟩
      rotate_left
      · unfold rdPart
        rw [if_pos hr']
        rw [Option.map_eq_none_iff] at hx
        rw [hx]; rfl
      rw [Option.map_eq_some_iff] at hx
      obtain ⟨⟨l, e'⟩, ho, rfl⟩ := hx
      intro H1 q sq hq xq
      have okl : Ok l := (runsAt_got hb.2.1 ho).ap.1
      have oo : (if r = true then Sv14.runsAt bs.toArray i else if c ≤ 4096 then Sv14.listAt bs.toArray i c else Sv14.bitsAt bs.toArray i) = some (l, e') := by rw [if_pos hr']; exact ho
      refine ⟨_, rfl, q, l, rfl, SqL.of xq, okl, fun H2 s2 => ?_⟩
      refine ⟨_, rfl, rfl, _, rfl, fun hc => ?_, fun hc => ?_⟩
      · have hc := V.int.inj (of_decide_eq_true hc)
        refine ⟨_, rfl, k1 (flV l) ?_ H2 q (sq.trans s2) hq (s2 _ _ xq)⟩
        unfold rdPart
        rw [oo, Option.bind_some, if_neg (by simpa using Int.ofNat_inj.mp hc)]; rfl
      · have hc := of_decide_eq_false hc
        refine ⟨sq.trans s2, k2 ?_ H2 (sq.trans s2)⟩
        unfold rdPart
        rw [oo, Option.bind_some, if_pos (fun z => hc (by show V.int _ = V.int _; rw [z]))]; rfl
    · have hrf : r = false := by simpa using hr'
      refine goF (decide_eq_false (by rw [hrf]; intro z; cases z)) ?_
      refine ⟨_, rfl, _, rfl, _, rfl, ?_⟩
      by_cases hc4 : c ≤ 4096
      · refine goT (decide_eq_true (by omega)) ?_
        refine ⟨_, rfl, _, rfl, _, rfl, a, bs, i, c, rfl, hb, by omega, c1, fun xs hx => ?_, fun hx H' sm => ⟨sm, k2 ?_ H' sm⟩⟩
        rotate_left
        · unfold rdPart
          rw [if_neg hr', if_pos hc4]
          rw [Option.map_eq_none_iff] at hx
          rw [hx]; rfl
        rw [Option.map_eq_some_iff] at hx
        obtain ⟨⟨l, e'⟩, ho, rfl⟩ := hx
        intro H1 q sq hq xq
        have okl : Ok l := (listAt_got hb.2.1 hc4 ho).1.ap.1
        have oo : (if r = true then Sv14.runsAt bs.toArray i else if c ≤ 4096 then Sv14.listAt bs.toArray i c else Sv14.bitsAt bs.toArray i) = some (l, e') := by rw [if_neg hr', if_pos hc4]; exact ho
        refine ⟨_, rfl, q, l, rfl, SqL.of xq, okl, fun H2 s2 => ?_⟩
        refine ⟨_, rfl, rfl, _, rfl, fun hc => ?_, fun hc => ?_⟩
        · have hc := V.int.inj (of_decide_eq_true hc)
          refine ⟨_, rfl, k1 (flV l) ?_ H2 q (sq.trans s2) hq (s2 _ _ xq)⟩
          unfold rdPart
          rw [oo, Option.bind_some, if_neg (by simpa using Int.ofNat_inj.mp hc)]; rfl
        · have hc := of_decide_eq_false hc
          refine ⟨sq.trans s2, k2 ?_ H2 (sq.trans s2)⟩
          unfold rdPart
          rw [oo, Option.bind_some, if_pos (fun z => hc (by show V.int _ = V.int _; rw [z]))]; rfl
      · refine goF (decide_eq_false (by omega)) ?_
        refine ⟨_, rfl, _, rfl, a, bs, i, rfl, hb, fun xs hx => ?_, fun hx H' sm => ⟨sm, k2 ?_ H' sm⟩⟩
        rotate_left
        · unfold rdPart
          rw [if_neg hr', if_neg hc4]
          rw [Option.map_eq_none_iff] at hx
          rw [hx]; rfl
        rw [Option.map_eq_some_iff] at hx
        obtain ⟨⟨l, e'⟩, ho, rfl⟩ := hx
        intro H1 q sq hq xq
        have okl : Ok l := bits_ok ho
        have oo : (if r = true then Sv14.runsAt bs.toArray i else if c ≤ 4096 then Sv14.listAt bs.toArray i c else Sv14.bitsAt bs.toArray i) = some (l, e') := by rw [if_neg hr', if_neg hc4]; exact ho
        refine ⟨_, rfl, q, l, rfl, SqL.of xq, okl, fun H2 s2 => ?_⟩
        refine ⟨_, rfl, rfl, _, rfl, fun hc => ?_, fun hc => ?_⟩
        · have hc := V.int.inj (of_decide_eq_true hc)
          refine ⟨_, rfl, k1 (flV l) ?_ H2 q (sq.trans s2) hq (s2 _ _ xq)⟩
          unfold rdPart
          rw [oo, Option.bind_some, if_neg (by simpa using Int.ofNat_inj.mp hc)]; rfl
        · have hc := of_decide_eq_false hc
          refine ⟨sq.trans s2, k2 ?_ H2 (sq.trans s2)⟩
          unfold rdPart
          rw [oo, Option.bind_some, if_pos (fun z => hc (by show V.int _ = V.int _; rw [z]))]; rfl
def sp_read_size : Sp := fun vs H Q _ => ∃ (r : Bool) (c : Nat) (q : Addr) (l : List Sv14.Span), vs = [.int (inI r), .int c, .ref q] ∧ H q = some (.lst (flV l)) ∧ Sv14.sizeOf_ l = c ∧ Q (.int ((Sv14.Part.mk 0 l r).long : Nat)) H
theorem sc_read_size : FnScope ["mark", "count", "part_edges"] ["mark", "count", "part_edges"] (defScope s_read_size) := ⟨rfl, rfl, rfl, by decide +kernel, rfl, by decide +kernel, by decide +kernel⟩
theorem ok_read_size (T : Txt K mg C D) : DefOk P w K mg base "read_size" ["mark", "count", "part_edges"] 3 sp_read_size := by
  refine T.read_size.ok sc_read_size (fun vs H Q E h => ?_) (fun f cdv A outer s H vs Q E hr h => ?_)
  · obtain ⟨r, c, q, l, rfl, _⟩ := h; rfl
  · obtain ⟨r, c, q, l, rfl, hq, sz, k⟩ := h
    refine ⟨_, pss_one (ps_ret (pe_ifExp (pt_cmpR op_eq (pv 0) pe_int (nomark _)) (pe_callD (ok_runs_size T) (hr.mono (by decide)) rfl (pa_cons (pe_op op_fdiv (pe_callB call_len_seq (by rfl) T.len PySem.boot_len (pa_cons (pv 2) pa_nil)) pe_int) pa_nil)) (pe_callD (ok_plain_size T) hr rfl (pa_cons (pv 1) pa_nil)))), ?_⟩
    refine ⟨_, rfl, rfl, _, rfl, ?_⟩
    unfold Sv14.Part.long at k
    by_cases hr' : r = true
    · refine goT (decide_eq_true (by rw [hr']; rfl)) ?_
      rw [if_pos hr'] at k
      refine ⟨_, rfl, q, _, rfl, .inl (SqL.of hq), _, _, rfl, rfl, ⟨by decide, by decide⟩, _, rfl, ?_⟩
      have z : 2 + 4 * (((flV l).length : Int) / 2) = ((Sv14.runsLong l : Nat) : Int) := by rw [flV_len]; unfold Sv14.runsLong; omega
      rw [z]; exact k
    · have hrf : r = false := by simpa using hr'
      refine goF (decide_eq_false (by rw [hrf]; intro z; cases z)) ?_
      rw [if_neg hr'] at k
      refine ⟨_, rfl, _, rfl, ?_⟩
      rw [← sz, plainI_eq]; exact k
def addE (F G : List Int) : List Int := if F ≠ [] ∧ F.getLast? = G.head? then F.dropLast ++ G.tail else F ++ G
def sp_add_part : Sp := fun vs H Q _ => ∃ (e q : Addr) (k : Nat) (M sp : List Sv14.Span), vs = [.ref e, .int k, .ref q] ∧ e ≠ q ∧ H e = some (.lst (flV M)) ∧ H q = some (.lst (flV sp)) ∧ sp ≠ [] ∧ M.length ≤ 3000000 ∧ sp.length ≤ 70000 ∧
  ∀ H', (∀ b o, H b = some o → b ≠ e → H' b = some o) → H' e = some (.lst (intV (addE (fl M) ((fl sp).map fun x => (k : Int) * 65536 + x)))) → Q .non H'
theorem sc_add_part : FnScope ["edges", "key", "part_edges", "base", "placed", "edge"] ["edges", "key", "part_edges"] (defScope s_add_part) := ⟨rfl, rfl, rfl, by decide +kernel, rfl, by decide +kernel, by decide +kernel⟩
theorem intV_append (l m : List Int) : intV (l ++ m) = intV l ++ intV m := List.map_append
theorem intV_len (l : List Int) : (intV l).length = l.length := List.length_map ..
theorem ok_add_part (T : Txt K mg C D) : DefOk P w K mg base "add_part" ["edges", "key", "part_edges"] 1 sp_add_part := by
  have nd := sc_add_part.nd
  have gP := T.PART
  refine T.add_part.ok sc_add_part (fun vs H Q E h => ?_) (fun f cdv A outer s H vs Q E hr h => ?_)
  · obtain ⟨e, q, k, M, sp, rfl, _⟩ := h; rfl
  · obtain ⟨e, q, kk, M, sp, rfl, heq, he, hq, hsp, ml, sl, k⟩ := h
    refine ⟨_, pss_cons (ps_set (i := 3) nd rfl (Or.inr rfl) (pe_op op_mul (pv 1) (pe_gint rfl gP)))
      (pss_cons (ps_setLc (i := 4) (own := [("edge", 5)]) rfl nd rfl rfl (by rfl) (pi_list (pv 2)) (blkOk_by (by show blkC ["edges", "key", "part_edges", "base", "placed", "edge"] (defScope s_add_part) _ [("edge", 5)] = true; decide +kernel)) (fun _ _ _ _ _ => by exact pg_name (i := 5) nd rfl (Or.inl rfl)) (fun _ _ _ _ _ => by exact pts_nil)
          (fun _ _ _ _ _ => by exact pe_op op_add (pv 3) (pv 5)))
      (pss_cons (ps_if (pw_and (pt_cmpR op_gt (pe_callB call_len_seq (by rfl) T.len PySem.boot_len (pa_cons (pv 0) pa_nil)) pe_int (nomark _)) (pw_and1 (pt_cmpR op_eq (pe_ix ix_list (pv 0) (pe_un un_neg pe_int) (fun _ _ => rfl)) (pe_ix ix_list (pv 4) pe_int (fun _ _ => rfl)) (nomark _)))).pt
        (pss_cons (ps_expr (pe_bm0 PySem.F.plainAttrs_list PySem.F.slot_list_pop PySem.F.type_list_pop mt_pop (pv 0)))
          (pss_one (ps_set (i := 4) nd rfl (Or.inl rfl) (pe_slice sl_list (pv 4) (po_some pe_int) po_none)))) pss_nil)
      (pss_one (ps_expr (pe_bm PySem.F.plainAttrs_list PySem.F.slot_list_extend PySem.F.type_list_extend mt_extend (pv 0) (pa_cons (pv 4) pa_nil)))))), ?_⟩
    refine ⟨_, rfl, _, _, rfl, rfl, .inr ⟨by decide, by decide⟩, ?_⟩
    obtain ⟨s0, r0, rfl⟩ : ∃ s0 r0, sp = s0 :: r0 := by cases sp with | nil => exact absurd rfl hsp | cons a b => exact ⟨a, b, rfl⟩
    refine ⟨_, rfl, q, rfl, ⟨_, SqL.of hq⟩, fun d hd => lc_list (K := K) (a := q) (xs := flV (s0 :: r0)) (fun i H' => H' d = some (.lst (intV (((fl (s0 :: r0)).take i).map fun x => (kk : Int) * 65536 + x))) ∧ Same H H') ?_ ?_ ?_ ?_⟩
    · exact ⟨upd_same, Same.new hd⟩
    · rintro i H' _ ⟨_, sm⟩
      exact SqL.of (sm _ _ hq)
    · rintro i x H' hi ⟨h1, sm⟩
      obtain ⟨z, hz, rfl⟩ : ∃ z, (fl (s0 :: r0))[i]? = some z ∧ x = V.int z := by
        unfold flV at hi
        rw [List.getElem?_map, Option.map_eq_some_iff] at hi
        obtain ⟨z, a1, a2⟩ := hi; exact ⟨z, a1, a2.symm⟩
      refine ⟨rfl, ?_⟩
      refine ⟨_, rfl, _, rfl, _, _, rfl, rfl, _, h1, ?_, ?_, ?_⟩
      · rw [intV_len, List.length_map, List.length_take, fl_length, sizeLine_val]; omega
      · rw [upd_same, take_snoc hz, List.map_append, intV_append]; rfl
      · intro b o hb
        rw [upd_ne (ne_of_none hb hd)]; exact sm _ _ hb
    · rintro H1 ⟨h1, sm⟩
      rw [flV_len, List.take_of_length_le (by rw [fl_length]; exact Nat.le_refl _)] at h1
      have de : d ≠ e := Ne.symm (ne_of_none he hd)
      have he1 := sm _ _ he
      have gG : (fl (s0 :: r0)).map (fun x => (kk : Int) * 65536 + x) = ((kk : Int) * 65536 + (s0.1 : Int)) :: ((fl (s0 :: r0)).map fun x => (kk : Int) * 65536 + x).tail := rfl
      have gl : ((fl (s0 :: r0)).map fun x => (kk : Int) * 65536 + x).length = 2 * (s0 :: r0).length := by rw [List.length_map, fl_length]
      generalize (fl (s0 :: r0)).map (fun x => (kk : Int) * 65536 + x) = G at h1 gG gl k
      have plain : addE (fl M) G = fl M ++ G → tDrop (tBM K "list" rExtend (tVar 0) (tCons (tVar 4) tNil)) { nx := fun _ H' => Q .non H', rt := Q } [some (.ref e), some (.int (kk : Int)), some (.ref q), some (.int ((kk : Int) * 65536)), some (.ref d), none] H1 := by
        intro ha
        refine ⟨_, rfl, .inl ⟨rfl, _, SqL.of he1⟩, _, rfl, e, d, _, _, rfl, rfl, he1, h1, by rw [flV_len, intV_len, gl, sizeLine_val]; omega, ?_⟩
        refine k _ (fun b o hb n => by rw [upd_ne n]; exact sm _ _ hb) ?_
        rw [upd_same, ha, intV_append]; rfl
      refine ⟨_, rfl, e, _, rfl, .inl (SqL.of he1), _, _, rfl, rfl, _, rfl, ?_⟩
      rcases List.eq_nil_or_concat M with z | ⟨M0, p, z⟩
      · subst z
        refine iteF ?_
        exact iteF (plain rfl)
      · rw [List.concat_eq_append] at z
        subst z
        have fM : fl (M0 ++ [p]) = fl M0 ++ [(p.1 : Int)] ++ [(p.2 : Int) + 1] := fl_last M0 p
        have eM : flV (M0 ++ [p]) = intV (fl M0 ++ [(p.1 : Int)]) ++ [V.int ((p.2 : Int) + 1)] := by rw [← intV_fl, fM, intV_append]; rfl
        refine goT (decide_eq_true (by rw [flV_len, List.length_append, List.length_singleton]; show (0 : Int) < _; omega)) ?_
        refine ⟨_, rfl, _, rfl, e, _, _, _, rfl, rfl, SqL.of he1, by rw [eM]; exact atI_last _ _, _, rfl, d, _, _, _, rfl, rfl, SqL.of h1, atI_nat (j := 0) (by rw [gG]; rfl), rfl, _, rfl, ?_⟩
        by_cases c : (p.2 : Int) + 1 = (kk : Int) * 65536 + (s0.1 : Int)
        · refine goT (decide_eq_true (by rw [c])) ?_
          refine ⟨_, rfl, .inl ⟨rfl, _, SqL.of he1⟩, e, _, V.int ((p.2 : Int) + 1), rfl, rfl, he1, by rw [eM]; simp, ?_⟩
          refine ⟨_, rfl, _, rfl, d, _, rfl, SqL.of (by rw [upd_ne de]; exact h1), fun t ht => ?_⟩
          rw [show ((1 : Int)) = ((1 : Nat) : Int) from rfl, cut_drop]
          have te : t ≠ e := fun z => by rw [z, upd_same] at ht; cases ht
          have ht1 : H1 t = none := by rw [upd_ne te] at ht; exact ht
          refine ⟨_, rfl, .inl ⟨rfl, _, SqL.of (by rw [upd_ne (Ne.symm te), upd_same])⟩, _, rfl, e, t, _, _, rfl, rfl, by rw [upd_ne (Ne.symm te), upd_same], upd_same, ?_, ?_⟩
          · rw [List.length_dropLast, flV_len, List.length_drop, intV_len, gl, sizeLine_val]; omega
          · refine k _ (fun b o hb n => ?_) ?_
            · rw [upd_ne n, upd_ne (ne_of_none (sm _ _ hb) ht1), upd_ne n]; exact sm _ _ hb
            · have ae : addE (fl (M0 ++ [p])) G = (fl M0 ++ [(p.1 : Int)]) ++ G.tail := by
                unfold addE
                rw [if_pos, fM, List.dropLast_concat]
                refine ⟨by rw [fM]; simp, ?_⟩
                rw [fM, gG, List.getLast?_append]
                show some _ = some _
                rw [c]
                rfl
              rw [upd_same, ae, intV_append]
              congr 2
              congr 1
              · rw [eM, List.dropLast_concat]
              · unfold intV; rw [← List.map_drop]; congr 1; exact List.drop_one
        · refine goF (decide_eq_false fun z => c (V.int.inj z)) ?_
          refine plain ?_
          unfold addE
          rw [if_neg]
          rintro ⟨_, h2⟩
          rw [fM, gG, List.getLast?_append] at h2
          exact c (Option.some.inj h2)
end
end PK
namespace PK
open PySem PySem.Spec PyProof.Rows L2 PM
section
variable {P : Program} {w : World} {K : PySem.W.Frag} {mg : Str → Option Value} {base : Heap} {C D : Addr}
theorem marks_le {bs : List Nat} (hb : Bytes8 bs) {ms : List Bool} (h : rdMarks bs = some ms) : ms.length ≤ 65536 := by
  unfold rdMarks at h
  rw [Option.bind_eq_some_iff] at h
  obtain ⟨f, hf, h⟩ := h
  split at h
  · rw [Option.bind_eq_some_iff] at h
    obtain ⟨p, hp, h⟩ := h
    split at h
    · cases h; rw [List.length_replicate]; assumption
    · cases h
  · split at h
    · unfold rdRunMarks at h
      split at h
      · cases h
        have := (num_iff.mp hf).2
        have := at_lt hb 0 4
        rw [List.length_take]
        have : f < 4294967296 := by omega
        omega
      · cases h
    · cases h
theorem keys_nat (p : Nat) (b : Bool) : keysI (p : Int) b = ((headOf p b : Nat) : Int) := by
  unfold keysI headOf msz; split <;> omega
theorem tells_nat (p : Nat) (b : Bool) : tellsB (p : Int) b = tellsOf p b := by
  unfold tellsB tellsOf
  congr 1
  exact decide_eq_decide.mpr ⟨fun h => by omega, fun h => by omega⟩
theorem front_nat (p : Nat) (b : Bool) : frontI (p : Int) b = ((frontOf p b : Nat) : Int) := by
  unfold frontI frontOf
  rw [keys_nat, tells_nat]
  split <;> omega
theorem contains_dec (ms : List Bool) : decide (true ∈ ms) = ms.contains true := by
  rw [Bool.eq_iff_iff, decide_eq_true_iff, List.contains_iff_mem]
theorem rdSt_none {bs : List Nat} {head p front : Nat} {tl : Bool} {ks : List Nat} {ms : List Bool} {i : Nat} (h : rdSt bs head p tl ks ms front i = none) : ∀ j, rdSt bs head p tl ks ms front (i + j) = none
  | 0 => h
  | j + 1 => by
    show Option.bind (rdSt bs head p tl ks ms front (i + j)) _ = none
    rw [rdSt_none h j]; rfl
theorem addE_eq {ps : List Sv14.Part} {q : Sv14.Part} (h : Flat ps q.key) (ha : Apart q.spans) (hq : q.spans ≠ []) : addE (fl (Sv14.merged (flat ps))) ((fl q.spans).map fun x => (q.key : Int) * 65536 + x) = fl (Sv14.merged (flat (ps ++ [q]))) := by
  obtain ⟨s, r, e⟩ : ∃ s r, q.spans = s :: r := by
    cases c : q.spans with
    | nil => exact absurd c hq
    | cons s r => exact ⟨s, r, rfl⟩
  have hd : ((fl q.spans).map fun x => (q.key : Int) * 65536 + x).head? = some ((q.key : Int) * 65536 + (s.1 : Int)) := by rw [e]; rfl
  unfold addE
  rcases List.eq_nil_or_concat (Sv14.merged (flat ps)) with z | ⟨M0, p, z⟩
  · rw [add_part_behind h ha e (fun M0 p hM => by rw [z] at hM; simp at hM), z, if_neg (fun c => c.1 rfl)]
  · rw [List.concat_eq_append] at z
    have gl : (fl (M0 ++ [p])).getLast? = some ((p.2 : Int) + 1) := by rw [fl_last, List.getLast?_append]; rfl
    by_cases c : (p.2 : Int) + 1 = (q.key : Int) * 65536 + (s.1 : Int)
    · rw [add_part_touch h ha e z c, z, if_pos ⟨by rw [fl_last]; simp, by rw [gl, hd, c]⟩, fl_last, List.dropLast_concat]
    · rw [add_part_behind h ha e, z, if_neg]
      · rintro ⟨_, h2⟩
        rw [gl, hd] at h2
        exact c (Option.some.inj h2)
      · intro M1 p1 hM
        rw [z] at hM
        have := (List.append_inj' hM rfl).2
        cases this
        exact c
def sp_read_edges (K : PySem.W.Frag) (D : Addr) : Sp := fun vs H Q E => ∃ (a : Addr) (bs : List Nat), vs = [.ref a] ∧ ByAt K H a bs ∧ GivesX D H Q E ((rd bs).map flV)
theorem sc_read_edges : FnScope ["a", "marks", "part_count", "with_runs", "head", "keys", "place", "edges", "i", "count", "part_edges"] ["a"] (defScope s_read_edges) := ⟨rfl, rfl, rfl, by decide +kernel, rfl, by decide +kernel, by decide +kernel⟩
theorem goBoth {c : Bool} {A B R : Prop} (ok : Prop) (hB : R → B) (hA : c = true → (ok → R) → A) (hk : c = false → ok) (hR : ok → R) : if c = true then A else B := by
  cases c with
  | true => exact goT rfl (hA rfl hR)
  | false => exact goF rfl (hB (hR (hk rfl)))
theorem mk_get {ms : List Bool} {i : Nat} (h : i < ms.length) : (mkV ms)[i]? = some (V.int (inI (ms.getD i false))) := by
  unfold mkV
  rw [List.getElem?_map, List.getD_eq_getElem?_getD, List.getElem?_eq_getElem h]; rfl
theorem nat_get {l : List Nat} {i : Nat} (h : i < l.length) : (natL l)[i]? = some (V.int ((l.getD i 0 : Nat) : Int)) := by
  rw [List.getD_eq_getElem?_getD, List.getElem?_eq_getElem h]; exact natL_get' (List.getElem?_eq_getElem h)
theorem ok_read_edges (T : Txt K mg C D) : DefX P w K mg base D "read_edges" ["a"] 5 (sp_read_edges K D) := by
  have nd := sc_read_edges.nd
  refine T.read_edges.okX sc_read_edges (fun vs H Q E h => ?_) (fun f cdv A outer s H vs Q E hr h => ?_)
  · obtain ⟨a, bs, rfl, _⟩ := h; rfl
  · obtain ⟨a, bs, rfl, hb, k1, k2⟩ := h
    refine ⟨_, pss_cons (ps_set (i := 1) nd rfl (Or.inl rfl) (pe_callX (E := EX H E) (ok_read_marks T) passR hr rfl (pa_cons (pv 0) pa_nil)))
      (pss_cons (ps_set (i := 2) nd rfl (Or.inl rfl) (pe_callB call_len_seq (by rfl) T.len PySem.boot_len (pa_cons (pv 1) pa_nil)))
      (pss_cons (ps_set (i := 3) nd rfl (Or.inl rfl) (pe_cmpR op_in_seq pe_int (pv 1) (by rfl)))
      (pss_cons (ps_set (i := 4) nd rfl (Or.inl rfl) (pe_callD (ok_keys_place T) (hr.mono (by decide)) rfl (pa_cons (pv 2) (pa_cons (pv 3) pa_nil))))
      (pss_cons (ps_set (i := 5) nd rfl (Or.inl rfl) (pe_callX (E := EX H E) (ok_read_keys T) passR (hr.mono (by decide)) rfl (pa_cons (pv 0) (pa_cons (pv 2) (pa_cons (pv 4) pa_nil)))))
      (pss_cons (ps_set (i := 6) nd rfl (Or.inl rfl) (pe_callD (ok_front_size T) (hr.mono (by decide)) rfl (pa_cons (pv 2) (pa_cons (pv 3) pa_nil))))
      (pss_cons (ps_set (i := 7) nd rfl (Or.inl rfl) (pe_lst pa_nil))
      (pss_cons (ps_for PassesOwn.leaving rfl (pi_range1 rfl T.range (pa_cons (pv 2) pa_nil)) (pg_name (i := 8) nd rfl (Or.inl rfl))
        (pss_cons (ps_if (pt_val (pe_callD (ok_tells_places T) (hr.mono (by decide)) rfl (pa_cons (pv 2) (pa_cons (pv 3) pa_nil))))
          (pss_one (ps_expr (pe_callX (E := EX H E) (ok_require T) passR (hr.mono (by decide)) rfl (pa_cons (pe_cmpR op_eq (pe_callX (E := EX H E) (ok_number_at T) passR (hr.mono (by decide)) rfl (pa_cons (pv 0) (pa_cons (pe_op op_add (pe_op op_add (pv 4) (pe_op op_mul pe_int (pv 2))) (pe_op op_mul pe_int (pv 8))) (pa_cons pe_int pa_nil)))) (pv 6) (nomark _)) pa_nil)))) pss_nil)
        (pss_cons (ps_set (i := 9) nd rfl (Or.inl rfl) (pe_op op_add (pe_callX (E := EX H E) (ok_number_at T) passR (hr.mono (by decide)) rfl (pa_cons (pv 0) (pa_cons (pe_op op_add (pe_op op_add (pv 4) (pe_op op_mul pe_int (pv 8))) pe_int) (pa_cons pe_int pa_nil)))) pe_int))
        (pss_cons (ps_set (i := 10) nd rfl (Or.inl rfl) (pe_callX (E := EX H E) (ok_read_part T) passR hr rfl (pa_cons (pv 0) (pa_cons (pv 6) (pa_cons (pe_ix ix_list (pv 1) (pv 8) (fun _ _ => rfl)) (pa_cons (pv 9) pa_nil))))))
        (pss_cons (ps_expr (pe_callD (ok_add_part T) (hr.mono (by decide)) rfl (pa_cons (pv 7) (pa_cons (pe_ix ix_list (pv 5) (pv 8) (fun _ _ => rfl)) (pa_cons (pv 10) pa_nil)))))
        (pss_one (ps_aug (i := 6) nd rfl (Or.inl rfl) (pe_callD (ok_read_size T) (hr.mono (by decide)) rfl (pa_cons (pe_ix ix_list (pv 1) (pv 8) (fun _ _ => rfl)) (pa_cons (pv 9) (pa_cons (pv 10) pa_nil)))) ip_add)))))))
      (pss_cons (ps_expr (pe_callX (E := EX H E) (ok_require T) passR (hr.mono (by decide)) rfl (pa_cons (pe_cmpR op_eq (pv 6) (pe_callB call_len_seq (by rfl) T.len PySem.boot_len (pa_cons (pv 0) pa_nil)) (nomark _)) pa_nil)))
      (pss_one (ps_ret (pv 7))))))))))), ?_⟩
    refine ⟨_, rfl, a, bs, rfl, hb, fun xs hx => ?_, fun hx H' sm => ⟨sm, k2 ?_ H' sm⟩⟩
    rotate_left
    · rw [Option.map_eq_none_iff] at hx
      unfold rd rdParts; rw [hx]; rfl
    rw [Option.map_eq_some_iff] at hx
    obtain ⟨ms, hm, rfl⟩ := hx
    have m6 := marks_le hb.2.1 hm
    intro H1 m s1 nm xm
    refine ⟨_, rfl, m, _, rfl, .inl (SqL.of xm), ?_⟩
    rw [mkV_len]
    refine ⟨_, rfl, m, _, rfl, .inl (SqL.of xm), rfl, flat_mk _, ?_⟩
    rw [if_neg (by decide), in_mk, contains_dec]
    generalize hwr : ms.contains true = wr
    refine ⟨_, rfl, _, rfl, _, _, rfl, ?_⟩
    rw [keys_nat]
    refine ⟨_, rfl, _, rfl, _, rfl, a, bs, ms.length, headOf ms.length wr, rfl, hb.same s1, by omega, fun xs hx => ?_, fun hx H' sm => ⟨s1.trans sm, k2 ?_ H' (s1.trans sm)⟩⟩
    rotate_left
    · rw [Option.map_eq_none_iff] at hx
      unfold rd rdParts; rw [hm, Option.bind_some, hwr, hx]; rfl
    rw [Option.map_eq_some_iff] at hx
    obtain ⟨ks, hk, rfl⟩ := hx
    have hk' := hk
    unfold rdKeys at hk'
    split at hk'
    rotate_left
    · cases hk'
    rename_i ck
    cases hk'
    have kl : (keysL bs (headOf ms.length wr) ms.length).length = ms.length := by unfold keysL; rw [List.length_map, List.length_range]
    intro H2 kk s2 nk xk
    have s12 := s1.trans s2
    have erd : rd bs = ((rdSt bs (headOf ms.length wr) ms.length (tellsOf ms.length wr) (keysL bs (headOf ms.length wr) ms.length) ms (frontOf ms.length wr) ms.length).bind fun y => if y.2 = bs.length then some y.1 else none).map fun ps => Sv14.merged (flat ps) := by
      unfold rd rdParts; rw [hm, Option.bind_some, hwr, hk]; rfl
    refine ⟨_, rfl, _, rfl, _, _, rfl, ?_⟩
    rw [front_nat]
    have flatOf := rdSt_flat (front := frontOf ms.length wr) (tl := tellsOf ms.length wr) (ms := ms) hb.2.1 ck.2
    have hd6 := headOf ms.length wr
    generalize headOf ms.length wr = head at *
    generalize htl : tellsOf ms.length wr = tl at *
    generalize frontOf ms.length wr = front at *
    refine ⟨Nat.zero_le _, fun d hd => ?_⟩
    have s3 := Same.new (o := .lst []) hd
    have fail : ∀ i, i ≤ ms.length → rdSt bs head ms.length tl (keysL bs head ms.length) ms front i = none → ∀ H', Same H2 H' → EX H E (.ref D) none H' := fun i hi h H' sm => by
      have := rdSt_none h (ms.length - i)
      rw [show i + (ms.length - i) = ms.length by omega] at this
      refine ⟨s12.trans sm, k2 ?_ H' (s12.trans sm)⟩
      rw [erd, this]; rfl
    have md : m ≠ d := ne_of_none (s2 _ _ xm) hd
    refine ⟨_, rfl, _, rfl, by omega, by omega, for_range (lo := 0) (n := (ms.length : Int).toNat) (fun i σ H' => ∃ (v8 v9 v10 : Option V) (ps : List Sv14.Part) (pl : Nat), σ = [some (.ref a), some (.ref m), some (.int (ms.length : Int)), some (.bl wr), some (.int (head : Int)), some (.ref kk), some (.int (pl : Int)), some (.ref d), v8, v9, v10] ∧ rdSt bs head ms.length tl (keysL bs head ms.length) ms front i = some (ps, pl) ∧ H' d = some (.lst (flV (Sv14.merged (flat ps)))) ∧ Same H2 H' ∧ (ps ≠ [] → pl ≤ bs.length)) ?_ ?_ ?_⟩
    · exact ⟨none, none, none, [], front, rfl, rfl, upd_same, s3, fun h => absurd rfl h⟩
    · rintro i σ H3 hi ⟨v8, v9, v10, ps, pl, rfl, st, xd, sm, pll⟩
      rw [Int.toNat_natCast] at hi
      have est : rdSt bs head ms.length tl (keysL bs head ms.length) ms front (i + 1) = (rdStep bs head ms.length tl ((keysL bs head ms.length).getD i 0) (ms.getD i false) i pl).map fun x => (ps ++ [x.1], x.2) := by
        show Option.bind _ _ = _
        rw [st]; rfl
      have stop : rdStep bs head ms.length tl ((keysL bs head ms.length).getD i 0) (ms.getD i false) i pl = none → ∀ H', Same H2 H' → EX H E (.ref D) none H' := fun h => fail (i + 1) (by omega) (by rw [est, h]; rfl)
      obtain ⟨FL, f1, f2, f3⟩ := flatOf i (by omega) ps pl st
      have FL := FL _ (fun _ => rfl) (fun z => by omega)
      have e1 : ((head : Nat) : Int) + 4 * ((ms.length : Nat) : Int) + 4 * ((0 : Int) + ((i : Nat) : Int)) = ((head + 4 * ms.length + 4 * i : Nat) : Int) := by omega
      have e2 : ((head : Nat) : Int) + 4 * ((0 : Int) + ((i : Nat) : Int)) + 2 = ((head + 4 * i + 2 : Nat) : Int) := by omega
      refine ⟨_, rfl, _, rfl, _, _, rfl, _, rfl, ?_⟩
      rw [tells_nat, htl]
      have hb3 := (hb.same s12).same sm
      refine goBoth (c := tl) (tl = true → num? bs (head + 4 * ms.length + 4 * i) 4 = some pl) (fun r => r) (fun ht r => ?_) (fun hf ht => by rw [hf] at ht; cases ht) (fun ok => ?_)
      · refine ⟨_, rfl, _, rfl, _, rfl, _, _, rfl, rfl, .inl ⟨by decide, by decide⟩, _, _, rfl, rfl, _, rfl, _, _, rfl, rfl, .inl ⟨by decide, by decide⟩, _, _, rfl, rfl, a, bs, head + 4 * ms.length + 4 * i, 4, by dsimp only; rw [e1]; rfl, hb3, by decide, fun v hv => ?_, fun hv => stop (by unfold rdStep; rw [if_pos ⟨ht, by rw [hv]; simp⟩]) _ sm⟩
        refine ⟨_, rfl, rfl, _, rfl, fun hc => r fun _ => ?_, fun hc => stop ?_ _ sm⟩
        · have hc := V.int.inj (of_decide_eq_true hc)
          rw [hv]; congr 1; omega
        · have hc := of_decide_eq_false hc
          unfold rdStep; rw [if_pos ⟨ht, fun z => hc (by rw [hv] at z; rw [Option.some.inj z])⟩]
      have estep : rdStep bs head ms.length tl ((keysL bs head ms.length).getD i 0) (ms.getD i false) i pl = (num? bs (head + 4 * i + 2) 2).bind fun c => partStep bs.toArray ((keysL bs head ms.length).getD i 0, c + 1, ms.getD i false) pl := by
        unfold rdStep; rw [if_neg (fun z => z.2 (ok z.1))]
      refine ⟨_, rfl, _, rfl, _, rfl, _, _, rfl, rfl, .inl ⟨by decide, by decide⟩, _, _, rfl, rfl, _, _, rfl, rfl, a, bs, head + 4 * i + 2, 2, by dsimp only; rw [e2]; rfl, hb3, by decide, fun c hc => ?_, fun hc => stop (by rw [estep, hc]; rfl) _ sm⟩
      have c16 : c < 65536 := by rw [← (num_iff.mp hc).2]; exact at_lt hb.2.1 _ 2
      rw [hc, Option.bind_some] at estep
      have mi := mk_get hi
      have ki := nat_get (l := keysL bs head ms.length) (i := i) (by rw [kl]; exact hi)
      refine ⟨_, _, rfl, rfl, _, rfl, _, rfl, _, rfl, _, rfl, m, _, _, _, rfl, rfl, SqL.of (sm _ _ (s2 _ _ xm)), at_of (j := i) (by omega) mi, _, rfl, a, bs, pl, ms.getD i false, c + 1, rfl, hb3, by omega, by omega, fun xs hx => ?_, fun hx H' s4 => stop ?_ _ (sm.trans s4)⟩
      rotate_left
      · rw [Option.map_eq_none_iff] at hx
        rw [estep]; unfold partStep; rw [hx]; rfl
      rw [Option.map_eq_some_iff] at hx
      obtain ⟨⟨l, e⟩, hp, rfl⟩ := hx
      have estep : rdStep bs head ms.length tl ((keysL bs head ms.length).getD i 0) (ms.getD i false) i pl = some (⟨(keysL bs head ms.length).getD i 0, l, ms.getD i false⟩, e) := by
        rw [estep]; unfold partStep; rw [hp]; rfl
      obtain ⟨g1, g2, g3, g4, g5, g6, g7⟩ := rdStep_got hb.2.1 estep
      obtain ⟨G, sz⟩ := rdPart_got hb.2.1 hp
      have ee := G.long 0
      rw [estep] at est
      generalize (keysL bs head ms.length).getD i 0 = key at *
      generalize ms.getD i false = r at *
      dsimp only at g1 g2 g3 g4 g5
      have ll := (apart_size l 0 Sv14.PART (g3.2.imp (by intro a b q; omega)) (fun s hs => ⟨Nat.zero_le _, g3.1 s hs, g4 s hs⟩)).2
      have lne : l ≠ [] := fun z => by rw [z] at g5; rw [size_nil] at g5; omega
      have Ml : (Sv14.merged (flat ps)).length ≤ 3000000 := by
        have h1 := merged_len (flat ps)
        have h2 := hb.2.2
        rcases Decidable.em (ps = []) with z | z
        · rw [z]; exact Nat.zero_le _
        · have := pll z; omega
      intro H4 t s4 nt xt
      have s24 := sm.trans s4
      have dt : d ≠ t := ne_of_none xd nt
      refine ⟨_, rfl, _, rfl, _, rfl, kk, _, _, _, rfl, rfl, SqL.of (s24 _ _ xk), at_of (j := i) (by omega) ki, _, rfl, d, t, key, Sv14.merged (flat ps), l, rfl, dt, s4 _ _ xd, xt, lne, Ml, by omega, fun H5 keep xd5 => ?_⟩
      have s25 : Same H2 H5 := fun b o h => keep b o (s24 _ _ h) (ne_of_none h hd)
      refine ⟨_, rfl, _, rfl, _, rfl, m, _, _, _, rfl, rfl, SqL.of (s25 _ _ (s2 _ _ xm)), at_of (j := i) (by omega) mi, _, rfl, _, rfl, r, c + 1, t, l, rfl, keep _ _ xt (Ne.symm dt), sz, _, _, rfl, rfl, ?_⟩
      refine ⟨some (.int ((0 : Int) + (i : Int))), some (.int ((c + 1 : Nat) : Int)), some (.ref t), ps ++ [Sv14.Part.mk key l r], e, ?_, est.trans rfl, ?_, s25, fun _ => g6⟩
      · rw [show ((e : Nat) : Int) = (pl : Int) + (((Sv14.Part.mk 0 l r).long : Nat) : Int) by omega]; rfl
      · have ae := addE_eq (q := ⟨key, l, r⟩) FL g3 lne
        dsimp only at ae
        rw [xd5, ae, intV_fl]
    · rintro σ H3 ⟨v8, v9, v10, ps, pl, rfl, st, xd, sm, pll⟩
      rw [Int.toNat_natCast] at st
      rw [st] at erd
      refine ⟨_, rfl, _, rfl, a, _, rfl, .inl (sm.seq (s12.seq hb.1)), rfl, _, rfl, fun hc => ?_, fun hc => ?_⟩
      · have hc := V.int.inj (of_decide_eq_true hc)
        rw [natL_len] at hc
        refine ⟨_, rfl, k1 _ ?_ H3 d (s12.trans sm) (s12.free hd) xd⟩
        rw [erd, Option.bind_some, if_pos (by omega)]; rfl
      · have hc := of_decide_eq_false hc
        rw [natL_len] at hc
        refine ⟨s12.trans sm, k2 ?_ H3 (s12.trans sm)⟩
        rw [erd, Option.bind_some, if_neg (fun z => hc (by have z : pl = bs.length := z; show V.int _ = V.int _; rw [z]))]; rfl
end
end PK
set_option Elab.async false
set_option linter.all false
set_option maxRecDepth 100000
set_option maxHeartbeats 2000000
namespace PK
open PySem PySem.Spec PyProof.Rows L2 PM
section
variable {P : Program} {w : World} {K : PySem.W.Frag} {mg : Str → Option Value} {base : Heap} {C D : Addr}
def sp_may_join : Sp := fun vs H Q _ => ∃ how : Int, vs = [.int how] ∧ Q (.bl (Sv14.within how 0 3)) H
theorem sc_may_join : FnScope ["how"] ["how"] (defScope s_may_join) := ⟨rfl, rfl, rfl, by decide +kernel, rfl, by decide +kernel, by decide +kernel⟩
theorem within3 (how : Int) : Sv14.within how 0 3 = (decide (0 ≤ how) && decide (how ≤ 3)) := rfl
theorem ok_may_join (T : Txt K mg C D) : DefOk P w K mg base "may_join" ["how"] 1 sp_may_join := by
  have gM := T.LAST_HOW
  refine T.may_join.ok sc_may_join (fun vs H Q E h => ?_) (fun f cdv A outer s H vs Q E hr h => ?_)
  · obtain ⟨how, rfl, _⟩ := h; rfl
  · obtain ⟨how, rfl, k⟩ := h
    refine ⟨_, pss_one (ps_ret (pe_chain op_le op_le pe_int (pv 0) (pe_gint rfl gM))), ?_⟩
    rw [within3] at k
    refine ⟨_, rfl, _, _, rfl, rfl, _, rfl, ?_⟩
    by_cases c1 : 0 ≤ how
    · refine goT (decide_eq_true c1) ?_
      refine ⟨_, _, rfl, rfl, ?_⟩
      rw [decide_eq_true c1, Bool.true_and] at k
      exact k
    · refine goF (decide_eq_false c1) ?_
      rw [decide_eq_false c1, Bool.false_and] at k
      exact k
def ansL (y : Sv14.Ans) : List Int := y.v :: (y.l.map fun (x : Nat) => (x : Int))
def oneL (r : Bool) (a : List Nat) (f : List Sv14.Span → List Int) : List Int := if r = false then [-2] else match Sv14.readSpans a with
  | none => [-3]
  | some s => f s
def twoL (r : Bool) (a b : List Nat) (f : List Sv14.Span → List Sv14.Span → List Int) : List Int := oneL r a fun s => match Sv14.readSpans b with
  | none => [-3]
  | some t => f s t
theorem one_ans (r : Bool) (a : List Nat) (f : List Sv14.Span → Sv14.Ans) : ansL (Sv14.ofOne r a f) = oneL r a fun s => ansL (f s) := by
  unfold Sv14.ofOne oneL
  by_cases c : r = false
  · rw [if_pos c, if_pos c]; rfl
  · rw [if_neg c, if_neg c]
    cases Sv14.readSpans a <;> rfl
theorem two_ans (r : Bool) (a b : List Nat) (f : List Sv14.Span → List Sv14.Span → Sv14.Ans) : ansL (Sv14.ofTwo r a b f) = twoL r a b fun s t => ansL (f s t) := by
  unfold Sv14.ofTwo twoL
  rw [one_ans]
  congr 1
  funext s
  cases Sv14.readSpans b <;> rfl
theorem size_ok {xs : List Int} (h : xs.length ≤ 70000) : Sv14.size (xs.length : Int) = true := by
  unfold Sv14.size Sv14.within
  rw [decide_eq_true (by omega), decide_eq_true (by omega)]; rfl
theorem two_asks {xs ys : List Int} (h : xs.length ≤ 70000) (h' : ys.length ≤ 70000) (c : Sv14.Call) : Sv14.answers 0 [(xs.length : Int), (ys.length : Int)] c = Sv14.does c := by
  unfold Sv14.answers
  rw [if_neg]
  rintro (z | z)
  · revert z; decide
  · rw [List.all_cons, List.all_cons, size_ok h, size_ok h'] at z; cases z
theorem by_of {H : Hp} {a : Addr} {xs : List Int} (ha : SqL K H a (xs.map V.int)) (hl : xs.length ≤ 70000) (h : ∀ x, x ∈ xs → 0 ≤ x ∧ x ≤ 255) : ByAt K H a (Sv14Neutral.nats xs) := by
  refine ⟨?_, fun c hc => ?_, by unfold Sv14Neutral.nats; rw [List.length_map]; exact hl⟩
  · have e : natL (Sv14Neutral.nats xs) = xs.map V.int := by
      unfold natL Sv14Neutral.nats
      rw [List.map_map]
      apply List.map_congr_left
      intro x hx
      show V.int ((x.toNat : Nat) : Int) = V.int x
      rw [Int.toNat_of_nonneg (h x hx).1]
    rw [e]; exact ha
  · obtain ⟨x, hx, rfl⟩ := List.mem_map.mp hc
    have := h x hx
    omega
theorem rd_got {H : Hp} {a : Addr} {us : List Nat} (b : ByAt K H a us) : rd us = Sv14.readSpans us := rd_eq b.2.1 (by have := b.2.2; omega)
theorem rd_few {H : Hp} {a : Addr} {us : List Nat} {l : List Sv14.Span} (b : ByAt K H a us) (h : Sv14.readSpans us = some l) : Sv14.Proper l ∧ l.length ≤ 1000000 := by
  obtain ⟨p, n⟩ := rd_proper b.2.1 ((rd_got b).trans h)
  have := b.2.2
  exact ⟨p, by omega⟩
theorem jfold_len (how : Int) : ∀ (l : List (Nat × Bool)) (s : Bool × Bool × Nat × List Sv14.Span), (l.foldl (jstep how) s).2.2.2.length ≤ s.2.2.2.length + l.length
  | [], s => Nat.le_refl _
  | e :: l, s => by
    rw [List.foldl_cons, List.length_cons]
    have h := jfold_len how l (jstep how s e)
    have : (jstep how s e).2.2.2.length ≤ s.2.2.2.length + 1 := by
      unfold jstep
      dsimp only
      split <;> (dsimp only; split <;> simp)
    omega
theorem turns_len (z : Bool) (l : List Sv14.Span) : (Sv14.turns z l).length = 2 * l.length := by
  unfold Sv14.turns
  induction l with
  | nil => rfl
  | cons s l ih =>
    rw [List.flatMap_cons, List.length_append, ih]
    show 2 + 2 * l.length = 2 * (l.length + 1)
    omega
theorem join_len (how : Int) (a b : List Sv14.Span) : (Sv14.joinSpans how a b).length ≤ 2 * a.length + 2 * b.length := by
  rw [joinSpans_eq]
  refine Nat.le_trans (merged_len _) ?_
  rw [List.length_reverse]
  refine Nat.le_trans (jfold_len how _ _) ?_
  unfold allTurns
  rw [List.length_mergeSort, List.length_append, turns_len, turns_len]
  show 0 + _ ≤ _
  omega
theorem and_both {a b : Bool} (h : (a && b) = true) : a = true ∧ b = true := by rw [Bool.and_eq_true] at h; exact h
theorem dw_int {H : Hp} {v : V} {i : Int} (h : Dw K H v (.int i)) : v = .int i := by cases h; rfl
theorem dw_lst {H : Hp} {v : V} {ns : List Int} (h : Dw K H v (.list (ns.map PySem.W.WData.int))) : ∃ a, v = .ref a ∧ SqL K H a (ns.map V.int) := by
  cases h with
  | lst hs ha =>
    have e := ints_dw ns _ ha
    subst e
    exact ⟨_, rfl, hs⟩
theorem dw_cons {H : Hp} {xs : List V} {d : PySem.W.WData} {ds : List PySem.W.WData} (h : DwAll K H xs (d :: ds)) : ∃ v vs, xs = v :: vs ∧ Dw K H v d ∧ DwAll K H vs ds := by
  cases h with
  | cons a b => exact ⟨_, _, rfl, a, b⟩
theorem dw_nil {H : Hp} {xs : List V} (h : DwAll K H xs []) : xs = [] := by cases h; rfl
theorem by_in {ns : List Int} (h : (PySem.W.Codec.inLen 0 70000 ns && ns.all (PySem.W.Codec.inInt 0 255)) = true) : ns.length ≤ 70000 ∧ ∀ x, x ∈ ns → 0 ≤ x ∧ x ≤ 255 := by
  obtain ⟨a, b⟩ := and_both h
  exact ⟨(PySem.W.Codec.inNat_iff.mp a).2, fun x hx => PySem.W.Codec.inInt_iff.mp (List.all_eq_true.mp b x hx)⟩
theorem app5 {c1 c2 c3 c4 c5 : PySem.W.Codec} {R : Type} (g : c1.denote → c2.denote → c3.denote → c4.denote → c5.denote → R) (x : c1.denote) (y : c2.denote) (z : c3.denote) (a : c4.denote) (b : c5.denote) (u : Unit) : PySem.W.Codec.app [c1, c2, c3, c4, c5] g (x, y, z, a, b, u) = g x y z a b := rfl
end
end PK
namespace PK
open PySem PySem.Spec PyProof.Rows L2 PM
section
variable {P : Program} {w : World} {K : PySem.W.Frag} {mg : Str → Option Value} {base : Heap} {C D : Addr}
def joinB (how r room : Int) : Bool := Sv14.within how 0 3 && mayB r room
theorem join_val {how r room : Int} {ns ms : List Int} (h : ns.length ≤ 70000) (h' : ms.length ≤ 70000) : PySv14.join how r room ns ms = twoL (joinB how r room) (Sv14Neutral.nats ns) (Sv14Neutral.nats ms) fun s t => toldL (Sv14.joinSpans how s t) r room := by
  show ansL (Sv14.answers 0 [(ns.length : Int), (ms.length : Int)] (.join (Sv14Neutral.nats ns) (Sv14Neutral.nats ms) how r room)) = _
  rw [two_asks h h']
  refine (two_ans (joinB how r room) _ _ fun s t => Sv14.told (Sv14.joinSpans how s t) r room).trans ?_
  congr 1
  funext s t
  exact told_eq _ _ _
theorem join_short {how r room : Int} {xs ys : List Int} {s t : List Sv14.Span} (h : PySv14.join_asked how r room xs ys = true) (hs : Sv14.readSpans (Sv14Neutral.nats xs) = some s) (ht : Sv14.readSpans (Sv14Neutral.nats ys) = some t) : shortL (Sv14.joinSpans how s t) r room := by
  unfold PySv14.join_asked Sv14Neutral.asked at h
  rw [Bool.and_eq_true] at h
  have h2 : (decide (Sv14.wholeLong (Sv14.partsFor (Sv14.joinSpans how ((Sv14.readSpans (Sv14Neutral.nats xs)).getD []) ((Sv14.readSpans (Sv14Neutral.nats ys)).getD [])) (r == 1)) ≤ 70000) || decide (room < (Sv14.wholeLong (Sv14.partsFor (Sv14.joinSpans how ((Sv14.readSpans (Sv14Neutral.nats xs)).getD []) ((Sv14.readSpans (Sv14Neutral.nats ys)).getD [])) (r == 1)) : Int))) = true := h.2
  rw [hs, ht] at h2
  rw [Bool.or_eq_true, decide_eq_true_eq, decide_eq_true_eq] at h2
  exact h2
def sp_join (K : PySem.W.Frag) : Sp := fun vs H Q _ => ∃ (how r room : Int) (pns pms : Addr) (ns ms : List Int), vs = [.int how, .int r, .int room, .ref pns, .ref pms] ∧ SqL K H pns (ns.map V.int) ∧ ns.length ≤ 70000 ∧ (∀ x, x ∈ ns → 0 ≤ x ∧ x ≤ 255) ∧ SqL K H pms (ms.map V.int) ∧ ms.length ≤ 70000 ∧ (∀ x, x ∈ ms → 0 ≤ x ∧ x ≤ 255) ∧ PySv14.join_asked how r room ns ms = true ∧
  ∀ (H' : Hp) (p : Addr), H' p = some (.lst ((PySv14.join how r room ns ms).map V.int)) → Q (.ref p) H'
theorem sc_join : FnScope ["how", "runs", "room", "a", "b", "left", "right"] ["how", "runs", "room", "a", "b"] (defScope s_join) := ⟨rfl, rfl, rfl, by decide +kernel, rfl, by decide +kernel, by decide +kernel⟩
theorem fn_join {f : Addr} {fd : FuncData} (F : Fun K "join" "join" s_join f fd) (T : Txt K mg C D) : FnOk P w K mg base CX0 8 f fd ["how", "runs", "room", "a", "b"] (sp_join K) := by
  have gN := T.NOT_A_SET
  have nd := sc_join.nd
  have gO := T.OUT_OF_RANGE
  refine F.ok sc_join (fun vs H Q E h => ?_) (fun cdv A outer s H vs Q E hr h => ?_)
  · obtain ⟨how, r, room, pns, pms, ns, ms, rfl, _⟩ := h; rfl
  · obtain ⟨how, r, room, a, b, xs, ys, rfl, ha, hl1, hx, hb, hl2, hy, hask, k⟩ := h
    refine ⟨_, pss_cons (ps_if (PW.pt (pw_or (pt_not (pt_val (pe_callD (ok_may_join T) (hr.mono (by decide)) rfl (pa_cons (pv 0) pa_nil)))) (pw_or1 (pt_not (pt_val (pe_callD (ok_may_write T) (hr.mono (by decide)) rfl (pa_cons (pv 1) (pa_cons (pv 2) pa_nil)))))))) (pss_one (ps_ret (pe_lst (pa_cons (pe_gint rfl gO) pa_nil)))) pss_nil)
      (pss_cons (ps_try0 (R := fun _ => (match Sv14.readSpans (Sv14Neutral.nats xs) with | none => [-3] | some s => match Sv14.readSpans (Sv14Neutral.nats ys) with | none => [-3] | some t => toldL (Sv14.joinSpans how s t) r room) = [-3]) T.NotASet rfl rfl rfl
          (fun pins => pss_cons (ps_set (i := 5) nd rfl (Or.inl rfl) (pe_callX (ok_read_edges T) passTry (hr.mono (by decide)) rfl (pa_cons (pv 3) pa_nil)))
            (pss_one (ps_set (i := 6) nd rfl (Or.inl rfl) (pe_callX (ok_read_edges T) passTry (hr.mono (by decide)) rfl (pa_cons (pv 4) pa_nil)))))
          (fun e => pss_one (ps_ret (pe_lst (pa_cons (pe_gint rfl gN) pa_nil)))))
      (pss_one (ps_ret (pe_callD (ok_answer_set T) hr rfl (pa_cons (pe_callD (ok_join_edges T) (hr.mono (by decide)) rfl (pa_cons (pv 0) (pa_cons (pv 5) (pa_cons (pv 6) pa_nil)))) (pa_cons (pv 1) (pa_cons (pv 2) pa_nil))))))), ?_⟩
    rw [join_val hl1 hl2] at k
    have b1 := by_of ha hl1 hx
    have b2 := by_of hb hl2 hy
    have q1 := rd_got b1
    have q2 := rd_got b2
    have sh := fun s t => join_short (s := s) (t := t) hask
    generalize Sv14Neutral.nats xs = us at *
    generalize Sv14Neutral.nats ys = vs at *
    unfold twoL oneL at k
    have out : joinB how r room = false → tRet (tLst (tCons (tC (.int (-2))) tNil)) { nx := fun _ H' => Q .non H', rt := Q } [some (.int how), some (.int r), some (.int room), some (.ref a), some (.ref b), none, none] H := by
      intro c
      rw [if_pos c] at k
      exact ⟨by decide, fun d hd => k _ d upd_same⟩
    refine ⟨_, rfl, how, rfl, _, rfl, ?_⟩
    by_cases c1 : Sv14.within how 0 3 = false
    · exact goT (by rw [c1]; rfl) (goT rfl (out (by unfold joinB; rw [c1]; rfl)))
    have c1 : Sv14.within how 0 3 = true := by simpa using c1
    refine goF (by rw [c1]; rfl) ?_
    refine ⟨_, rfl, _, rfl, r, room, rfl, _, rfl, ?_⟩
    by_cases c3 : mayB r room = false
    · exact goT (by rw [c3]; rfl) (out (by unfold joinB; rw [c3, Bool.and_false]))
    have c3 : mayB r room = true := by simpa using c3
    refine goF (by rw [c3]; rfl) ?_
    rw [if_neg (by unfold joinB; rw [c1, c3]; decide)] at k
    rw [within3, Bool.and_eq_true, decide_eq_true_eq, decide_eq_true_eq] at c1
    refine ⟨?_, fun σ' H' e3 => ?_⟩
    rotate_left
    · rw [e3] at k
      exact ⟨by decide, fun d hd => k _ d upd_same⟩
    refine ⟨_, rfl, a, us, rfl, b1, fun ws hw => ?_, fun hw H' sm => ?_⟩
    rotate_left
    · rw [Option.map_eq_none_iff, q1] at hw
      first | rw [hw] | (dsimp only; rw [hw])
    rw [Option.map_eq_some_iff, q1] at hw
    obtain ⟨s1, hs1, rfl⟩ := hw
    obtain ⟨p1, n1⟩ := rd_few b1 hs1
    rw [hs1] at k ⊢
    intro H1 p sm1 np xp
    refine ⟨_, rfl, b, vs, rfl, b2.same sm1, fun ws hw => ?_, fun hw H' sm => ?_⟩
    rotate_left
    · rw [Option.map_eq_none_iff, q2] at hw
      first | rw [hw] | (dsimp only; rw [hw])
    rw [Option.map_eq_some_iff, q2] at hw
    obtain ⟨s2, hs2, rfl⟩ := hw
    obtain ⟨p2, n2⟩ := rd_few b2 hs2
    rw [hs2] at k
    intro H2 q sm2 nq xq
    refine ⟨_, rfl, _, rfl, _, rfl, how, p, q, s1, s2, rfl, c1.1, c1.2, sm2 _ _ xp, xq, p1, p2, (by omega), (by omega), fun H3 m sm3 nm xm => ?_⟩
    have jl := join_len how s1 s2
    exact ⟨_, rfl, _, rfl, m, _, r, room, rfl, SqL.of xm, join_proper how p1 p2, by omega, sh s1 s2 hs1 hs2, fun H4 z _ _ x4 => k H4 z x4⟩
open PySem.W (Codec WData OpenSpec) in
theorem req_join (rw_ : OpenSpec) (hr : rw_ = OpenSpec.mk PySem.Challenge.pw_packedsets_s03_join PySem.Challenge.nm_packedsets_s03_join PySem.Challenge.fa_packedsets_s03_join PySem.Challenge.fr_packedsets_s03_join PySv14.join_asked PySv14.join)
    (K : PySem.W.Frag) (H : Hp) (xs : List V) (a : Codec.denoteAll rw_.args) (hwi : Codec.withinAll rw_.args a = true) (hask : Codec.app rw_.args rw_.asked a = true) (hx : DwAll K H xs (Codec.encAll rw_.args a)) :
    sp_join K xs H (fun v H' => Dw K H' v (rw_.ret.enc (Codec.app rw_.args rw_.f a))) fun _ _ _ => False := by
  subst hr
  dsimp only at a hwi hask hx ⊢
  obtain ⟨how, r, room, ns, ms, u⟩ := a
  have hx : DwAll K H xs [.int how, .int r, .int room, .list (ns.map WData.int), .list (ms.map WData.int)] := hx
  obtain ⟨v0, xs0, rfl, h0, hx⟩ := dw_cons hx
  obtain ⟨v1, xs1, rfl, h1, hx⟩ := dw_cons hx
  obtain ⟨v2, xs2, rfl, h2, hx⟩ := dw_cons hx
  obtain ⟨v3, xs3, rfl, h3, hx⟩ := dw_cons hx
  obtain ⟨v4, xs4, rfl, h4, hx⟩ := dw_cons hx
  obtain rfl := dw_nil hx
  obtain rfl := dw_int h0
  obtain rfl := dw_int h1
  obtain rfl := dw_int h2
  obtain ⟨pns, rfl, s3⟩ := dw_lst h3
  obtain ⟨pms, rfl, s4⟩ := dw_lst h4
  have q : (_ && (_ && (_ && ((Codec.inLen 0 70000 ns && ns.all (Codec.inInt 0 255)) && ((Codec.inLen 0 70000 ms && ms.all (Codec.inInt 0 255)) && true))))) = true := hwi
  obtain ⟨q0, q⟩ := and_both q
  obtain ⟨q1, q⟩ := and_both q
  obtain ⟨q2, q⟩ := and_both q
  obtain ⟨q3, q⟩ := and_both q
  obtain ⟨q4, q⟩ := and_both q
  have hk : PySv14.join_asked how r room ns ms = true := (app5 (c1 := .int (Int.negSucc 2147483647) (Int.ofNat 2147483647)) (c2 := .int (Int.negSucc 2147483647) (Int.ofNat 2147483647)) (c3 := .int (Int.negSucc 2147483647) (Int.ofNat 2147483647)) (c4 := .list 0 70000 (.int (Int.ofNat 0) (Int.ofNat 255))) (c5 := .list 0 70000 (.int (Int.ofNat 0) (Int.ofNat 255))) PySv14.join_asked how r room ns ms u).symm.trans hask
  refine ⟨how, r, room, pns, pms, ns, ms, rfl, s3, (by_in q3).1, (by_in q3).2, s4, (by_in q4).1, (by_in q4).2, hk, fun H' p hp => ?_⟩
  have e2 : Codec.app PySem.Challenge.fa_packedsets_s03_join PySv14.join (how, r, room, ns, ms, u) = PySv14.join how r room ns ms := app5 (c1 := .int (Int.negSucc 2147483647) (Int.ofNat 2147483647)) (c2 := .int (Int.negSucc 2147483647) (Int.ofNat 2147483647)) (c3 := .int (Int.negSucc 2147483647) (Int.ofNat 2147483647)) (c4 := .list 0 70000 (.int (Int.ofNat 0) (Int.ofNat 255))) (c5 := .list 0 70000 (.int (Int.ofNat 0) (Int.ofNat 255))) PySv14.join how r room ns ms u
  have e3 : Dw K H' (.ref p) (PySem.Challenge.fr_packedsets_s03_join.enc (PySv14.join how r room ns ms)) := by
    generalize PySv14.join how r room ns ms = ans at hp
    exact .lst (SqL.of hp) (dw_ints ans)
  exact Eq.mp (congrArg (fun z : List Int => Dw K H' (.ref p) (PySem.Challenge.fr_packedsets_s03_join.enc z)) e2.symm) e3
end
end PK
set_option Elab.async false
set_option linter.all false
set_option maxRecDepth 100000
set_option maxHeartbeats 2000000
namespace L2
open PySem PySem.Spec PyProof.Rows
def DefG (K : PySem.W.Frag) (x : Str) (st : Stmt) : Prop := ∃ (f : Addr) (oc : Value) (od : Option Addr) (kV doc pm : Value) (an : Option Addr) (cdv ct : Value) (osl : Array (Option Value)), PySem.W.nsIn K mainGlobals x = some (some (.ref f)) ∧
  K.lookup f = some ⟨oc, od, .func (PySem.W.fnOf x x (defArgs st) (defBody st) (defScope st) .none kV doc pm an cdv ct), osl⟩ ∧ PySem.W.codeIn K cdv x = true ∧ PySem.W.keepIn K (.ref f) = true
def IntG (K : PySem.W.Frag) (x : Str) (i : Int) : Prop := ∃ v, PySem.W.nsIn K mainGlobals x = some (some v) ∧ ∃ t, v = .int i t
def NoneG (K : PySem.W.Frag) (x : Str) : Prop := PySem.W.nsIn K mainGlobals x = some none
def ExcG (K : PySem.W.Frag) (x : Str) : Prop := ∃ D, PySem.W.nsIn K mainGlobals x = some (some (.ref D)) ∧ PySem.W.excIn K D bmVE "ValueError.__new__" = true
def ClsG (K : PySem.W.Frag) (x q : Str) (st : Stmt) (n1 n2 n3 : Str) : Prop := ∃ (C f : Addr) (oc : Value) (od : Option Addr) (kV doc pm : Value) (an : Option Addr) (cdv ct : Value) (osl : Array (Option Value)), PySem.W.nsIn K mainGlobals x = some (some (.ref C)) ∧
  PySem.W.findIn K (.ref C) "__init__" = some (some (.ref f)) ∧ PySem.W.isFn K (.ref f) = true ∧ K.lookup f = some ⟨oc, od, .func (PySem.W.fnOf "__init__" q (defArgs st) (defBody st) (defScope st) .none kV doc pm an cdv ct), osl⟩ ∧ PySem.W.codeIn K cdv q = true ∧ PySem.W.keepIn K (.ref f) = true ∧
  PySem.W.plainGet K C Str.empty = true ∧ PySem.W.hasDictIn K C = true ∧ PySem.W.plainOver K C = true ∧ PySem.W.findIn K (.ref C) "__setattr__" = some (some (.builtin "object.__setattr__")) ∧ PySem.W.makesIn K C = true ∧ PySem.W.keepIn K (.ref C) = true ∧
  PySem.W.findIn K (.ref C) n1 = some none ∧ PySem.W.findIn K (.ref C) n2 = some none ∧ PySem.W.findIn K (.ref C) n3 = some none
section
variable {K : PySem.W.Frag}
theorem DefG.mk_ {x : Str} {st : Stmt} {f : Addr} {oc : Value} {od : Option Addr} {kV doc pm : Value} {an : Option Addr} {cdv ct : Value} {osl : Array (Option Value)} (a : PySem.W.nsIn K mainGlobals x = some (some (.ref f)))
    (l : K.lookup f = some ⟨oc, od, .func (PySem.W.fnOf x x (defArgs st) (defBody st) (defScope st) .none kV doc pm an cdv ct), osl⟩) (c : PySem.W.codeIn K cdv x = true) (k : PySem.W.keepIn K (.ref f) = true) : DefG K x st := ⟨f, oc, od, kV, doc, pm, an, cdv, ct, osl, a, l, c, k⟩
theorem IntG.mk_ {x : Str} {i : Int} {v : Value} (a : PySem.W.nsIn K mainGlobals x = some (some v)) (b : ∃ t, v = .int i t) : IntG K x i := ⟨v, a, b⟩
theorem ExcG.mk_ {x : Str} {D : Addr} (a : PySem.W.nsIn K mainGlobals x = some (some (.ref D))) (b : PySem.W.excIn K D bmVE "ValueError.__new__" = true) : ExcG K x := ⟨D, a, b⟩
theorem ClsG.mk_ {x q : Str} {st : Stmt} {n1 n2 n3 : Str} {C f : Addr} {oc : Value} {od : Option Addr} {kV doc pm : Value} {an : Option Addr} {cdv ct : Value} {osl : Array (Option Value)} (a : PySem.W.nsIn K mainGlobals x = some (some (.ref C)))
    (b : PySem.W.findIn K (.ref C) "__init__" = some (some (.ref f))) (c : PySem.W.isFn K (.ref f) = true) (d : K.lookup f = some ⟨oc, od, .func (PySem.W.fnOf "__init__" q (defArgs st) (defBody st) (defScope st) .none kV doc pm an cdv ct), osl⟩) (e : PySem.W.codeIn K cdv q = true) (g : PySem.W.keepIn K (.ref f) = true)
    (h : PySem.W.plainGet K C Str.empty = true) (i : PySem.W.hasDictIn K C = true) (j : PySem.W.plainOver K C = true) (k : PySem.W.findIn K (.ref C) "__setattr__" = some (some (.builtin "object.__setattr__"))) (l : PySem.W.makesIn K C = true) (m : PySem.W.keepIn K (.ref C) = true)
    (n : PySem.W.findIn K (.ref C) n1 = some none) (o : PySem.W.findIn K (.ref C) n2 = some none) (p : PySem.W.findIn K (.ref C) n3 = some none) : ClsG K x q st n1 n2 n3 := ⟨C, f, oc, od, kV, doc, pm, an, cdv, ct, osl, a, b, c, d, e, g, h, i, j, k, l, m, n, o, p⟩
end
section
variable {K : PySem.W.Frag} {mg : Str → Option Value} {h : Heap}
theorem DefG.t {x : Str} {st : Stmt} {ps : List Str} (d : DefG K x st) (X : K.In h) (G : h.Ns mainGlobals mg)
    (hb : ∀ (kV doc pm : Value) (an : Option Addr) (cdv ct : Value) (us : List Value), us.length = ps.length → bindArgs (PySem.W.fnOf x x (defArgs st) (defBody st) (defScope st) .none kV doc pm an cdv ct) ⟨us, []⟩ = pure (ps.zip us)) : DefT K mg x st ps := by
  obtain ⟨f, oc, od, kV, doc, pm, an, cdv, ct, osl, a, l, c, k⟩ := d
  exact DefT.mk_ X G a l c k hb
theorem IntG.t {x : Str} {i : Int} (d : IntG K x i) (X : K.In h) (G : h.Ns mainGlobals mg) : ∃ t, mg x = some (.int i t) := by
  obtain ⟨v, a, t, e⟩ := d; subst e; exact ⟨t, PySem.W.mg_of X G a⟩
theorem NoneG.t {x : Str} (d : NoneG K x) (X : K.In h) (G : h.Ns mainGlobals mg) : mg x = none := PySem.W.mg_none_of X G d
theorem ExcG.t {x : Str} (d : ExcG K x) (X : K.In h) (G : h.Ns mainGlobals mg) : ∃ D, ExcT K mg x D := by
  obtain ⟨D, a, q⟩ := d; exact ⟨D, PySem.W.mg_of X G a, q⟩
theorem ClsG.t {x : Str} {st : Stmt} {ps : List Str} {n1 n2 n3 : Str} (d : ClsG K x (x ++ ".__init__") st n1 n2 n3) (X : K.In h) (G : h.Ns mainGlobals mg)
    (hb : ∀ (kV doc pm : Value) (an : Option Addr) (cdv ct : Value) (us : List Value), us.length = ps.length → bindArgs (PySem.W.fnOf "__init__" (x ++ ".__init__") (defArgs st) (defBody st) (defScope st) .none kV doc pm an cdv ct) ⟨us, []⟩ = pure (ps.zip us)) : ∃ C, ClsT K mg x st ps [n1, n2, n3] C := by
  obtain ⟨C, f, oc, od, kV, doc, pm, an, cdv, ct, osl, a, i1, i2, l, c, k, p1, p2, p3, p4, m, kc, f1, f2, f3⟩ := d
  refine ⟨C, ⟨p1, p2, p3, p4⟩, fun g hg => ?_, PySem.W.mg_of X G a, f, _, ⟨m, i1, i2, kc⟩, fun_mk (st := st) l c k, (fun_mk (st := st) l c k).binds hb⟩
  simp at hg
  rcases hg with rfl | rfl | rfl
  · exact f1
  · exact f2
  · exact f3
end
def TabG (K : PySem.W.Frag) (x : Str) (rows : List (List Int)) : Prop := ∃ (a : Addr) (ts : List Addr), PySem.W.nsIn K mainGlobals x = some (some (.ref a)) ∧ TupK K a (ts.map V.ref) ∧ ts.length = rows.length ∧ ∀ (i : Nat) t r, ts[i]? = some t → rows[i]? = some r → TupK K t (r.map V.int)
theorem TabG.t {K : PySem.W.Frag} {mg : Str → Option Value} {h : Heap} {x : Str} {rows : List (List Int)} (d : TabG K x rows) (X : K.In h) (G : h.Ns mainGlobals mg) : TabT K mg x rows := by
  obtain ⟨a, ts, e, r⟩ := d; exact ⟨a, ts, PySem.W.mg_of X G e, r⟩
def Row4 (i j k l : Int) (v : List Value) : Prop := ∃ v0 v1 v2 v3, v = [v0, v1, v2, v3] ∧ RelV (.int i) v0 ∧ RelV (.int j) v1 ∧ RelV (.int k) v2 ∧ RelV (.int l) v3
theorem row4 {K : PySem.W.Frag} {t : Addr} {od : Option Addr} {its : Array Value} {n : Nat} {osl : Array (Option Value)} {i j k l : Int} (h : K.lookup t = some ⟨.type "tuple", od, .seq its n, osl⟩) (r : Row4 i j k l its.toList) : TupK K t ([i, j, k, l].map V.int) := by
  obtain ⟨v0, v1, v2, v3, e, r0, r1, r2, r3⟩ := r
  refine ⟨_, its, n, h, rfl, rfl, ?_, ?_⟩
  · have : its.toList.length = 4 := by rw [e]; rfl
    rw [Array.length_toList] at this; rw [this]; exact (by decide)
  · rw [e]; exact .cons r0 (.cons r1 (.cons r2 (.cons r3 .nil)))
theorem TabG.mk4 {K : PySem.W.Frag} {x : Str} {a t0 t1 t2 t3 : Addr} {odA : Option Addr} {itsA : Array Value} {nA : Nat} {oslA : Array (Option Value)} {od0 : Option Addr} {its0 : Array Value} {n0 : Nat} {osl0 : Array (Option Value)} {od1 : Option Addr} {its1 : Array Value} {n1 : Nat} {osl1 : Array (Option Value)} {od2 : Option Addr} {its2 : Array Value} {n2 : Nat} {osl2 : Array (Option Value)} {od3 : Option Addr} {its3 : Array Value} {n3 : Nat} {osl3 : Array (Option Value)} {i00 : Int}  {i01 : Int}  {i02 : Int}  {i03 : Int}  {i10 : Int}  {i11 : Int}  {i12 : Int}  {i13 : Int}  {i20 : Int}  {i21 : Int}  {i22 : Int}  {i23 : Int}  {i30 : Int}  {i31 : Int}  {i32 : Int}  {i33 : Int} 
    (h : PySem.W.nsIn K mainGlobals x = some (some (.ref a))) (l : K.lookup a = some ⟨.type "tuple", odA, .seq itsA nA, oslA⟩) (e : itsA.toList = [.ref t0, .ref t1, .ref t2, .ref t3])
    (l0 : K.lookup t0 = some ⟨.type "tuple", od0, .seq its0 n0, osl0⟩) (w0 : Row4 i00 i01 i02 i03 its0.toList)
    (l1 : K.lookup t1 = some ⟨.type "tuple", od1, .seq its1 n1, osl1⟩) (w1 : Row4 i10 i11 i12 i13 its1.toList)
    (l2 : K.lookup t2 = some ⟨.type "tuple", od2, .seq its2 n2, osl2⟩) (w2 : Row4 i20 i21 i22 i23 its2.toList)
    (l3 : K.lookup t3 = some ⟨.type "tuple", od3, .seq its3 n3, osl3⟩) (w3 : Row4 i30 i31 i32 i33 its3.toList) : TabG K x [[i00, i01, i02, i03], [i10, i11, i12, i13], [i20, i21, i22, i23], [i30, i31, i32, i33]] := by
  refine ⟨a, [t0, t1, t2, t3], h, ⟨_, itsA, nA, l, rfl, rfl, ?_, ?_⟩, rfl, fun i t r h1 h2 => ?_⟩
  · have : itsA.toList.length = 4 := by rw [e]; rfl
    rw [Array.length_toList] at this; rw [this]; exact (by decide)
  · rw [e]; exact .cons rfl (.cons rfl (.cons rfl (.cons rfl .nil)))
  · match i, h1, h2 with
    | 0, h1, h2 => cases h1; cases h2; exact row4 l0 w0
    | 1, h1, h2 => cases h1; cases h2; exact row4 l1 w1
    | 2, h1, h2 => cases h1; cases h2; exact row4 l2 w2
    | 3, h1, h2 => cases h1; cases h2; exact row4 l3 w3
    | n + 4, h1, h2 => cases h1
end L2
set_option Elab.async false
set_option linter.all false
set_option maxRecDepth 100000
set_option maxHeartbeats 2000000
namespace PK
open PySem PySem.Spec PyProof.Rows L2 PM
open PySem.W (Codec)
theorem txt_mk {K : PySem.W.Frag} {mg : Str → Option Value} {h : Heap} (X : K.In h) (G : h.Ns mainGlobals mg) (n_len : NoneG K "len")
    (n_max : NoneG K "max")
    (n_min : NoneG K "min")
    (n_sum : NoneG K "sum")
    (n_any : NoneG K "any")
    (n_range : NoneG K "range")
    (n_enumerate : NoneG K "enumerate")
    (n_list : NoneG K "list")
    (i_BEYOND : IntG K "BEYOND" 4294967297)
    (i_PLAIN_FRONT : IntG K "PLAIN_FRONT" 12346)
    (i_RUNS_FRONT : IntG K "RUNS_FRONT" 12347)
    (i_PART : IntG K "PART" 65536)
    (i_MOST_PARTS : IntG K "MOST_PARTS" 65536)
    (i_MOST_LISTED : IntG K "MOST_LISTED" 4096)
    (i_BITS_SIZE : IntG K "BITS_SIZE" 8192)
    (i_FEWEST_WITH_PLACES : IntG K "FEWEST_WITH_PLACES" 4)
    (i_OUT_OF_RANGE : IntG K "OUT_OF_RANGE" (-2))
    (i_NOT_A_SET : IntG K "NOT_A_SET" (-3))
    (i_NO_ROOM : IntG K "NO_ROOM" (-7))
    (i_MOST_ROOM : IntG K "MOST_ROOM" 16777216)
    (i_LAST_HOW : IntG K "LAST_HOW" 3)
    (d_add_span : DefG K "add_span" s_add_span)
    (d_count_numbers : DefG K "count_numbers" s_count_numbers)
    (d_join_edges : DefG K "join_edges" s_join_edges)
    (d_is_listed : DefG K "is_listed" s_is_listed)
    (d_plain_size : DefG K "plain_size" s_plain_size)
    (d_runs_size : DefG K "runs_size" s_runs_size)
    (d_marks_size : DefG K "marks_size" s_marks_size)
    (d_keys_place : DefG K "keys_place" s_keys_place)
    (d_tells_places : DefG K "tells_places" s_tells_places)
    (d_front_size : DefG K "front_size" s_front_size)
    (d_require : DefG K "require" s_require)
    (d_number_at : DefG K "number_at" s_number_at)
    (d_plain_marks : DefG K "plain_marks" s_plain_marks)
    (d_runs_marks : DefG K "runs_marks" s_runs_marks)
    (d_read_marks : DefG K "read_marks" s_read_marks)
    (d_read_keys : DefG K "read_keys" s_read_keys)
    (d_read_runs : DefG K "read_runs" s_read_runs)
    (d_read_list : DefG K "read_list" s_read_list)
    (d_read_bits : DefG K "read_bits" s_read_bits)
    (d_read_part : DefG K "read_part" s_read_part)
    (d_read_size : DefG K "read_size" s_read_size)
    (d_add_part : DefG K "add_part" s_add_part)
    (d_read_edges : DefG K "read_edges" s_read_edges)
    (d_cut_into_parts : DefG K "cut_into_parts" s_cut_into_parts)
    (d_size_as_runs : DefG K "size_as_runs" s_size_as_runs)
    (d_size_as_plain : DefG K "size_as_plain" s_size_as_plain)
    (d_plan_parts : DefG K "plan_parts" s_plan_parts)
    (d_has_runs : DefG K "has_runs" s_has_runs)
    (d_part_size : DefG K "part_size" s_part_size)
    (d_set_size : DefG K "set_size" s_set_size)
    (d_number_bytes : DefG K "number_bytes" s_number_bytes)
    (d_numbers_within : DefG K "numbers_within" s_numbers_within)
    (d_runs_bytes : DefG K "runs_bytes" s_runs_bytes)
    (d_list_bytes : DefG K "list_bytes" s_list_bytes)
    (d_bits_bytes : DefG K "bits_bytes" s_bits_bytes)
    (d_part_bytes : DefG K "part_bytes" s_part_bytes)
    (d_marks_bytes : DefG K "marks_bytes" s_marks_bytes)
    (d_first_bytes : DefG K "first_bytes" s_first_bytes)
    (d_keys_bytes : DefG K "keys_bytes" s_keys_bytes)
    (d_places_bytes : DefG K "places_bytes" s_places_bytes)
    (d_set_bytes : DefG K "set_bytes" s_set_bytes)
    (d_may_join : DefG K "may_join" s_may_join)
    (d_may_fill : DefG K "may_fill" s_may_fill)
    (d_may_write : DefG K "may_write" s_may_write)
    (d_answer_set : DefG K "answer_set" s_answer_set)
    (d_join : DefG K "join" s_join)
    (c_Part : ClsG K "Part" "Part.__init__" s_Part_init "key" "edges" "as_runs")
    (e_NotASet : ExcG K "NotASet")
    (t_IN_JOINED : TabG K "IN_JOINED" [[0, 0, 0, 1], [0, 1, 1, 1], [0, 1, 1, 0], [0, 0, 1, 0]]) : ∃ C D, Txt K mg C D := by
  obtain ⟨C, tC⟩ := c_Part.t (ps := ["self", "key"]) X G fun _ _ _ _ _ _ us hl => match us, hl with | [_, _], _ => rfl
  obtain ⟨D, tD⟩ := e_NotASet.t X G
  exact ⟨C, D, ⟨n_len.t X G, n_max.t X G, n_min.t X G, n_sum.t X G, n_any.t X G, n_range.t X G, n_enumerate.t X G, n_list.t X G, i_BEYOND.t X G, i_PLAIN_FRONT.t X G, i_RUNS_FRONT.t X G, i_PART.t X G, i_MOST_PARTS.t X G, i_MOST_LISTED.t X G, i_BITS_SIZE.t X G, i_FEWEST_WITH_PLACES.t X G, i_OUT_OF_RANGE.t X G, i_NOT_A_SET.t X G, i_NO_ROOM.t X G, i_MOST_ROOM.t X G, i_LAST_HOW.t X G, (d_add_span.t X G fun _ _ _ _ _ _ us hl => match us, hl with | [_, _, _], _ => rfl), (d_count_numbers.t X G fun _ _ _ _ _ _ us hl => match us, hl with | [_], _ => rfl), (d_join_edges.t X G fun _ _ _ _ _ _ us hl => match us, hl with | [_, _, _], _ => rfl), (d_is_listed.t X G fun _ _ _ _ _ _ us hl => match us, hl with | [_], _ => rfl), (d_plain_size.t X G fun _ _ _ _ _ _ us hl => match us, hl with | [_], _ => rfl), (d_runs_size.t X G fun _ _ _ _ _ _ us hl => match us, hl with | [_], _ => rfl), (d_marks_size.t X G fun _ _ _ _ _ _ us hl => match us, hl with | [_], _ => rfl), (d_keys_place.t X G fun _ _ _ _ _ _ us hl => match us, hl with | [_, _], _ => rfl), (d_tells_places.t X G fun _ _ _ _ _ _ us hl => match us, hl with | [_, _], _ => rfl), (d_front_size.t X G fun _ _ _ _ _ _ us hl => match us, hl with | [_, _], _ => rfl), (d_require.t X G fun _ _ _ _ _ _ us hl => match us, hl with | [_], _ => rfl), (d_number_at.t X G fun _ _ _ _ _ _ us hl => match us, hl with | [_, _, _], _ => rfl), (d_plain_marks.t X G fun _ _ _ _ _ _ us hl => match us, hl with | [_], _ => rfl), (d_runs_marks.t X G fun _ _ _ _ _ _ us hl => match us, hl with | [_, _], _ => rfl), (d_read_marks.t X G fun _ _ _ _ _ _ us hl => match us, hl with | [_], _ => rfl), (d_read_keys.t X G fun _ _ _ _ _ _ us hl => match us, hl with | [_, _, _], _ => rfl), (d_read_runs.t X G fun _ _ _ _ _ _ us hl => match us, hl with | [_, _], _ => rfl), (d_read_list.t X G fun _ _ _ _ _ _ us hl => match us, hl with | [_, _, _], _ => rfl), (d_read_bits.t X G fun _ _ _ _ _ _ us hl => match us, hl with | [_, _], _ => rfl), (d_read_part.t X G fun _ _ _ _ _ _ us hl => match us, hl with | [_, _, _, _], _ => rfl), (d_read_size.t X G fun _ _ _ _ _ _ us hl => match us, hl with | [_, _, _], _ => rfl), (d_add_part.t X G fun _ _ _ _ _ _ us hl => match us, hl with | [_, _, _], _ => rfl), (d_read_edges.t X G fun _ _ _ _ _ _ us hl => match us, hl with | [_], _ => rfl), (d_cut_into_parts.t X G fun _ _ _ _ _ _ us hl => match us, hl with | [_], _ => rfl), (d_size_as_runs.t X G fun _ _ _ _ _ _ us hl => match us, hl with | [_], _ => rfl), (d_size_as_plain.t X G fun _ _ _ _ _ _ us hl => match us, hl with | [_], _ => rfl), (d_plan_parts.t X G fun _ _ _ _ _ _ us hl => match us, hl with | [_, _], _ => rfl), (d_has_runs.t X G fun _ _ _ _ _ _ us hl => match us, hl with | [_], _ => rfl), (d_part_size.t X G fun _ _ _ _ _ _ us hl => match us, hl with | [_], _ => rfl), (d_set_size.t X G fun _ _ _ _ _ _ us hl => match us, hl with | [_], _ => rfl), (d_number_bytes.t X G fun _ _ _ _ _ _ us hl => match us, hl with | [_, _], _ => rfl), (d_numbers_within.t X G fun _ _ _ _ _ _ us hl => match us, hl with | [_], _ => rfl), (d_runs_bytes.t X G fun _ _ _ _ _ _ us hl => match us, hl with | [_], _ => rfl), (d_list_bytes.t X G fun _ _ _ _ _ _ us hl => match us, hl with | [_], _ => rfl), (d_bits_bytes.t X G fun _ _ _ _ _ _ us hl => match us, hl with | [_], _ => rfl), (d_part_bytes.t X G fun _ _ _ _ _ _ us hl => match us, hl with | [_], _ => rfl), (d_marks_bytes.t X G fun _ _ _ _ _ _ us hl => match us, hl with | [_], _ => rfl), (d_first_bytes.t X G fun _ _ _ _ _ _ us hl => match us, hl with | [_], _ => rfl), (d_keys_bytes.t X G fun _ _ _ _ _ _ us hl => match us, hl with | [_], _ => rfl), (d_places_bytes.t X G fun _ _ _ _ _ _ us hl => match us, hl with | [_], _ => rfl), (d_set_bytes.t X G fun _ _ _ _ _ _ us hl => match us, hl with | [_], _ => rfl), (d_may_join.t X G fun _ _ _ _ _ _ us hl => match us, hl with | [_], _ => rfl), (d_may_fill.t X G fun _ _ _ _ _ _ us hl => match us, hl with | [_], _ => rfl), (d_may_write.t X G fun _ _ _ _ _ _ us hl => match us, hl with | [_, _], _ => rfl), (d_answer_set.t X G fun _ _ _ _ _ _ us hl => match us, hl with | [_, _, _], _ => rfl), (d_join.t X G fun _ _ _ _ _ _ us hl => match us, hl with | [_, _, _, _, _], _ => rfl), tC, tD, t_IN_JOINED.t X G⟩⟩
theorem main_fin {P : Program} {w : World} {K : PySem.W.Frag} {mg : Str → Option Value} {h : Heap} {fa : Addr} (X : K.In h) (G : h.Ns mainGlobals mg) (hfa : mg "join" = some (.ref fa)) (n_len : NoneG K "len")
    (n_max : NoneG K "max")
    (n_min : NoneG K "min")
    (n_sum : NoneG K "sum")
    (n_any : NoneG K "any")
    (n_range : NoneG K "range")
    (n_enumerate : NoneG K "enumerate")
    (n_list : NoneG K "list")
    (i_BEYOND : IntG K "BEYOND" 4294967297)
    (i_PLAIN_FRONT : IntG K "PLAIN_FRONT" 12346)
    (i_RUNS_FRONT : IntG K "RUNS_FRONT" 12347)
    (i_PART : IntG K "PART" 65536)
    (i_MOST_PARTS : IntG K "MOST_PARTS" 65536)
    (i_MOST_LISTED : IntG K "MOST_LISTED" 4096)
    (i_BITS_SIZE : IntG K "BITS_SIZE" 8192)
    (i_FEWEST_WITH_PLACES : IntG K "FEWEST_WITH_PLACES" 4)
    (i_OUT_OF_RANGE : IntG K "OUT_OF_RANGE" (-2))
    (i_NOT_A_SET : IntG K "NOT_A_SET" (-3))
    (i_NO_ROOM : IntG K "NO_ROOM" (-7))
    (i_MOST_ROOM : IntG K "MOST_ROOM" 16777216)
    (i_LAST_HOW : IntG K "LAST_HOW" 3)
    (d_add_span : DefG K "add_span" s_add_span)
    (d_count_numbers : DefG K "count_numbers" s_count_numbers)
    (d_join_edges : DefG K "join_edges" s_join_edges)
    (d_is_listed : DefG K "is_listed" s_is_listed)
    (d_plain_size : DefG K "plain_size" s_plain_size)
    (d_runs_size : DefG K "runs_size" s_runs_size)
    (d_marks_size : DefG K "marks_size" s_marks_size)
    (d_keys_place : DefG K "keys_place" s_keys_place)
    (d_tells_places : DefG K "tells_places" s_tells_places)
    (d_front_size : DefG K "front_size" s_front_size)
    (d_require : DefG K "require" s_require)
    (d_number_at : DefG K "number_at" s_number_at)
    (d_plain_marks : DefG K "plain_marks" s_plain_marks)
    (d_runs_marks : DefG K "runs_marks" s_runs_marks)
    (d_read_marks : DefG K "read_marks" s_read_marks)
    (d_read_keys : DefG K "read_keys" s_read_keys)
    (d_read_runs : DefG K "read_runs" s_read_runs)
    (d_read_list : DefG K "read_list" s_read_list)
    (d_read_bits : DefG K "read_bits" s_read_bits)
    (d_read_part : DefG K "read_part" s_read_part)
    (d_read_size : DefG K "read_size" s_read_size)
    (d_add_part : DefG K "add_part" s_add_part)
    (d_read_edges : DefG K "read_edges" s_read_edges)
    (d_cut_into_parts : DefG K "cut_into_parts" s_cut_into_parts)
    (d_size_as_runs : DefG K "size_as_runs" s_size_as_runs)
    (d_size_as_plain : DefG K "size_as_plain" s_size_as_plain)
    (d_plan_parts : DefG K "plan_parts" s_plan_parts)
    (d_has_runs : DefG K "has_runs" s_has_runs)
    (d_part_size : DefG K "part_size" s_part_size)
    (d_set_size : DefG K "set_size" s_set_size)
    (d_number_bytes : DefG K "number_bytes" s_number_bytes)
    (d_numbers_within : DefG K "numbers_within" s_numbers_within)
    (d_runs_bytes : DefG K "runs_bytes" s_runs_bytes)
    (d_list_bytes : DefG K "list_bytes" s_list_bytes)
    (d_bits_bytes : DefG K "bits_bytes" s_bits_bytes)
    (d_part_bytes : DefG K "part_bytes" s_part_bytes)
    (d_marks_bytes : DefG K "marks_bytes" s_marks_bytes)
    (d_first_bytes : DefG K "first_bytes" s_first_bytes)
    (d_keys_bytes : DefG K "keys_bytes" s_keys_bytes)
    (d_places_bytes : DefG K "places_bytes" s_places_bytes)
    (d_set_bytes : DefG K "set_bytes" s_set_bytes)
    (d_may_join : DefG K "may_join" s_may_join)
    (d_may_fill : DefG K "may_fill" s_may_fill)
    (d_may_write : DefG K "may_write" s_may_write)
    (d_answer_set : DefG K "answer_set" s_answer_set)
    (d_join : DefG K "join" s_join)
    (c_Part : ClsG K "Part" "Part.__init__" s_Part_init "key" "edges" "as_runs")
    (e_NotASet : ExcG K "NotASet")
    (t_IN_JOINED : TabG K "IN_JOINED" [[0, 0, 0, 1], [0, 1, 1, 1], [0, 1, 1, 0], [0, 0, 1, 0]]) :
    ∃ fd : FuncData, (∀ (s : Shared) (us : List Value), us.length = (["how", "runs", "room", "a", "b"] : List Str).length → BindsTo s fd ⟨us, []⟩ ((["how", "runs", "room", "a", "b"] : List Str).zip us)) ∧ ∀ base : Heap, K.In base → base.Ns mainGlobals mg → FnOk P w K mg base CX0 8 fa fd ["how", "runs", "room", "a", "b"] (sp_join K) := by
  obtain ⟨C, D, T⟩ := txt_mk X G n_len n_max n_min n_sum n_any n_range n_enumerate n_list i_BEYOND i_PLAIN_FRONT i_RUNS_FRONT i_PART i_MOST_PARTS i_MOST_LISTED i_BITS_SIZE i_FEWEST_WITH_PLACES i_OUT_OF_RANGE i_NOT_A_SET i_NO_ROOM i_MOST_ROOM i_LAST_HOW d_add_span d_count_numbers d_join_edges d_is_listed d_plain_size d_runs_size d_marks_size d_keys_place d_tells_places d_front_size d_require d_number_at d_plain_marks d_runs_marks d_read_marks d_read_keys d_read_runs d_read_list d_read_bits d_read_part d_read_size d_add_part d_read_edges d_cut_into_parts d_size_as_runs d_size_as_plain d_plan_parts d_has_runs d_part_size d_set_size d_number_bytes d_numbers_within d_runs_bytes d_list_bytes d_bits_bytes d_part_bytes d_marks_bytes d_first_bytes d_keys_bytes d_places_bytes d_set_bytes d_may_join d_may_fill d_may_write d_answer_set d_join c_Part e_NotASet t_IN_JOINED
  obtain ⟨f, oc, od, kV, doc, pm, an, cdv, ct, osl, a, l, c, k⟩ := d_join
  have e := hfa.symm.trans (PySem.W.mg_of X G a)
  cases e
  exact ⟨_, fun s us hu => match us, hu with | [_, _, _, _, _], _ => .of_eq rfl, fun base _ _ => fn_join (fun_mk (st := s_join) l c k) T⟩
end PK
open PySem PySem.W PyProof.Rows
set_option maxRecDepth 100000 in
set_option maxHeartbeats 0 in
theorem PySem.Challenge.cw_packedsets_s03_join_holds : PySem.Challenge.rw_packedsets_s03_join.Holds := by
  refine PySem.W.holds_os (q := PK.qv) (loose := []) (Xt := PK.XT) (XP := PySem.W.XL PK.qv []) (Yf := PK.HK.obs) (Ya := PK.HK.val) (YP := PySem.W.Hook.says (PySem.W.kHook PK.KH PK.KA PK.kA)) (N := 4186) PK.hl PK.HK.of PK.HK.keeps (fun s e => PySem.W.xl_of s (Bool.and_eq_true_iff.mp e).1) PySem.W.XL.keeps (by rfl) (by rfl) (by rfl) (fun s e => PySem.W.recFacts_of (Bool.and_eq_true_iff.mp e).2) PySem.W.os_shapes (by decide +kernel) (by decide +kernel) ⟨rfl, rfl, rfl, rfl, rfl, by decide +kernel⟩ ⟨[.int 0, .int 0, .int 100, .list [], .list []], by decide +kernel, by decide +kernel⟩ ?hc
  refine L2.walk_specK (r := PySem.Challenge.rw_packedsets_s03_join) (k := 8) (CX := L2.CX0) (ps := ["how", "runs", "room", "a", "b"]) (sp := PK.sp_join) (by decide +kernel) rfl rfl ⟨rfl, by decide, by decide⟩ (fun w h Y => PySem.W.kIn_of (K := PK.KH) (as := PK.KA) (e := PK.kA) Y) ?F ?S (fun _ _ _ _ z => z)
  case F =>
    intro w mg fa h Y KX G hmg
    refine' PK.main_fin KX G hmg ?n_len ?n_max ?n_min ?n_sum ?n_any ?n_range ?n_enumerate ?n_list ?i_BEYOND ?i_PLAIN_FRONT ?i_RUNS_FRONT ?i_PART ?i_MOST_PARTS ?i_MOST_LISTED ?i_BITS_SIZE ?i_FEWEST_WITH_PLACES ?i_OUT_OF_RANGE ?i_NOT_A_SET ?i_NO_ROOM ?i_MOST_ROOM ?i_LAST_HOW ?d_add_span ?d_count_numbers ?d_join_edges ?d_is_listed ?d_plain_size ?d_runs_size ?d_marks_size ?d_keys_place ?d_tells_places ?d_front_size ?d_require ?d_number_at ?d_plain_marks ?d_runs_marks ?d_read_marks ?d_read_keys ?d_read_runs ?d_read_list ?d_read_bits ?d_read_part ?d_read_size ?d_add_part ?d_read_edges ?d_cut_into_parts ?d_size_as_runs ?d_size_as_plain ?d_plan_parts ?d_has_runs ?d_part_size ?d_set_size ?d_number_bytes ?d_numbers_within ?d_runs_bytes ?d_list_bytes ?d_bits_bytes ?d_part_bytes ?d_marks_bytes ?d_first_bytes ?d_keys_bytes ?d_places_bytes ?d_set_bytes ?d_may_join ?d_may_fill ?d_may_write ?d_answer_set ?d_join ?c_Part ?e_NotASet ?t_IN_JOINED
    (case n_len => show PySem.W.nsIn _ _ _ = _; kernel_rfl)
    (case n_max => show PySem.W.nsIn _ _ _ = _; kernel_rfl)
    (case n_min => show PySem.W.nsIn _ _ _ = _; kernel_rfl)
    (case n_sum => show PySem.W.nsIn _ _ _ = _; kernel_rfl)
    (case n_any => show PySem.W.nsIn _ _ _ = _; kernel_rfl)
    (case n_range => show PySem.W.nsIn _ _ _ = _; kernel_rfl)
    (case n_enumerate => show PySem.W.nsIn _ _ _ = _; kernel_rfl)
    (case n_list => show PySem.W.nsIn _ _ _ = _; kernel_rfl)
    (case i_BEYOND => exact L2.IntG.mk_ (v := (.int (4294967297) 189)) (by kernel_rfl) ⟨_, rfl⟩)
    (case i_PLAIN_FRONT => exact L2.IntG.mk_ (v := (.int (12346) 242)) (by kernel_rfl) ⟨_, rfl⟩)
    (case i_RUNS_FRONT => exact L2.IntG.mk_ (v := (.int (12347) 244)) (by kernel_rfl) ⟨_, rfl⟩)
    (case i_PART => exact L2.IntG.mk_ (v := (.int (65536) 246)) (by kernel_rfl) ⟨_, rfl⟩)
    (case i_MOST_PARTS => exact L2.IntG.mk_ (v := (.int (65536) 248)) (by kernel_rfl) ⟨_, rfl⟩)
    (case i_MOST_LISTED => exact L2.IntG.mk_ (v := (.int (4096) 250)) (by kernel_rfl) ⟨_, rfl⟩)
    (case i_BITS_SIZE => exact L2.IntG.mk_ (v := (.int (8192) 252)) (by kernel_rfl) ⟨_, rfl⟩)
    (case i_FEWEST_WITH_PLACES => exact L2.IntG.mk_ (v := (.int (4) 254)) (by kernel_rfl) ⟨_, rfl⟩)
    (case i_OUT_OF_RANGE => exact L2.IntG.mk_ (v := (.int (-2) 643)) (by kernel_rfl) ⟨_, rfl⟩)
    (case i_NOT_A_SET => exact L2.IntG.mk_ (v := (.int (-3) 646)) (by kernel_rfl) ⟨_, rfl⟩)
    (case i_NO_ROOM => exact L2.IntG.mk_ (v := (.int (-7) 649)) (by kernel_rfl) ⟨_, rfl⟩)
    (case i_MOST_ROOM => exact L2.IntG.mk_ (v := (.int (16777216) 651)) (by kernel_rfl) ⟨_, rfl⟩)
    (case i_LAST_HOW => exact L2.IntG.mk_ (v := (.int (3) 653)) (by kernel_rfl) ⟨_, rfl⟩)
    (case d_add_span => exact L2.DefG.mk_ (f := 26) (oc := (.type "function")) (od := none) (kV := .none) (doc := .none) (pm := (PK.st "packedsets.edges" 187)) (an := none) (cdv := (.ref 25)) (ct := .none) (osl := #[]) (by kernel_rfl) (by kernel_rfl) (by kernel_rfl) (by kernel_rfl))
    (case d_count_numbers => exact L2.DefG.mk_ (f := 33) (oc := (.type "function")) (od := none) (kV := .none) (doc := .none) (pm := (PK.st "packedsets.edges" 187)) (an := none) (cdv := (.ref 32)) (ct := .none) (osl := #[]) (by kernel_rfl) (by kernel_rfl) (by kernel_rfl) (by kernel_rfl))
    (case d_join_edges => exact L2.DefG.mk_ (f := 40) (oc := (.type "function")) (od := none) (kV := .none) (doc := .none) (pm := (PK.st "packedsets.edges" 187)) (an := none) (cdv := (.ref 39)) (ct := .none) (osl := #[]) (by kernel_rfl) (by kernel_rfl) (by kernel_rfl) (by kernel_rfl))
    (case d_is_listed => exact L2.DefG.mk_ (f := 47) (oc := (.type "function")) (od := none) (kV := .none) (doc := .none) (pm := (PK.st "packedsets.form" 240)) (an := none) (cdv := (.ref 46)) (ct := .none) (osl := #[]) (by kernel_rfl) (by kernel_rfl) (by kernel_rfl) (by kernel_rfl))
    (case d_plain_size => exact L2.DefG.mk_ (f := 54) (oc := (.type "function")) (od := none) (kV := .none) (doc := .none) (pm := (PK.st "packedsets.form" 240)) (an := none) (cdv := (.ref 53)) (ct := .none) (osl := #[]) (by kernel_rfl) (by kernel_rfl) (by kernel_rfl) (by kernel_rfl))
    (case d_runs_size => exact L2.DefG.mk_ (f := 61) (oc := (.type "function")) (od := none) (kV := .none) (doc := .none) (pm := (PK.st "packedsets.form" 240)) (an := none) (cdv := (.ref 60)) (ct := .none) (osl := #[]) (by kernel_rfl) (by kernel_rfl) (by kernel_rfl) (by kernel_rfl))
    (case d_marks_size => exact L2.DefG.mk_ (f := 68) (oc := (.type "function")) (od := none) (kV := .none) (doc := .none) (pm := (PK.st "packedsets.form" 240)) (an := none) (cdv := (.ref 67)) (ct := .none) (osl := #[]) (by kernel_rfl) (by kernel_rfl) (by kernel_rfl) (by kernel_rfl))
    (case d_keys_place => exact L2.DefG.mk_ (f := 75) (oc := (.type "function")) (od := none) (kV := .none) (doc := .none) (pm := (PK.st "packedsets.form" 240)) (an := none) (cdv := (.ref 74)) (ct := .none) (osl := #[]) (by kernel_rfl) (by kernel_rfl) (by kernel_rfl) (by kernel_rfl))
    (case d_tells_places => exact L2.DefG.mk_ (f := 82) (oc := (.type "function")) (od := none) (kV := .none) (doc := .none) (pm := (PK.st "packedsets.form" 240)) (an := none) (cdv := (.ref 81)) (ct := .none) (osl := #[]) (by kernel_rfl) (by kernel_rfl) (by kernel_rfl) (by kernel_rfl))
    (case d_front_size => exact L2.DefG.mk_ (f := 89) (oc := (.type "function")) (od := none) (kV := .none) (doc := .none) (pm := (PK.st "packedsets.form" 240)) (an := none) (cdv := (.ref 88)) (ct := .none) (osl := #[]) (by kernel_rfl) (by kernel_rfl) (by kernel_rfl) (by kernel_rfl))
    (case d_require => exact L2.DefG.mk_ (f := 109) (oc := (.type "function")) (od := none) (kV := .none) (doc := .none) (pm := (PK.st "packedsets.reader" 309)) (an := none) (cdv := (.ref 108)) (ct := .none) (osl := #[]) (by kernel_rfl) (by kernel_rfl) (by kernel_rfl) (by kernel_rfl))
    (case d_number_at => exact L2.DefG.mk_ (f := 116) (oc := (.type "function")) (od := none) (kV := .none) (doc := .none) (pm := (PK.st "packedsets.reader" 309)) (an := none) (cdv := (.ref 115)) (ct := .none) (osl := #[]) (by kernel_rfl) (by kernel_rfl) (by kernel_rfl) (by kernel_rfl))
    (case d_plain_marks => exact L2.DefG.mk_ (f := 123) (oc := (.type "function")) (od := none) (kV := .none) (doc := .none) (pm := (PK.st "packedsets.reader" 309)) (an := none) (cdv := (.ref 122)) (ct := .none) (osl := #[]) (by kernel_rfl) (by kernel_rfl) (by kernel_rfl) (by kernel_rfl))
    (case d_runs_marks => exact L2.DefG.mk_ (f := 128) (oc := (.type "function")) (od := none) (kV := .none) (doc := .none) (pm := (PK.st "packedsets.reader" 309)) (an := none) (cdv := (.ref 127)) (ct := .none) (osl := #[]) (by kernel_rfl) (by kernel_rfl) (by kernel_rfl) (by kernel_rfl))
    (case d_read_marks => exact L2.DefG.mk_ (f := 135) (oc := (.type "function")) (od := none) (kV := .none) (doc := .none) (pm := (PK.st "packedsets.reader" 309)) (an := none) (cdv := (.ref 134)) (ct := .none) (osl := #[]) (by kernel_rfl) (by kernel_rfl) (by kernel_rfl) (by kernel_rfl))
    (case d_read_keys => exact L2.DefG.mk_ (f := 140) (oc := (.type "function")) (od := none) (kV := .none) (doc := .none) (pm := (PK.st "packedsets.reader" 309)) (an := none) (cdv := (.ref 139)) (ct := .none) (osl := #[]) (by kernel_rfl) (by kernel_rfl) (by kernel_rfl) (by kernel_rfl))
    (case d_read_runs => exact L2.DefG.mk_ (f := 147) (oc := (.type "function")) (od := none) (kV := .none) (doc := .none) (pm := (PK.st "packedsets.reader" 309)) (an := none) (cdv := (.ref 146)) (ct := .none) (osl := #[]) (by kernel_rfl) (by kernel_rfl) (by kernel_rfl) (by kernel_rfl))
    (case d_read_list => exact L2.DefG.mk_ (f := 154) (oc := (.type "function")) (od := none) (kV := .none) (doc := .none) (pm := (PK.st "packedsets.reader" 309)) (an := none) (cdv := (.ref 153)) (ct := .none) (osl := #[]) (by kernel_rfl) (by kernel_rfl) (by kernel_rfl) (by kernel_rfl))
    (case d_read_bits => exact L2.DefG.mk_ (f := 161) (oc := (.type "function")) (od := none) (kV := .none) (doc := .none) (pm := (PK.st "packedsets.reader" 309)) (an := none) (cdv := (.ref 160)) (ct := .none) (osl := #[]) (by kernel_rfl) (by kernel_rfl) (by kernel_rfl) (by kernel_rfl))
    (case d_read_part => exact L2.DefG.mk_ (f := 168) (oc := (.type "function")) (od := none) (kV := .none) (doc := .none) (pm := (PK.st "packedsets.reader" 309)) (an := none) (cdv := (.ref 167)) (ct := .none) (osl := #[]) (by kernel_rfl) (by kernel_rfl) (by kernel_rfl) (by kernel_rfl))
    (case d_read_size => exact L2.DefG.mk_ (f := 175) (oc := (.type "function")) (od := none) (kV := .none) (doc := .none) (pm := (PK.st "packedsets.reader" 309)) (an := none) (cdv := (.ref 174)) (ct := .none) (osl := #[]) (by kernel_rfl) (by kernel_rfl) (by kernel_rfl) (by kernel_rfl))
    (case d_add_part => exact L2.DefG.mk_ (f := 180) (oc := (.type "function")) (od := none) (kV := .none) (doc := .none) (pm := (PK.st "packedsets.reader" 309)) (an := none) (cdv := (.ref 179)) (ct := .none) (osl := #[]) (by kernel_rfl) (by kernel_rfl) (by kernel_rfl) (by kernel_rfl))
    (case d_read_edges => exact L2.DefG.mk_ (f := 187) (oc := (.type "function")) (od := none) (kV := .none) (doc := .none) (pm := (PK.st "packedsets.reader" 309)) (an := none) (cdv := (.ref 186)) (ct := .none) (osl := #[]) (by kernel_rfl) (by kernel_rfl) (by kernel_rfl) (by kernel_rfl))
    (case d_cut_into_parts => exact L2.DefG.mk_ (f := 215) (oc := (.type "function")) (od := none) (kV := .none) (doc := .none) (pm := (PK.st "packedsets.writer" 456)) (an := none) (cdv := (.ref 214)) (ct := .none) (osl := #[]) (by kernel_rfl) (by kernel_rfl) (by kernel_rfl) (by kernel_rfl))
    (case d_size_as_runs => exact L2.DefG.mk_ (f := 222) (oc := (.type "function")) (od := none) (kV := .none) (doc := .none) (pm := (PK.st "packedsets.writer" 456)) (an := none) (cdv := (.ref 221)) (ct := .none) (osl := #[]) (by kernel_rfl) (by kernel_rfl) (by kernel_rfl) (by kernel_rfl))
    (case d_size_as_plain => exact L2.DefG.mk_ (f := 229) (oc := (.type "function")) (od := none) (kV := .none) (doc := .none) (pm := (PK.st "packedsets.writer" 456)) (an := none) (cdv := (.ref 228)) (ct := .none) (osl := #[]) (by kernel_rfl) (by kernel_rfl) (by kernel_rfl) (by kernel_rfl))
    (case d_plan_parts => exact L2.DefG.mk_ (f := 236) (oc := (.type "function")) (od := none) (kV := .none) (doc := .none) (pm := (PK.st "packedsets.writer" 456)) (an := none) (cdv := (.ref 235)) (ct := .none) (osl := #[]) (by kernel_rfl) (by kernel_rfl) (by kernel_rfl) (by kernel_rfl))
    (case d_has_runs => exact L2.DefG.mk_ (f := 241) (oc := (.type "function")) (od := none) (kV := .none) (doc := .none) (pm := (PK.st "packedsets.writer" 456)) (an := none) (cdv := (.ref 240)) (ct := .none) (osl := #[]) (by kernel_rfl) (by kernel_rfl) (by kernel_rfl) (by kernel_rfl))
    (case d_part_size => exact L2.DefG.mk_ (f := 248) (oc := (.type "function")) (od := none) (kV := .none) (doc := .none) (pm := (PK.st "packedsets.writer" 456)) (an := none) (cdv := (.ref 247)) (ct := .none) (osl := #[]) (by kernel_rfl) (by kernel_rfl) (by kernel_rfl) (by kernel_rfl))
    (case d_set_size => exact L2.DefG.mk_ (f := 253) (oc := (.type "function")) (od := none) (kV := .none) (doc := .none) (pm := (PK.st "packedsets.writer" 456)) (an := none) (cdv := (.ref 252)) (ct := .none) (osl := #[]) (by kernel_rfl) (by kernel_rfl) (by kernel_rfl) (by kernel_rfl))
    (case d_number_bytes => exact L2.DefG.mk_ (f := 258) (oc := (.type "function")) (od := none) (kV := .none) (doc := .none) (pm := (PK.st "packedsets.writer" 456)) (an := none) (cdv := (.ref 257)) (ct := .none) (osl := #[]) (by kernel_rfl) (by kernel_rfl) (by kernel_rfl) (by kernel_rfl))
    (case d_numbers_within => exact L2.DefG.mk_ (f := 265) (oc := (.type "function")) (od := none) (kV := .none) (doc := .none) (pm := (PK.st "packedsets.writer" 456)) (an := none) (cdv := (.ref 264)) (ct := .none) (osl := #[]) (by kernel_rfl) (by kernel_rfl) (by kernel_rfl) (by kernel_rfl))
    (case d_runs_bytes => exact L2.DefG.mk_ (f := 272) (oc := (.type "function")) (od := none) (kV := .none) (doc := .none) (pm := (PK.st "packedsets.writer" 456)) (an := none) (cdv := (.ref 271)) (ct := .none) (osl := #[]) (by kernel_rfl) (by kernel_rfl) (by kernel_rfl) (by kernel_rfl))
    (case d_list_bytes => exact L2.DefG.mk_ (f := 279) (oc := (.type "function")) (od := none) (kV := .none) (doc := .none) (pm := (PK.st "packedsets.writer" 456)) (an := none) (cdv := (.ref 278)) (ct := .none) (osl := #[]) (by kernel_rfl) (by kernel_rfl) (by kernel_rfl) (by kernel_rfl))
    (case d_bits_bytes => exact L2.DefG.mk_ (f := 286) (oc := (.type "function")) (od := none) (kV := .none) (doc := .none) (pm := (PK.st "packedsets.writer" 456)) (an := none) (cdv := (.ref 285)) (ct := .none) (osl := #[]) (by kernel_rfl) (by kernel_rfl) (by kernel_rfl) (by kernel_rfl))
    (case d_part_bytes => exact L2.DefG.mk_ (f := 293) (oc := (.type "function")) (od := none) (kV := .none) (doc := .none) (pm := (PK.st "packedsets.writer" 456)) (an := none) (cdv := (.ref 292)) (ct := .none) (osl := #[]) (by kernel_rfl) (by kernel_rfl) (by kernel_rfl) (by kernel_rfl))
    (case d_marks_bytes => exact L2.DefG.mk_ (f := 300) (oc := (.type "function")) (od := none) (kV := .none) (doc := .none) (pm := (PK.st "packedsets.writer" 456)) (an := none) (cdv := (.ref 299)) (ct := .none) (osl := #[]) (by kernel_rfl) (by kernel_rfl) (by kernel_rfl) (by kernel_rfl))
    (case d_first_bytes => exact L2.DefG.mk_ (f := 307) (oc := (.type "function")) (od := none) (kV := .none) (doc := .none) (pm := (PK.st "packedsets.writer" 456)) (an := none) (cdv := (.ref 306)) (ct := .none) (osl := #[]) (by kernel_rfl) (by kernel_rfl) (by kernel_rfl) (by kernel_rfl))
    (case d_keys_bytes => exact L2.DefG.mk_ (f := 314) (oc := (.type "function")) (od := none) (kV := .none) (doc := .none) (pm := (PK.st "packedsets.writer" 456)) (an := none) (cdv := (.ref 313)) (ct := .none) (osl := #[]) (by kernel_rfl) (by kernel_rfl) (by kernel_rfl) (by kernel_rfl))
    (case d_places_bytes => exact L2.DefG.mk_ (f := 321) (oc := (.type "function")) (od := none) (kV := .none) (doc := .none) (pm := (PK.st "packedsets.writer" 456)) (an := none) (cdv := (.ref 320)) (ct := .none) (osl := #[]) (by kernel_rfl) (by kernel_rfl) (by kernel_rfl) (by kernel_rfl))
    (case d_set_bytes => exact L2.DefG.mk_ (f := 328) (oc := (.type "function")) (od := none) (kV := .none) (doc := .none) (pm := (PK.st "packedsets.writer" 456)) (an := none) (cdv := (.ref 327)) (ct := .none) (osl := #[]) (by kernel_rfl) (by kernel_rfl) (by kernel_rfl) (by kernel_rfl))
    (case d_may_join => exact L2.DefG.mk_ (f := 335) (oc := (.type "function")) (od := none) (kV := .none) (doc := .none) (pm := (PK.st "packedsets.sets" 640)) (an := none) (cdv := (.ref 334)) (ct := .none) (osl := #[]) (by kernel_rfl) (by kernel_rfl) (by kernel_rfl) (by kernel_rfl))
    (case d_may_fill => exact L2.DefG.mk_ (f := 342) (oc := (.type "function")) (od := none) (kV := .none) (doc := .none) (pm := (PK.st "packedsets.sets" 640)) (an := none) (cdv := (.ref 341)) (ct := .none) (osl := #[]) (by kernel_rfl) (by kernel_rfl) (by kernel_rfl) (by kernel_rfl))
    (case d_may_write => exact L2.DefG.mk_ (f := 349) (oc := (.type "function")) (od := none) (kV := .none) (doc := .none) (pm := (PK.st "packedsets.sets" 640)) (an := none) (cdv := (.ref 348)) (ct := .none) (osl := #[]) (by kernel_rfl) (by kernel_rfl) (by kernel_rfl) (by kernel_rfl))
    (case d_answer_set => exact L2.DefG.mk_ (f := 356) (oc := (.type "function")) (od := none) (kV := .none) (doc := .none) (pm := (PK.st "packedsets.sets" 640)) (an := none) (cdv := (.ref 355)) (ct := .none) (osl := #[]) (by kernel_rfl) (by kernel_rfl) (by kernel_rfl) (by kernel_rfl))
    (case d_join => exact L2.DefG.mk_ (f := 363) (oc := (.type "function")) (od := none) (kV := .none) (doc := .none) (pm := (PK.st "packedsets.sets" 640)) (an := none) (cdv := (.ref 362)) (ct := .none) (osl := #[]) (by kernel_rfl) (by kernel_rfl) (by kernel_rfl) (by kernel_rfl))
    (case c_Part => exact L2.ClsG.mk_ (C := 204) (f := 201) (oc := (.type "function")) (od := none) (kV := .none) (doc := .none) (pm := (PK.st "packedsets.writer" 456)) (an := none) (cdv := (.ref 200)) (ct := .none) (osl := #[]) (by kernel_rfl) (by kernel_rfl) (by kernel_rfl) (by kernel_rfl) (by kernel_rfl) (by kernel_rfl) (by kernel_rfl) (by kernel_rfl) (by kernel_rfl) (by kernel_rfl) (by kernel_rfl) (by kernel_rfl) (by kernel_rfl) (by kernel_rfl) (by kernel_rfl))
    (case e_NotASet => exact L2.ExcG.mk_ (D := 99) (by kernel_rfl) (by kernel_rfl))
    (case t_IN_JOINED => exact L2.TabG.mk4 (a := 19) (odA := none) (itsA := (List.toArray [(.ref 15), (.ref 16), (.ref 17), (.ref 18)])) (nA := 0) (oslA := #[]) (t0 := 15) (od0 := none) (its0 := (List.toArray [(.int (0) 191), (.int (0) 192), (.int (0) 193), (.int (1) 194)])) (n0 := 0) (osl0 := #[]) (t1 := 16) (od1 := none) (its1 := (List.toArray [(.int (0) 195), (.int (1) 196), (.int (1) 197), (.int (1) 198)])) (n1 := 0) (osl1 := #[]) (t2 := 17) (od2 := none) (its2 := (List.toArray [(.int (0) 199), (.int (1) 200), (.int (1) 201), (.int (0) 202)])) (n2 := 0) (osl2 := #[]) (t3 := 18) (od3 := none) (its3 := (List.toArray [(.int (0) 203), (.int (0) 204), (.int (1) 205), (.int (0) 206)])) (n3 := 0) (osl3 := #[]) (by kernel_rfl) (by kernel_rfl) rfl (by kernel_rfl) ⟨_, _, _, _, rfl, ⟨_, rfl⟩, ⟨_, rfl⟩, ⟨_, rfl⟩, ⟨_, rfl⟩⟩ (by kernel_rfl) ⟨_, _, _, _, rfl, ⟨_, rfl⟩, ⟨_, rfl⟩, ⟨_, rfl⟩, ⟨_, rfl⟩⟩ (by kernel_rfl) ⟨_, _, _, _, rfl, ⟨_, rfl⟩, ⟨_, rfl⟩, ⟨_, rfl⟩, ⟨_, rfl⟩⟩ (by kernel_rfl) ⟨_, _, _, _, rfl, ⟨_, rfl⟩, ⟨_, rfl⟩, ⟨_, rfl⟩, ⟨_, rfl⟩⟩)
  case S =>
    exact fun K H xs a _ hwi hask hx => PK.req_join PySem.Challenge.rw_packedsets_s03_join rfl K H xs a hwi hask hx
#print axioms PySem.Challenge.cw_packedsets_s03_join_holds
