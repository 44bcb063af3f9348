import PyProof.Rows.All
import Wide.All
import OpenK.Peek
import OpenK.KGet
import OpenK.KFacts
import OpenK.KDescr
import OpenK.KCall
import OpenK.KMake
import OpenK.KCls
import OpenK.KWalk
import OpenK.KMore
import OpenK.KLine
import OpenK.KRaise
import OpenK.KOwn
import KE.KTryMore
import KE.KFromBytes
import KE.KListMore
import KE.KEqSeq
import KE.KItem
import KE.KxBytes
import KE.KEqDeep
import KE.KIsAll
import KE.IntBitsLaws
import Wide.FinOn
import Lean
import PyProof.EqAt
import PyProof.EqKinds
import PyProof.TupleCall
import PyProof.CallType
import PyProof.AutoListH
import PyProof.EnumStmt
import PyProof.FactsAll.list
import PySem.Challenge.RW_crosstable_k06_whole_rests_counted
import PyProof.NsDelKeeps
import PyProof.PassesOwn
import PyProof.DictTruth
import KE.KDictOf
import KE.KDictList
set_option Elab.async false
set_option linter.all false
set_option maxRecDepth 100000
namespace L2
open PySem PySem.Spec PyProof.Rows
def inClass (s:Stmt) (j:Nat):Stmt:=match s with
  | .ClassDef _ _ _ body _ _ _ _ _ _ _=>body.getD j (.Pass ⟨0,0,0,0⟩)
  | _=>.Pass ⟨0,0,0,0⟩
def defArgs (s:Stmt):Arguments:=match s with
  | .FunctionDef _ a _ _ _ _ _ _ _ _=>a
  | _=>{ posonlyargs:=[],args:=[],vararg:=none,kwonlyargs:=[],kw_defaults:=[],kwarg:=none,defaults:=[] }
def defBody (s:Stmt):List Stmt:=match s with
  | .FunctionDef _ _ b _ _ _ _ _ _ _=>b
  | _=>[]
def defScope (s:Stmt):Scope:=match s with
  | .FunctionDef _ _ _ _ _ _ sc _ _ _=>sc
  | _=>{ kind:=.function,names:=[],isGenerator:=false,isCoroutine:=false }
end L2
namespace X1
open PySem L2
def top (i:Nat):Stmt:=PySem.Challenge.pw_crosstable_k06_whole_rests_counted.main.body.getD i (.Pass ⟨0,0,0,0⟩)
abbrev s_q00:Stmt:=top 1
abbrev s_q01:Stmt:=top 2
abbrev s_q02:Stmt:=top 3
abbrev s_q03:Stmt:=top 4
abbrev s_q04:Stmt:=top 5
abbrev s_q05:Stmt:=top 11
abbrev s_q06:Stmt:=top 12
abbrev s_q07:Stmt:=top 13
abbrev s_q08:Stmt:=top 14
abbrev s_q09:Stmt:=top 16
abbrev s_q0a:Stmt:=top 19
abbrev s_q0b:Stmt:=top 20
abbrev s_q0c:Stmt:=top 21
abbrev s_q0d:Stmt:=top 22
abbrev s_q0e:Stmt:=top 23
abbrev s_q0f:Stmt:=top 24
abbrev s_q0g:Stmt:=top 25
abbrev s_q0h:Stmt:=top 26
abbrev s_q0i:Stmt:=top 28
abbrev s_q0j:Stmt:=top 29
abbrev s_q0k:Stmt:=top 30
abbrev s_q0l:Stmt:=top 32
abbrev s_q0m:Stmt:=top 33
abbrev s_q0n:Stmt:=top 34
abbrev s_q0o:Stmt:=top 35
abbrev s_q0p:Stmt:=top 36
abbrev s_q0q:Stmt:=top 37
abbrev s_q0r:Stmt:=top 38
abbrev s_q0s:Stmt:=top 39
abbrev s_q0t:Stmt:=inClass (top 17) 0
abbrev s_q0u:Stmt:=inClass (top 17) 1
abbrev s_q0v:Stmt:=inClass (top 17) 2
abbrev s_q0w:Stmt:=inClass (top 17) 3
abbrev s_q0x:Stmt:=inClass (top 17) 4
abbrev s_q0y:Stmt:=inClass (top 17) 5
abbrev s_q0z:Stmt:=inClass (top 17) 6
abbrev s_q10:Stmt:=inClass (top 17) 7
end X1
namespace X1
open PySem L2 PyProof.Rows
abbrev kE (P:Params) (k:String) (t:Nat) (v:Value):DictEntry:=⟨PyData.keyHash P (Str.ofString k),.str (Str.ofString k) t,v⟩
def oF (n q:String) (st:Stmt) (p:String) (t:Nat) (c:Addr):Obj:=⟨.type "function",none,.func (PySem.W.fnOf (Str.ofString n) (Str.ofString q) (defArgs st) (defBody st) (defScope st) .none .none .none (.str (Str.ofString p) t) none (.ref c) .none),#[]⟩
abbrev oS (x:String):Str:=Str.ofString x
def KF:Params→PySem.W.Frag:=fun P=>[(nat_lit 3,(⟨(.type "dict"),none,.dict #[kE P "__name__" 165 (.str (oS "law_crosstable_k06_whole_rests_counted") 522),kE P "__doc__" 166 .none,kE P "__package__" 167 .none,kE P "__loader__" 168 (.builtin "__main__.__loader__#opaque"),kE P "__spec__" 169 .none,kE P "__annotations__" 170 (.ref 6),kE P "__builtins__" 171 (.ref 4),kE P "__file__" 173 (.str (oS "/claim/cut.py") 172),kE P "__cached__" 174 .none,kE P "first_place" 197 (.ref 21),kE P "build_stairs" 207 (.ref 28),kE P "take_in" 218 (.ref 35),kE P "lessen_row" 229 (.ref 42),kE P "lift" 240 (.ref 49),kE P "TableError" 260 (.ref 59),kE P "BadTable" 276 (.ref 72),kE P "BadNumber" 292 (.ref 84),kE P "refuse_no_table" 303 (.ref 93),kE P "copied" 309 (.ref 98),kE P "change_by_row" 315 (.ref 103),kE P "swap_parts" 325 (.ref 110),kE P "column_of" 333 (.ref 115),kE P "Walk" 427 (.ref 179),kE P "brought" 437 (.ref 190),kE P "diagonal" 443 (.ref 195),kE P "diagonal_length" 450 (.ref 202),kE P "build_both_stairs" 457 (.ref 209),kE P "has_number_beside" 468 (.ref 216),kE P "chain" 478 (.ref 223),kE P "link" 487 (.ref 230),kE P "turn_up" 495 (.ref 237),kE P "how_many" 503 (.ref 242),kE P "multiplied" 512 (.ref 249),kE P "greatest_into_both" 521 (.ref 256),kE P "_law_whole" 530 (.ref 263),kE P "_law_at" 538 (.ref 270),kE P "_law_is_table" 549 (.ref 277),kE P "_law_copy" 555 (.ref 282),kE P "_law_scaled" 561 (.ref 287),kE P "_law_table_by" 577 (.ref 294),kE P "_law_tried" 583 (.ref 299),kE P "law" 597 (.ref 306)] 42,#[]⟩:Obj)),
  (nat_lit 20,(⟨(.type "code"),none,.fields #[(.str (oS "first_place") 189),(.str (oS "first_place") 190),(.str (oS "/claim/cut.py") 191),(.int (2) 0),(.int (1) 0),(.int (0) 0),(.int (0) 0),(.int (3) 0),(.ref 15),(.bool true),(.int (181) 0),(.ref 16),.none,(.ref 17),(.ref 18),(.ref 19),(.int (195) 0),(.int (2) 0),(.str (oS "/claim/cut.py") 196)],#[]⟩:Obj)),
  (nat_lit 21,(oF "first_place" "first_place" s_q00 "crosstable.stairs" 187 20:Obj)),
  (nat_lit 27,(⟨(.type "code"),none,.fields #[(.str (oS "build_stairs") 198),(.str (oS "build_stairs") 199),(.str (oS "/claim/cut.py") 200),(.int (7) 0),(.int (1) 0),(.int (0) 0),(.int (0) 0),(.int (3) 0),(.ref 22),(.bool true),(.int (181) 0),(.ref 23),.none,(.ref 24),(.ref 25),(.ref 26),(.int (205) 0),(.int (7) 0),(.str (oS "/claim/cut.py") 206)],#[]⟩:Obj)),
  (nat_lit 28,(oF "build_stairs" "build_stairs" s_q01 "crosstable.stairs" 187 27:Obj)),
  (nat_lit 34,(⟨(.type "code"),none,.fields #[(.str (oS "take_in") 208),(.str (oS "take_in") 209),(.str (oS "/claim/cut.py") 210),(.int (14) 0),(.int (3) 0),(.int (0) 0),(.int (0) 0),(.int (3) 0),(.ref 29),(.bool true),(.int (181) 0),(.ref 30),.none,(.ref 31),(.ref 32),(.ref 33),(.int (216) 0),(.int (14) 0),(.str (oS "/claim/cut.py") 217)],#[]⟩:Obj)),
  (nat_lit 35,(oF "take_in" "take_in" s_q02 "crosstable.stairs" 187 34:Obj)),
  (nat_lit 41,(⟨(.type "code"),none,.fields #[(.str (oS "lessen_row") 219),(.str (oS "lessen_row") 220),(.str (oS "/claim/cut.py") 221),(.int (26) 0),(.int (4) 0),(.int (0) 0),(.int (0) 0),(.int (3) 0),(.ref 36),(.bool true),(.int (181) 0),(.ref 37),.none,(.ref 38),(.ref 39),(.ref 40),(.int (227) 0),(.int (26) 0),(.str (oS "/claim/cut.py") 228)],#[]⟩:Obj)),
  (nat_lit 42,(oF "lessen_row" "lessen_row" s_q03 "crosstable.stairs" 187 41:Obj)),
  (nat_lit 48,(⟨(.type "code"),none,.fields #[(.str (oS "lift") 230),(.str (oS "lift") 231),(.str (oS "/claim/cut.py") 232),(.int (29) 0),(.int (4) 0),(.int (0) 0),(.int (0) 0),(.int (3) 0),(.ref 43),(.bool true),(.int (181) 0),(.ref 44),.none,(.ref 45),(.ref 46),(.ref 47),(.int (238) 0),(.int (29) 0),(.str (oS "/claim/cut.py") 239)],#[]⟩:Obj)),
  (nat_lit 49,(oF "lift" "lift" s_q04 "crosstable.stairs" 187 48:Obj)),
  (nat_lit 92,(⟨(.type "code"),none,.fields #[(.str (oS "refuse_no_table") 295),(.str (oS "refuse_no_table") 296),(.str (oS "/claim/cut.py") 297),(.int (41) 0),(.int (1) 0),(.int (0) 0),(.int (0) 0),(.int (3) 0),(.ref 87),(.bool true),(.int (181) 0),(.ref 88),.none,(.ref 89),(.ref 90),(.ref 91),(.int (301) 0),(.int (41) 0),(.str (oS "/claim/cut.py") 302)],#[]⟩:Obj)),
  (nat_lit 93,(oF "refuse_no_table" "refuse_no_table" s_q05 "crosstable.tables" 293 92:Obj)),
  (nat_lit 97,(⟨(.type "code"),none,.fields #[(.str (oS "copied") 304),(.str (oS "copied") 305),(.str (oS "/claim/cut.py") 306),(.int (50) 0),(.int (1) 0),(.int (0) 0),(.int (0) 0),(.int (3) 0),(.ref 94),(.bool true),(.int (181) 0),(.ref 95),.none,.none,.none,(.ref 96),(.int (307) 0),(.int (50) 0),(.str (oS "/claim/cut.py") 308)],#[]⟩:Obj)),
  (nat_lit 98,(oF "copied" "copied" s_q06 "crosstable.tables" 293 97:Obj)),
  (nat_lit 102,(⟨(.type "code"),none,.fields #[(.str (oS "change_by_row") 310),(.str (oS "change_by_row") 311),(.str (oS "/claim/cut.py") 312),(.int (52) 0),(.int (2) 0),(.int (0) 0),(.int (0) 0),(.int (3) 0),(.ref 99),(.bool true),(.int (181) 0),(.ref 100),.none,.none,.none,(.ref 101),(.int (313) 0),(.int (52) 0),(.str (oS "/claim/cut.py") 314)],#[]⟩:Obj)),
  (nat_lit 103,(oF "change_by_row" "change_by_row" s_q07 "crosstable.tables" 293 102:Obj)),
  (nat_lit 109,(⟨(.type "code"),none,.fields #[(.str (oS "swap_parts") 316),(.str (oS "swap_parts") 317),(.str (oS "/claim/cut.py") 318),(.int (61) 0),(.int (3) 0),(.int (0) 0),(.int (0) 0),(.int (3) 0),(.ref 104),(.bool true),(.int (181) 0),(.ref 105),.none,(.ref 106),(.ref 107),(.ref 108),(.int (323) 0),(.int (61) 0),(.str (oS "/claim/cut.py") 324)],#[]⟩:Obj)),
  (nat_lit 110,(oF "swap_parts" "swap_parts" s_q08 "crosstable.tables" 293 109:Obj)),
  (nat_lit 114,(⟨(.type "code"),none,.fields #[(.str (oS "column_of") 328),(.str (oS "column_of") 329),(.str (oS "/claim/cut.py") 330),(.int (66) 0),(.int (2) 0),(.int (0) 0),(.int (0) 0),(.int (3) 0),(.ref 111),(.bool true),(.int (181) 0),(.ref 112),.none,.none,.none,(.ref 113),(.int (331) 0),(.int (66) 0),(.str (oS "/claim/cut.py") 332)],#[]⟩:Obj)),
  (nat_lit 115,(oF "column_of" "column_of" s_q09 "crosstable.walk" 326 114:Obj)),
  (nat_lit 128,(⟨(.type "code"),none,.fields #[(.str (oS "__init__") 346),(.str (oS "Walk.__init__") 347),(.str (oS "/claim/cut.py") 348),(.int (70) 0),(.int (2) 0),(.int (0) 0),(.int (0) 0),(.int (3) 0),(.ref 123),(.bool true),(.int (181) 0),(.ref 124),.none,(.ref 125),(.ref 126),(.ref 127),(.int (351) 0),(.int (70) 0),(.str (oS "/claim/cut.py") 352)],#[]⟩:Obj)),
  (nat_lit 129,(oF "__init__" "Walk.__init__" s_q0t "crosstable.walk" 326 128:Obj)),
  (nat_lit 133,(⟨(.type "code"),none,.fields #[(.str (oS "tip_over") 354),(.str (oS "Walk.tip_over") 355),(.str (oS "/claim/cut.py") 356),(.int (75) 0),(.int (1) 0),(.int (0) 0),(.int (0) 0),(.int (3) 0),(.ref 130),(.bool true),(.int (181) 0),(.ref 131),.none,.none,.none,(.ref 132),(.int (357) 0),(.int (75) 0),(.str (oS "/claim/cut.py") 358)],#[]⟩:Obj)),
  (nat_lit 134,(oF "tip_over" "Walk.tip_over" s_q0u "crosstable.walk" 326 133:Obj)),
  (nat_lit 140,(⟨(.type "code"),none,.fields #[(.str (oS "make") 360),(.str (oS "Walk.make") 361),(.str (oS "/claim/cut.py") 362),(.int (79) 0),(.int (2) 0),(.int (0) 0),(.int (0) 0),(.int (3) 0),(.ref 135),(.bool true),(.int (181) 0),(.ref 136),.none,(.ref 137),(.ref 138),(.ref 139),(.int (365) 0),(.int (79) 0),(.str (oS "/claim/cut.py") 366)],#[]⟩:Obj)),
  (nat_lit 141,(oF "make" "Walk.make" s_q0v "crosstable.walk" 326 140:Obj)),
  (nat_lit 147,(⟨(.type "code"),none,.fields #[(.str (oS "add_times") 368),(.str (oS "Walk.add_times") 369),(.str (oS "/claim/cut.py") 370),(.int (83) 0),(.int (4) 0),(.int (0) 0),(.int (0) 0),(.int (3) 0),(.ref 142),(.bool true),(.int (181) 0),(.ref 143),.none,(.ref 144),(.ref 145),(.ref 146),(.int (375) 0),(.int (83) 0),(.str (oS "/claim/cut.py") 376)],#[]⟩:Obj)),
  (nat_lit 148,(oF "add_times" "Walk.add_times" s_q0w "crosstable.walk" 326 147:Obj)),
  (nat_lit 154,(⟨(.type "code"),none,.fields #[(.str (oS "swap_rows") 378),(.str (oS "Walk.swap_rows") 379),(.str (oS "/claim/cut.py") 380),(.int (87) 0),(.int (3) 0),(.int (0) 0),(.int (0) 0),(.int (3) 0),(.ref 149),(.bool true),(.int (181) 0),(.ref 150),.none,(.ref 151),(.ref 152),(.ref 153),(.int (384) 0),(.int (87) 0),(.str (oS "/claim/cut.py") 385)],#[]⟩:Obj)),
  (nat_lit 155,(oF "swap_rows" "Walk.swap_rows" s_q0x "crosstable.walk" 326 154:Obj)),
  (nat_lit 161,(⟨(.type "code"),none,.fields #[(.str (oS "turn_row") 387),(.str (oS "Walk.turn_row") 388),(.str (oS "/claim/cut.py") 389),(.int (91) 0),(.int (2) 0),(.int (0) 0),(.int (0) 0),(.int (3) 0),(.ref 156),(.bool true),(.int (181) 0),(.ref 157),.none,(.ref 158),(.ref 159),(.ref 160),(.int (392) 0),(.int (91) 0),(.str (oS "/claim/cut.py") 393)],#[]⟩:Obj)),
  (nat_lit 162,(oF "turn_row" "Walk.turn_row" s_q0y "crosstable.walk" 326 161:Obj)),
  (nat_lit 168,(⟨(.type "code"),none,.fields #[(.str (oS "lessen") 395),(.str (oS "Walk.lessen") 396),(.str (oS "/claim/cut.py") 397),(.int (94) 0),(.int (4) 0),(.int (0) 0),(.int (0) 0),(.int (3) 0),(.ref 163),(.bool true),(.int (181) 0),(.ref 164),.none,(.ref 165),(.ref 166),(.ref 167),(.int (404) 0),(.int (94) 0),(.str (oS "/claim/cut.py") 405)],#[]⟩:Obj)),
  (nat_lit 169,(oF "lessen" "Walk.lessen" s_q0z "crosstable.walk" 326 168:Obj)),
  (nat_lit 175,(⟨(.type "code"),none,.fields #[(.str (oS "meet") 407),(.str (oS "Walk.meet") 408),(.str (oS "/claim/cut.py") 409),(.int (99) 0),(.int (4) 0),(.int (0) 0),(.int (0) 0),(.int (3) 0),(.ref 170),(.bool true),(.int (181) 0),(.ref 171),.none,(.ref 172),(.ref 173),(.ref 174),(.int (414) 0),(.int (99) 0),(.str (oS "/claim/cut.py") 415)],#[]⟩:Obj)),
  (nat_lit 176,(oF "meet" "Walk.meet" s_q10 "crosstable.walk" 326 175:Obj)),
  (nat_lit 178,(⟨(.type "dict"),none,.dict #[kE P "__module__" 341 (.str (oS "crosstable.walk") 326),kE P "__firstlineno__" 345 (.int (68) 344),kE P "__init__" 353 (.ref 129),kE P "tip_over" 359 (.ref 134),kE P "make" 367 (.ref 141),kE P "add_times" 377 (.ref 148),kE P "swap_rows" 386 (.ref 155),kE P "turn_row" 394 (.ref 162),kE P "lessen" 406 (.ref 169),kE P "meet" 416 (.ref 176),kE P "__static_attributes__" 420 (.ref 177),kE P "__dict__" 422 (.ref 180),kE P "__weakref__" 424 (.ref 181),kE P "__doc__" 425 .none] 4,#[]⟩:Obj)),
  (nat_lit 179,({ cls:=Value.type "type",data:=Data.cls { name:=oS "Walk",bases:=[Value.type "object"],mro:=[Value.ref 179,Value.type "object"],ns:=178,qualname:=oS "Walk" },slots:=#[Option.none,Option.none,Option.some (Value.str (oS "Walk") 334),Option.some (Value.str (oS "Walk") 342),Option.some (Value.builtin "object.__new__"),Option.some (Value.bool Bool.true)] }:Obj)),
  (nat_lit 189,(⟨(.type "code"),none,.fields #[(.str (oS "brought") 430),(.str (oS "brought") 431),(.str (oS "/claim/cut.py") 432),(.int (107) 0),(.int (1) 0),(.int (0) 0),(.int (0) 0),(.int (3) 0),(.ref 184),(.bool true),(.int (181) 0),(.ref 185),.none,(.ref 186),(.ref 187),(.ref 188),(.int (435) 0),(.int (107) 0),(.str (oS "/claim/cut.py") 436)],#[]⟩:Obj)),
  (nat_lit 190,(oF "brought" "brought" s_q0a "crosstable.diagonal" 428 189:Obj)),
  (nat_lit 194,(⟨(.type "code"),none,.fields #[(.str (oS "diagonal") 438),(.str (oS "diagonal") 439),(.str (oS "/claim/cut.py") 440),(.int (116) 0),(.int (1) 0),(.int (0) 0),(.int (0) 0),(.int (3) 0),(.ref 191),(.bool true),(.int (181) 0),(.ref 192),.none,.none,.none,(.ref 193),(.int (441) 0),(.int (116) 0),(.str (oS "/claim/cut.py") 442)],#[]⟩:Obj)),
  (nat_lit 195,(oF "diagonal" "diagonal" s_q0b "crosstable.diagonal" 428 194:Obj)),
  (nat_lit 201,(⟨(.type "code"),none,.fields #[(.str (oS "diagonal_length") 444),(.str (oS "diagonal_length") 445),(.str (oS "/claim/cut.py") 446),(.int (119) 0),(.int (1) 0),(.int (0) 0),(.int (0) 0),(.int (3) 0),(.ref 196),(.bool true),(.int (181) 0),(.ref 197),.none,(.ref 198),(.ref 199),(.ref 200),(.int (448) 0),(.int (119) 0),(.str (oS "/claim/cut.py") 449)],#[]⟩:Obj)),
  (nat_lit 202,(oF "diagonal_length" "diagonal_length" s_q0c "crosstable.diagonal" 428 201:Obj)),
  (nat_lit 208,(⟨(.type "code"),none,.fields #[(.str (oS "build_both_stairs") 451),(.str (oS "build_both_stairs") 452),(.str (oS "/claim/cut.py") 453),(.int (121) 0),(.int (1) 0),(.int (0) 0),(.int (0) 0),(.int (3) 0),(.ref 203),(.bool true),(.int (181) 0),(.ref 204),.none,(.ref 205),(.ref 206),(.ref 207),(.int (455) 0),(.int (121) 0),(.str (oS "/claim/cut.py") 456)],#[]⟩:Obj)),
  (nat_lit 209,(oF "build_both_stairs" "build_both_stairs" s_q0d "crosstable.diagonal" 428 208:Obj)),
  (nat_lit 215,(⟨(.type "code"),none,.fields #[(.str (oS "has_number_beside") 458),(.str (oS "has_number_beside") 459),(.str (oS "/claim/cut.py") 460),(.int (126) 0),(.int (1) 0),(.int (0) 0),(.int (0) 0),(.int (3) 0),(.ref 210),(.bool true),(.int (181) 0),(.ref 211),.none,(.ref 212),(.ref 213),(.ref 214),(.int (466) 0),(.int (126) 0),(.str (oS "/claim/cut.py") 467)],#[]⟩:Obj)),
  (nat_lit 216,(oF "has_number_beside" "has_number_beside" s_q0e "crosstable.diagonal" 428 215:Obj)),
  (nat_lit 222,(⟨(.type "code"),none,.fields #[(.str (oS "chain") 469),(.str (oS "chain") 470),(.str (oS "/claim/cut.py") 471),(.int (132) 0),(.int (1) 0),(.int (0) 0),(.int (0) 0),(.int (3) 0),(.ref 217),(.bool true),(.int (181) 0),(.ref 218),.none,(.ref 219),(.ref 220),(.ref 221),(.int (476) 0),(.int (132) 0),(.str (oS "/claim/cut.py") 477)],#[]⟩:Obj)),
  (nat_lit 223,(oF "chain" "chain" s_q0f "crosstable.diagonal" 428 222:Obj)),
  (nat_lit 229,(⟨(.type "code"),none,.fields #[(.str (oS "link") 479),(.str (oS "link") 480),(.str (oS "/claim/cut.py") 481),(.int (138) 0),(.int (3) 0),(.int (0) 0),(.int (0) 0),(.int (3) 0),(.ref 224),(.bool true),(.int (181) 0),(.ref 225),.none,(.ref 226),(.ref 227),(.ref 228),(.int (485) 0),(.int (138) 0),(.str (oS "/claim/cut.py") 486)],#[]⟩:Obj)),
  (nat_lit 230,(oF "link" "link" s_q0g "crosstable.diagonal" 428 229:Obj)),
  (nat_lit 236,(⟨(.type "code"),none,.fields #[(.str (oS "turn_up") 488),(.str (oS "turn_up") 489),(.str (oS "/claim/cut.py") 490),(.int (144) 0),(.int (1) 0),(.int (0) 0),(.int (0) 0),(.int (3) 0),(.ref 231),(.bool true),(.int (181) 0),(.ref 232),.none,(.ref 233),(.ref 234),(.ref 235),(.int (493) 0),(.int (144) 0),(.str (oS "/claim/cut.py") 494)],#[]⟩:Obj)),
  (nat_lit 237,(oF "turn_up" "turn_up" s_q0h "crosstable.diagonal" 428 236:Obj)),
  (nat_lit 241,(⟨(.type "code"),none,.fields #[(.str (oS "how_many") 498),(.str (oS "how_many") 499),(.str (oS "/claim/cut.py") 500),(.int (149) 0),(.int (2) 0),(.int (0) 0),(.int (0) 0),(.int (3) 0),(.ref 238),(.bool true),(.int (181) 0),(.ref 239),.none,.none,.none,(.ref 240),(.int (501) 0),(.int (149) 0),(.str (oS "/claim/cut.py") 502)],#[]⟩:Obj)),
  (nat_lit 242,(oF "how_many" "how_many" s_q0i "crosstable.sums" 496 241:Obj)),
  (nat_lit 248,(⟨(.type "code"),none,.fields #[(.str (oS "multiplied") 504),(.str (oS "multiplied") 505),(.str (oS "/claim/cut.py") 506),(.int (154) 0),(.int (1) 0),(.int (0) 0),(.int (0) 0),(.int (3) 0),(.ref 243),(.bool true),(.int (181) 0),(.ref 244),.none,(.ref 245),(.ref 246),(.ref 247),(.int (510) 0),(.int (154) 0),(.str (oS "/claim/cut.py") 511)],#[]⟩:Obj)),
  (nat_lit 249,(oF "multiplied" "multiplied" s_q0j "crosstable.sums" 496 248:Obj)),
  (nat_lit 255,(⟨(.type "code"),none,.fields #[(.str (oS "greatest_into_both") 513),(.str (oS "greatest_into_both") 514),(.str (oS "/claim/cut.py") 515),(.int (159) 0),(.int (2) 0),(.int (0) 0),(.int (0) 0),(.int (3) 0),(.ref 250),(.bool true),(.int (181) 0),(.ref 251),.none,(.ref 252),(.ref 253),(.ref 254),(.int (519) 0),(.int (159) 0),(.str (oS "/claim/cut.py") 520)],#[]⟩:Obj)),
  (nat_lit 256,(oF "greatest_into_both" "greatest_into_both" s_q0k "crosstable.sums" 496 255:Obj)),
  (nat_lit 262,(⟨(.type "code"),none,.fields #[(.str (oS "_law_whole") 524),(.str (oS "_law_whole") 525),(.str (oS "/claim/cut.py") 526),(.int (166) 0),(.int (1) 0),(.int (0) 0),(.int (0) 0),(.int (3) 0),(.ref 257),(.bool true),(.int (181) 0),(.ref 258),.none,(.ref 259),(.ref 260),(.ref 261),(.int (528) 0),(.int (166) 0),(.str (oS "/claim/cut.py") 529)],#[]⟩:Obj)),
  (nat_lit 263,(oF "_law_whole" "_law_whole" s_q0l "law_crosstable_k06_whole_rests_counted" 522 262:Obj)),
  (nat_lit 269,(⟨(.type "code"),none,.fields #[(.str (oS "_law_at") 531),(.str (oS "_law_at") 532),(.str (oS "/claim/cut.py") 533),(.int (168) 0),(.int (2) 0),(.int (0) 0),(.int (0) 0),(.int (3) 0),(.ref 264),(.bool true),(.int (181) 0),(.ref 265),.none,(.ref 266),(.ref 267),(.ref 268),(.int (536) 0),(.int (168) 0),(.str (oS "/claim/cut.py") 537)],#[]⟩:Obj)),
  (nat_lit 270,(oF "_law_at" "_law_at" s_q0m "law_crosstable_k06_whole_rests_counted" 522 269:Obj)),
  (nat_lit 276,(⟨(.type "code"),none,.fields #[(.str (oS "_law_is_table") 539),(.str (oS "_law_is_table") 540),(.str (oS "/claim/cut.py") 541),(.int (172) 0),(.int (3) 0),(.int (0) 0),(.int (0) 0),(.int (3) 0),(.ref 271),(.bool true),(.int (181) 0),(.ref 272),.none,(.ref 273),(.ref 274),(.ref 275),(.int (547) 0),(.int (172) 0),(.str (oS "/claim/cut.py") 548)],#[]⟩:Obj)),
  (nat_lit 277,(oF "_law_is_table" "_law_is_table" s_q0n "law_crosstable_k06_whole_rests_counted" 522 276:Obj)),
  (nat_lit 281,(⟨(.type "code"),none,.fields #[(.str (oS "_law_copy") 550),(.str (oS "_law_copy") 551),(.str (oS "/claim/cut.py") 552),(.int (182) 0),(.int (1) 0),(.int (0) 0),(.int (0) 0),(.int (3) 0),(.ref 278),(.bool true),(.int (181) 0),(.ref 279),.none,.none,.none,(.ref 280),(.int (553) 0),(.int (182) 0),(.str (oS "/claim/cut.py") 554)],#[]⟩:Obj)),
  (nat_lit 282,(oF "_law_copy" "_law_copy" s_q0o "law_crosstable_k06_whole_rests_counted" 522 281:Obj)),
  (nat_lit 286,(⟨(.type "code"),none,.fields #[(.str (oS "_law_scaled") 556),(.str (oS "_law_scaled") 557),(.str (oS "/claim/cut.py") 558),(.int (184) 0),(.int (2) 0),(.int (0) 0),(.int (0) 0),(.int (3) 0),(.ref 283),(.bool true),(.int (181) 0),(.ref 284),.none,.none,.none,(.ref 285),(.int (559) 0),(.int (184) 0),(.str (oS "/claim/cut.py") 560)],#[]⟩:Obj)),
  (nat_lit 287,(oF "_law_scaled" "_law_scaled" s_q0p "law_crosstable_k06_whole_rests_counted" 522 286:Obj)),
  (nat_lit 293,(⟨(.type "code"),none,.fields #[(.str (oS "_law_table_by") 562),(.str (oS "_law_table_by") 563),(.str (oS "/claim/cut.py") 564),(.int (186) 0),(.int (4) 0),(.int (0) 0),(.int (0) 0),(.int (3) 0),(.ref 288),(.bool true),(.int (181) 0),(.ref 289),.none,(.ref 290),(.ref 291),(.ref 292),(.int (575) 0),(.int (186) 0),(.str (oS "/claim/cut.py") 576)],#[]⟩:Obj)),
  (nat_lit 294,(oF "_law_table_by" "_law_table_by" s_q0q "law_crosstable_k06_whole_rests_counted" 522 293:Obj)),
  (nat_lit 298,(⟨(.type "code"),none,.fields #[(.str (oS "_law_tried") 578),(.str (oS "_law_tried") 579),(.str (oS "/claim/cut.py") 580),(.int (198) 0),(.int (2) 0),(.int (0) 0),(.int (0) 0),(.int (3) 0),(.ref 295),(.bool true),(.int (181) 0),(.ref 296),.none,.none,.none,(.ref 297),(.int (581) 0),(.int (198) 0),(.str (oS "/claim/cut.py") 582)],#[]⟩:Obj)),
  (nat_lit 299,(oF "_law_tried" "_law_tried" s_q0r "law_crosstable_k06_whole_rests_counted" 522 298:Obj)),
  (nat_lit 305,(⟨(.type "code"),none,.fields #[(.str (oS "law") 584),(.str (oS "law") 585),(.str (oS "/claim/cut.py") 586),(.int (209) 0),(.int (1) 0),(.int (0) 0),(.int (0) 0),(.int (3) 0),(.ref 300),(.bool true),(.int (181) 0),(.ref 301),.none,(.ref 302),(.ref 303),(.ref 304),(.int (595) 0),(.int (209) 0),(.str (oS "/claim/cut.py") 596)],#[]⟩:Obj)),
  (nat_lit 306,(oF "law" "law" s_q0s "law_crosstable_k06_whole_rests_counted" 522 305:Obj))]
def asF:List Addr:=[3,20,21,27,28,34,35,41,42,48,49,92,93,97,98,102,103,109,110,114,115,128,129,133,134,140,141,147,148,154,155,161,162,168,169,175,176,178,179,189,190,194,195,201,202,208,209,215,216,222,223,229,230,236,237,241,242,248,249,255,256,262,263,269,270,276,277,281,282,286,287,293,294,298,299,305,306]
theorem as_ok:∀P,asF=(KF P).map (·.1):=fun _=>by kernel_rfl
def HK:PySem.W.Hook:=PySem.W.kHook KF asF as_ok
def qv:Program:={ PySem.Challenge.pw_crosstable_k06_whole_rests_counted with main:={ PySem.Challenge.pw_crosstable_k06_whole_rests_counted.main with body:=[top 1,top 2,top 3,top 4,top 5,top 7,top 8,top 9,top 11,top 12,top 13,top 14,top 16,top 17,top 19,top 20,top 21,top 22,top 23,top 24,top 25,top 26,top 28,top 29,top 30,top 32,top 33,top 34,top 35,top 36,top 37,top 38,top 39] } }
def XtL:Shared→Bool:=fun s=>PySem.W.xlAt qv [] s&&PySem.W.recOk (PySem.W.RowW.records (PySem.W.OpenRow.toRowW PySem.Challenge.rw_crosstable_k06_whole_rests_counted.row)) s
def defPos (s:Stmt):Pos:=match s with | .FunctionDef _ _ _ _ _ _ _ _ _ p=>p | _=>⟨0,0,0,0⟩
def lawRec:DefRec:=⟨"law",defArgs s_q0s,defBody s_q0s,defScope s_q0s,defPos s_q0s⟩
def NL:Nat:=4132
theorem saidL:PySem.Challenge.rw_crosstable_k06_whole_rests_counted.wellSaid=true:=by kernel_rfl
theorem bareL:PySem.Challenge.rw_crosstable_k06_whole_rests_counted.row.prog.bare:=⟨rfl,rfl,rfl,rfl,rfl,by decide +kernel⟩
theorem seen_x {q:Program} {l M:List Str} {X:Shared→Bool} {g:Bool} {s:Shared} (h:X s=true):PySem.W.openSeen q l M X g s=PySem.W.openSeen q l M (fun _=>true) g s:=by
  simp only [PySem.W.openSeen,h]
theorem left_of {α:Type} {q:Program} {l M:List Str} {X:Shared→Bool} {g:Bool} {o:Option Shared} {Y:Shared→α} {y:α} {v1 v2 v3 v4 v5}
    (a:o.map (fun s=>((PySem.W.openSeen q l M (fun _=>true) g s).1,(PySem.W.openSeen q l M (fun _=>true) g s).2.1))=some (v1,v2)) (b:o.map (fun s=>(PySem.W.openSeen q l M (fun _=>true) g s).2.2.1)=some v3)
    (c:o.map (fun s=>(PySem.W.openSeen q l M (fun _=>true) g s).2.2.2.1)=some v4) (d:o.map (fun s=>(PySem.W.openSeen q l M (fun _=>true) g s).2.2.2.2)=some v5) (e:o.map (fun s=>(X s,Y s))=some (true,y)) :
    o.map (fun s=>(PySem.W.openSeen q l M X g s,Y s))=some ((v1,v2,v3,v4,v5),y):=by
  cases o with
  | none=>cases a
  | some s =>
    obtain ⟨ex,ey⟩:=Prod.mk.inj (Option.some.inj e)
    obtain ⟨a1,a2⟩:=Prod.mk.inj (Option.some.inj a)
    have b:=Option.some.inj b
    have c:=Option.some.inj c
    have d:=Option.some.inj d
    show some (PySem.W.openSeen q l M X g s,Y s)=_
    rw [seen_x ex,ey,←a1,←a2,←b,←c,←d]
open PySem.W in
set_option maxHeartbeats 0 in
theorem leftA (w:World):(PySem.W.openEnds treeTable PySem.Challenge.rw_crosstable_k06_whole_rests_counted.row.prog w NL).map (fun s=>((PySem.W.openSeen qv [] (importedModules PySem.Challenge.rw_crosstable_k06_whole_rests_counted.row.prog.main.body) (fun _=>true) true s).1,(PySem.W.openSeen qv [] (importedModules PySem.Challenge.rw_crosstable_k06_whole_rests_counted.row.prog.main.body) (fun _=>true) true s).2.1))=some (expectedOf qv,bltViewBooted):=by kernel_rfl
open PySem.W in
set_option maxHeartbeats 0 in
theorem leftB (w:World):(PySem.W.openEnds treeTable PySem.Challenge.rw_crosstable_k06_whole_rests_counted.row.prog w NL).map (fun s=>(PySem.W.openSeen qv [] (importedModules PySem.Challenge.rw_crosstable_k06_whole_rests_counted.row.prog.main.body) (fun _=>true) true s).2.2.1)=some true:=by kernel_rfl
open PySem.W in
set_option maxHeartbeats 0 in
theorem leftC (w:World):(PySem.W.openEnds treeTable PySem.Challenge.rw_crosstable_k06_whole_rests_counted.row.prog w NL).map (fun s=>(PySem.W.openSeen qv [] (importedModules PySem.Challenge.rw_crosstable_k06_whole_rests_counted.row.prog.main.body) (fun _=>true) true s).2.2.2.1)=some true:=by kernel_rfl
open PySem.W in
set_option maxHeartbeats 0 in
theorem leftD (w:World):(PySem.W.openEnds treeTable PySem.Challenge.rw_crosstable_k06_whole_rests_counted.row.prog w NL).map (fun s=>(PySem.W.openSeen qv [] (importedModules PySem.Challenge.rw_crosstable_k06_whole_rests_counted.row.prog.main.body) (fun _=>true) true s).2.2.2.2)=some (pinGoodD (drecsOf qv),plainGoodE qv (looseW qv []),plainGoodD qv [],wideGood qv,clsGoodW qv []):=by kernel_rfl
open PySem.W in
set_option maxHeartbeats 0 in
theorem leftE (w:World):(PySem.W.openEnds treeTable PySem.Challenge.rw_crosstable_k06_whole_rests_counted.row.prog w NL).map (fun s=>(XtL s,PySem.W.Hook.obs HK s))=some (true,PySem.W.Hook.val HK w):=by kernel_rfl
theorem leftL:PySem.W.LeftO PySem.Challenge.rw_crosstable_k06_whole_rests_counted.row.prog qv [] XtL (PySem.W.Hook.obs HK) (PySem.W.Hook.val HK) NL:=fun w=>left_of (leftA w) (leftB w) (leftC w) (leftD w) (leftE w)
end X1
set_option Elab.async false
set_option linter.all false
set_option maxRecDepth 100000
namespace L2
open PySem PySem.Spec PyProof.Rows
abbrev Key:=Sum Int Str
def keyIs:Key→Value→Bool
  | .inl k,v=>Value.isInt k v
  | .inr x,v=>Value.isStrOf x v
def keyH (w:World):Key→Int
  | .inl k=>hashInt k
  | .inr x=>hashStr w x
theorem keyIs_shape:∀{k:Key} {v:Value},keyIs k v=true→(∃i t,k=Sum.inl i∧v=Value.int i t)∨(∃x t,k=Sum.inr x∧v=Value.str x t)
  | .inl i,v,h=>by
    obtain ⟨t,e⟩:=Value.isInt_shape (k:=i) (v:=v) h
    exact .inl ⟨i,t,rfl,e⟩
  | .inr x,v,h=>by
    obtain ⟨t,e⟩:=Value.isStrOf_shape (x:=x) (v:=v) h
    exact .inr ⟨x,t,rfl,e⟩
theorem keyIs_int (i:Int) (t:Tok):keyIs (.inl i) (.int i t)=true:=by simp [keyIs,Value.isInt]
theorem keyIs_str (x:Str) (t:Tok):keyIs (.inr x) (.str x t)=true:=by simp [keyIs,Value.isStrOf]
theorem key_ll (a b:Int):decide ((Sum.inl a:Key)=Sum.inl b)=(a == b):=by
  by_cases e:a=b
  · subst e;simp
  · have h:¬ (Sum.inl a:Key)=Sum.inl b:=fun q=>e (Sum.inl.inj q)
    rw [decide_eq_false h]
    exact (beq_eq_false_iff_ne.mpr e).symm
theorem key_rr (a b:Str):decide ((Sum.inr a:Key)=Sum.inr b)=decide (a=b):=by
  by_cases e:a=b
  · subst e;simp
  · have h:¬ (Sum.inr a:Key)=Sum.inr b:=fun q=>e (Sum.inr.inj q)
    rw [decide_eq_false h,decide_eq_false e]
theorem key_lr (a:Int) (b:Str):decide ((Sum.inl a:Key)=Sum.inr b)=false:=decide_eq_false (fun q=>nomatch q)
theorem key_rl (a:Str) (b:Int):decide ((Sum.inr a:Key)=Sum.inl b)=false:=decide_eq_false (fun q=>nomatch q)
def mixKind (prog:Program) (w:World):PySem.KeyKind prog w Key where
  is:=keyIs
  hash:=keyH w
  inj:=fun v a b ha hb=>by
    rcases keyIs_shape ha with ⟨i,t,rfl,rfl⟩ | ⟨x,t,rfl,rfl⟩
    · rcases keyIs_shape hb with ⟨j,u,rfl,e⟩ | ⟨y,u,rfl,e⟩
      · injection e with e1 _;rw [e1]
      · exact nomatch e
    · rcases keyIs_shape hb with ⟨j,u,rfl,e⟩ | ⟨y,u,rfl,e⟩
      · exact nomatch e
      · injection e with e1 _;rw [e1]
  byValue:=fun k v h=>by
    rcases keyIs_shape h with ⟨i,t,rfl,rfl⟩ | ⟨x,t,rfl,rfl⟩ <;> rfl
  pyHash:=fun hv h=>by
    rcases keyIs_shape hv with ⟨i,t,rfl,rfl⟩ | ⟨x,t,rfl,rfl⟩
    · exact wpAny_pyHash_int h
    · exact wpAny_pyHash_str h
  eqBool:=fun hu hv h=>by
    rcases keyIs_shape hu with ⟨i,t,rfl,rfl⟩ | ⟨x,t,rfl,rfl⟩
    · rcases keyIs_shape hv with ⟨j,u,rfl,rfl⟩ | ⟨y,u,rfl,rfl⟩
      · rw [key_ll] at h;exact wpAny_eqBool_int h
      · rw [key_lr] at h;exact SeqAt.EqAt.int_str i t y u _ _ _ _ h
    · rcases keyIs_shape hv with ⟨j,u,rfl,rfl⟩ | ⟨y,u,rfl,rfl⟩
      · rw [key_rl] at h;exact SeqAt.EqAt.str_int x t j u _ _ _ _ h
      · rw [key_rr] at h;exact wpAny_eqBool_str h
  «strs»:=fun k x t v h=>by
    rcases keyIs_shape h with ⟨i,u,rfl,e⟩ | ⟨y,u,rfl,e⟩
    · exact nomatch e
    · injection e with e1 _
      subst e1
      cases v <;> rfl
theorem mixKind_int (prog:Program) (w:World) (i:Int) (t:Tok):(mixKind prog w).is (.inl i) (.int i t)=true:=keyIs_int i t
theorem mixKind_str (prog:Program) (w:World) (x:Str) (t:Tok):(mixKind prog w).is (.inr x) (.str x t)=true:=keyIs_str x t
end L2
namespace L2
open PySem PySem.Spec PyProof.Rows
inductive V where
  | non | bl (b:Bool) | int (i:Int) | str (x:Str) | byt (b:Array UInt8) | flt (b:UInt64) | ref (a:Addr) | ty (n:String)
  deriving DecidableEq
def RelV:V→Value→Prop
  | .non,u=>u=Value.none
  | .bl b,u=>u=Value.bool b
  | .int i,u=>∃t,u=Value.int i t
  | .str x,u=>∃t,u=Value.str x t
  | .byt b,u=>∃t,u=Value.bytes b t
  | .flt b,u=>∃t,u=Value.float b t
  | .ref a,u=>u=Value.ref a
  | .ty n,u=>u=Value.type n
abbrev Vals:List V→List Value→Prop:=Paired RelV
theorem Vals.length {xs:List V} {us:List Value} (r:Vals xs us):xs.length=us.length:=Paired.length r
theorem Vals.get:∀{xs:List V} {us:List Value} {i:Nat} {x:V},Vals xs us→xs[i]?=some x→∃u,us[i]?=some u∧RelV x u
  | _,_,_,_,.nil,e=>by simp at e
  | _,_,0,_,.cons r _,e=>by simp at e;subst e;exact ⟨_,rfl,r⟩
  | _,_,i+1,x,.cons _ t,e=>by
    obtain ⟨u,h1,h2⟩:=Vals.get (i:=i) (x:=x) t (by simpa using e)
    exact ⟨u,by simpa using h1,h2⟩
theorem Vals.set {x:V} {u:Value} (r:RelV x u):∀{xs:List V} {us:List Value} (i:Nat),Vals xs us→Vals (xs.set i x) (us.set i u)
  | _,_,_,.nil=>.nil
  | _,_,0,.cons _ t=>.cons r t
  | _,_,i+1,.cons q t=>.cons q (Vals.set r i t)
theorem Vals.append:∀{xs ys:List V} {us ws:List Value},Vals xs us→Vals ys ws→Vals (xs++ys) (us++ws)
  | _,_,_,_,.nil,s=>s
  | _,_,_,_,.cons r t,s=>.cons r (Vals.append t s)
theorem Vals.take:∀{xs:List V} {us:List Value} (n:Nat),Vals xs us→Vals (xs.take n) (us.take n)
  | _,_,0,_=>.nil
  | _,_,_+1,.nil=>.nil
  | _,_,n+1,.cons r t=>.cons r (Vals.take n t)
theorem Vals.drop:∀{xs:List V} {us:List Value} (n:Nat),Vals xs us→Vals (xs.drop n) (us.drop n)
  | _,_,0,r=>r
  | _,_,_+1,.nil=>.nil
  | _,_,n+1,.cons _ t=>Vals.drop n t
theorem Vals.none_of:∀{xs:List V} {us:List Value} {i:Nat},Vals xs us→xs[i]?=none→us[i]?=none:=fun {xs us i} r e=>by
  have h1:=r.length
  have h2:xs.length≤i:=List.getElem?_eq_none_iff.mp e
  exact List.getElem?_eq_none_iff.mpr (by omega)
def RelO:Option V→Option Value→Prop
  | some v,some u=>RelV v u
  | none,none=>True
  | _,_=>False
def KV {κ:Type}:List (κ×V)→List (κ×Value)→Prop:=Paired fun (p:κ×V) (q:κ×Value)=>p.1=q.1∧RelV p.2 q.2
def kV:Key→V
  | .inl i=>.int i
  | .inr x=>.str x
inductive HO where
  | lst (xs:List V)
  | tup (xs:List V)
  | dK (kvs:List (Key×V)) | dT (kvs:List (List Key×V))
  | set (S:Int→Bool) (n:Nat)
  | ins (C dx:Addr) (fs:List (Str×V))
  | own (x:Addr)
  | xd (fs:List (Str×V))
  | met (f x:Addr)
  | rng (lo hi:Int)
  | frz (o:Obj) (u:HO)
  | tbl (ps:Array Value)
  | ext (φ:Heap→Prop)
abbrev Hp:=Addr→Option HO
def upd (H:Hp) (a:Addr) (o:HO):Hp:=fun b=>if b=a then some o else H b
theorem upd_same {H:Hp} {a:Addr} {o:HO}:upd H a o a=some o:=by unfold upd;rw [if_pos rfl]
theorem upd_ne {H:Hp} {a b:Addr} {o:HO} (h:b≠a):upd H a o b=H b:=by unfold upd;rw [if_neg h]
theorem upd_upd {H:Hp} {a:Addr} {o u:HO}:upd (upd H a o) a u=upd H a u:=by
  funext b;unfold upd;split <;> rfl
theorem ne_of {H:Hp} {a b:Addr} {o u:HO} (h:H a=some o) (h':H b=some u) (d:o≠u):a≠b:=by
  intro e;subst e;rw [h] at h';exact d (Option.some.inj h')
theorem ne_of_none {H:Hp} {a b:Addr} {o:HO} (h:H a=some o) (h':H b=none):a≠b:=by
  intro e;subst e;rw [h] at h';cases h'
section
variable (P:Program) (w:World)
def ObjOk (H:Hp) (h:Heap) (a:Addr):HO→Prop
  | .lst xs=>xs.length≤sizeLine∧∃(its:List Value) (n:Nat),Vals xs its∧h.get? a=some { cls:=.type "list",data:=.seq its.toArray n }
  | .tup xs=>xs.length≤sizeLine∧∃its:List Value,Vals xs its∧IsTup h a its.toArray
  | .dK kvs=>kvs.length≤sizeLine∧(a == sysModules)=false∧∃vs,KV kvs vs∧h.DictOf (mixKind P w) a vs
  | .dT kvs=>kvs.length≤sizeLine∧(a == sysModules)=false∧∃xs:List (List Key×Addr×Value),
      Paired (fun (p:List Key×V) (q:List Key×Addr×Value)=>p.1=q.1∧H q.2.1=some (.tup (p.1.map kV))∧RelV p.2 q.2.2) kvs xs ∧
      ∃o es ep,h.get? a=some o∧o.ExactDict∧o.data=.dict es ep∧es.toList=xs.map (entryOfKey (tupleKind (mixKind P w)))∧(xs.map (·.1)).Nodup
  | .set S n=>h.SetOf (intKind P w) a S n
  | .ins C dx fs=>H dx=some (.own a)∧fs.length≤1000∧dx≠a∧h.get? a=some (PySem.W.instObj C dx) ∧
      ∃mA,h.Ns1 dx mA∧(∀f,RelO (fs.lookup f) (mA f))∧PySem.Within mA (fs.map (·.1))
  | .own _=>∃o,h.get? a=some o
  | .xd fs=>∃mA,h.Ns1 a mA∧∀f,RelO (fs.lookup f) (mA f)
  | .rng lo hi=>∃t u v,h.get? a=some { cls:=.type "range",data:=.fields #[.int lo t,.int hi u,.int 1 v] }
  | .frz o u=>h.get? a=some o∧ObjOk H h a u
  | .tbl ps=>h.get? a=some { cls:=.none,data:=.fields ps }
  | .met f x=>h.get? a=some (PySem.W.methodObj (.ref f) (.ref x))
  | .ext φ=>φ h∧(∃o,h.get? a=some o)∧∀h1 h2:Heap,φ h1→(∀o,h1.get? a=some o→h2.get? a=some o)→φ h2
def HOk (H:Hp) (h:Heap):Prop:=∀a o,H a=some o→ObjOk P w H h a o
end
section
variable {P:Program} {w:World} {H H':Hp} {h h':Heap} {a:Addr} {o:HO}
theorem ObjOk.lt (x:ObjOk P w H h a o):a<h.objs.size:=by
  cases o with
  | lst xs=>obtain ⟨_,_,_,_,e⟩:=x;exact Heap.lt_size e
  | tup xs=>obtain ⟨_,_,_,p⟩:=x;exact p.lt
  | dK kvs=>obtain ⟨_,_,_,_,o,_,_,e,_⟩:=x;exact Heap.lt_size e
  | dT kvs=>obtain ⟨_,_,_,_,o,_,_,e,_⟩:=x;exact Heap.lt_size e
  | set S n=>obtain ⟨o,_,_,_,e,_⟩:=x;exact Heap.lt_size e
  | ins C dx fs=>obtain ⟨_,_,_,e,_⟩:=x;exact Heap.lt_size e
  | own y=>obtain ⟨_,e⟩:=x;exact Heap.lt_size e
  | xd fs=>obtain ⟨_,⟨_,_,_,e,_⟩,_⟩:=x;exact Heap.lt_size e
  | rng lo hi=>obtain ⟨_,_,_,e⟩:=x;exact Heap.lt_size e
  | frz ob u=>obtain ⟨e,_⟩:=x;exact Heap.lt_size e
  | tbl ps=>exact Heap.lt_size (show h.get? a=some _ from x)
  | met f y=>exact Heap.lt_size (show h.get? a=some _ from x)
  | ext φ=>obtain ⟨_,⟨_,e⟩,_⟩:=x;exact Heap.lt_size e
theorem Paired.mapP {α β:Type} {F G:α→β→Prop}:∀{l₁:List α} {l₂:List β},Paired F l₁ l₂→(∀a b,F a b→G a b)→Paired G l₁ l₂
  | _,_,.nil,_=>.nil
  | _,_,.cons r t,f=>.cons (f _ _ r) (Paired.mapP t f)
theorem ObjOk.stay (x:ObjOk P w H h a o) (k:∀b u,(b=a∨H b=some (.own a))→h.get? b=some u→h'.get? b=some u)
    (ho:∀b,H b=some (.own a)→H' b=some (.own a)) (ht:∀b xs,H b=some (.tup xs)→H' b=some (.tup xs)):ObjOk P w H' h' a o:=by
  induction o with
  | lst xs=>obtain ⟨z,its,n,r,e⟩:=x;exact ⟨z,its,n,r,k _ _ (.inl rfl) e⟩
  | tup xs=>obtain ⟨z,its,r,ob,e,c⟩:=x;exact ⟨z,its,r,ob,k _ _ (.inl rfl) e,c⟩
  | dK kvs=>obtain ⟨z,y,vs,r,ob,es,ep,e,c⟩:=x;exact ⟨z,y,vs,r,ob,es,ep,k _ _ (.inl rfl) e,c⟩
  | dT kvs =>
    obtain ⟨z,y,xs,r,ob,es,ep,e,c⟩:=x
    exact ⟨z,y,xs,Paired.mapP r fun p q z=>⟨z.1,ht _ _ z.2.1,z.2.2⟩,ob,es,ep,k _ _ (.inl rfl) e,c⟩
  | set S n=>obtain ⟨ob,es,ep,t,e,c⟩:=x;exact ⟨ob,es,ep,t,k _ _ (.inl rfl) e,c⟩
  | ins C dx fs =>
    obtain ⟨d,z,ne,e,mA,⟨od,es,ep,e2,c⟩,r⟩:=x
    exact ⟨ho _ d,z,ne,k _ _ (.inl rfl) e,mA,⟨od,es,ep,k _ _ (.inr d) e2,c⟩,r⟩
  | own y=>obtain ⟨ob,e⟩:=x;exact ⟨ob,k _ _ (.inl rfl) e⟩
  | xd fs=>obtain ⟨mA,⟨od,es,ep,e,c⟩,r⟩:=x;exact ⟨mA,⟨od,es,ep,k _ _ (.inl rfl) e,c⟩,r⟩
  | rng lo hi=>obtain ⟨t,u,v,e⟩:=x;exact ⟨t,u,v,k _ _ (.inl rfl) e⟩
  | frz ob u ih=>obtain ⟨e,q⟩:=x;exact ⟨k _ _ (.inl rfl) e,ih q⟩
  | tbl ps =>
    have e:h.get? a=some { cls:=.none,data:=.fields ps }:=x
    show h'.get? a=some { cls:=.none,data:=.fields ps }
    exact k a _ (.inl rfl) e
  | met f y =>
    have e:h.get? a=some (PySem.W.methodObj (.ref f) (.ref y)):=x
    show h'.get? a=some (PySem.W.methodObj (.ref f) (.ref y))
    exact k a _ (.inl rfl) e
  | ext φ=>obtain ⟨p,⟨o,e⟩,st⟩:=x;exact ⟨st _ _ p fun o q=>k _ _ (.inl rfl) q,⟨o,k _ _ (.inl rfl) e⟩,st⟩
theorem HOk.lt (x:HOk P w H h) (e:H a=some o):a<h.objs.size:=(x a o e).lt
theorem HOk.fresh (x:HOk P w H h) (e:h.objs.size≤a):H a=none:=by
  cases q:H a with
  | none=>rfl
  | some u=>exact absurd (Nat.lt_of_lt_of_le (x.lt q) e) (Nat.lt_irrefl _)
theorem HOk.kept (x:HOk P w H h) (k:∀b u,h.get? b=some u→h'.get? b=some u):HOk P w H h':=fun a o e =>
  (x a o e).stay (fun b u _ q=>k b u q) (fun _ q=>q) fun _ _ q=>q
theorem HOk.laid (x:HOk P w H h) (k:∀b u,h.get? b=some u→h'.get? b=some u) (hp:h.objs.size≤a) (new:ObjOk P w (upd H a o) h' a o):HOk P w (upd H a o) h':=fun b u e=>by
  have hn:=x.fresh hp
  by_cases hb:b=a
  · subst hb;rw [upd_same] at e;cases e;exact new
  · rw [upd_ne hb] at e
    exact (x b u e).stay (fun c v _ q=>k c v q) (fun c q=>by rw [upd_ne (ne_of_none q hn)];exact q) fun c xs q=>by rw [upd_ne (ne_of_none q hn)];exact q
end
def Rd (H:Hp) (a:Addr) (u:HO):Prop:=H a=some u∨∃o,H a=some (.frz o u)
theorem Rd.of {H:Hp} {a:Addr} {u:HO} (h:H a=some u):Rd H a u:=.inl h
theorem Rd.ok {P:Program} {w:World} {H:Hp} {h:Heap} {a:Addr} {u:HO} (r:Rd H a u) (x:HOk P w H h):ObjOk P w H h a u:=by
  rcases r with r | ⟨o,r⟩
  · exact x a u r
  · obtain ⟨_,q⟩:=x a _ r
    exact q
def Mut:Option HO→Prop
  | some (.lst _)=>True
  | some (.dK _)=>True
  | some (.dT _)=>True
  | some (.set _ _)=>True
  | some (.ins _ _ _)=>True
  | some (.ext _)=>True
  | _=>False
section
variable {P:Program} {w:World} {H:Hp} {h h':Heap} {x e:Addr} {o':HO}
theorem HOk.write (ok:HOk P w H h) (mu:Mut (H x)) (he:e=x∨H e=some (.own x)) (k:∀b u,b≠e→h.get? b=some u→h'.get? b=some u) (heo:∃u,h'.get? e=some u)
    (new:ObjOk P w (upd H x o') h' x o'):HOk P w (upd H x o') h':=fun b u q=>by
  have nown:∀c y,H c=some (.own y)→c≠x:=fun c y r z=>by subst z;rw [r] at mu;exact mu
  have ntup:∀c xs,H c=some (.tup xs)→c≠x:=fun c xs r z=>by subst z;rw [r] at mu;exact mu
  by_cases hb:b=x
  · subst hb;rw [upd_same] at q;cases q;exact new
  · rw [upd_ne hb] at q
    by_cases hbe:b=e
    · have q':H b=some (.own x):=by
        rcases he with z | z
        · exact absurd (hbe.trans z) hb
        · rw [hbe];exact z
      rw [q] at q';cases q'
      obtain ⟨v,hv⟩:=heo
      exact ⟨v,by rw [hbe];exact hv⟩
    · refine (ok b u q).stay (fun c v hc r=>k c v ?_ r) (fun c r=>by rw [upd_ne (nown c b r)];exact r) fun c xs r=>by rw [upd_ne (ntup c xs r)];exact r
      rcases hc with rfl | hc
      · exact hbe
      · rintro rfl
        rcases he with z | z
        · exact nown c b hc z
        · rw [hc] at z;cases z;exact hb rfl
end
structure Un (fs ex:List Addr) (H H':Hp) (h h':Heap):Prop where
  keep:∀b o,h.get? b=some o→H b=none→b∉fs→b∉ex→h'.get? b=some o
  slot:∀b o,h.get? b=some o→H b=none→b∈fs→b∉ex→∃sl,h'.get? b=some { o with slots:=sl }
  free:∀b o,h.get? b=some o→H b=none→b∉ex→H' b=none
  there:∀b o,h.get? b=some o→b∉ex→∃o',h'.get? b=some o'
  tups:∀b xs,H b=some (.tup xs)→H' b=some (.tup xs)
  frzs:∀b o u,H b=some (.frz o u)→H' b=some (.frz o u)
  tbls:∀b ps,H b=some (.tbl ps)→∃more,H' b=some (.tbl (ps++more))
section
variable {fs fs' ex ex':List Addr} {H H1 H2:Hp} {h h1 h2 h':Heap} {a x e:Addr} {o:HO}
theorem Un.any (u:Un fs ex H H1 h h1) {b:Addr} {ob:Obj} (q:h.get? b=some ob) (n:H b=none) (hx:b∉ex):∃sl,h1.get? b=some { ob with slots:=sl }:=by
  by_cases hb:b∈fs
  · exact u.slot b ob q n hb hx
  · exact ⟨ob.slots,u.keep b ob q n hb hx⟩
theorem Un.trans (a:Un fs ex H H1 h h1) (b:Un fs ex H1 H2 h1 h2):Un fs ex H H2 h h2 where
  keep:=fun c ob q n hc hx=>b.keep c ob (a.keep c ob q n hc hx) (a.free c ob q n hx) hc hx
  slot:=fun c ob q n hc hx=>by
    obtain ⟨sl,e1⟩:=a.slot c ob q n hc hx
    obtain ⟨sl',e2⟩:=b.slot c _ e1 (a.free c ob q n hx) hc hx
    exact ⟨sl',e2⟩
  free:=fun c ob q n hx=>by
    obtain ⟨o',e1⟩:=a.there c ob q hx
    exact b.free c o' e1 (a.free c ob q n hx) hx
  there:=fun c ob q hx=>by
    obtain ⟨o',e1⟩:=a.there c ob q hx
    exact b.there c o' e1 hx
  tups:=fun c xs q=>b.tups c xs (a.tups c xs q)
  frzs:=fun c ob xs q=>b.frzs c ob xs (a.frzs c ob xs q)
  tbls:=fun c ps q=>by
    obtain ⟨m1,e1⟩:=a.tbls c ps q
    obtain ⟨m2,e2⟩:=b.tbls c _ e1
    exact ⟨m1++m2,by rw [e2,Array.append_assoc]⟩
theorem Un.kept (k:∀b u,h.get? b=some u→h'.get? b=some u):Un fs ex H H h h' :=
  ⟨fun b ob q _ _ _=>k b ob q,fun b ob q _ _ _=>⟨ob.slots,k b ob q⟩,fun _ _ _ n _=>n,fun b ob q _=>⟨ob,k b ob q⟩,fun _ _ q=>q,fun _ _ _ q=>q,fun _ ps q=>⟨#[],by rw [q];simp⟩⟩
theorem Un.refl:Un fs ex H H h h:=Un.kept fun _ _ q=>q
theorem Un.laid (k:∀b u,h.get? b=some u→h'.get? b=some u) (hp:h.objs.size≤a) (hn:H a=none):Un fs ex H (upd H a o) h h' where
  keep:=fun b u q _ _ _=>k b u q
  slot:=fun b u q _ _ _=>⟨u.slots,k b u q⟩
  free:=fun b u q n _=>by rw [upd_ne (Nat.ne_of_lt (Nat.lt_of_lt_of_le (Heap.lt_size q) hp))];exact n
  there:=fun b u q _=>⟨u,k b u q⟩
  tups:=fun b xs q=>by rw [upd_ne (ne_of_none q hn)];exact q
  frzs:=fun b u xs q=>by rw [upd_ne (ne_of_none q hn)];exact q
  tbls:=fun b ps q=>⟨#[],by rw [upd_ne (ne_of_none q hn),q];simp⟩
theorem Un.write (mu:Mut (H x)) (he:e=x∨H e=some (.own x)) (k:∀b u,b≠e→h.get? b=some u→h'.get? b=some u) (heo:∃u,h'.get? e=some u):Un fs ex H (upd H x o) h h':=by
  have hx:∀b,H b=none→b≠x:=fun b n z=>by subst z;rw [n] at mu;exact mu
  have hb:∀b,H b=none→b≠e:=fun b n z=>by
    subst z
    rcases he with r | r
    · exact hx b n r
    · rw [n] at r;cases r
  have hm:∀b u,H b=some u→¬ Mut (some u)→b≠x:=fun b u q nm z=>by subst z;rw [q] at mu;exact nm mu
  refine ⟨fun b u q n _ _=>k b u (hb b n) q,fun b u q n _ _=>⟨u.slots,k b u (hb b n) q⟩,fun b u q n _=>by rw [upd_ne (hx b n)];exact n,fun b u q _=>?_,
    fun b xs q=>by rw [upd_ne (hm b _ q fun z=>z)];exact q,fun b u xs q=>by rw [upd_ne (hm b _ q fun z=>z)];exact q,fun b ps q=>⟨#[],by rw [upd_ne (hm b _ q fun z=>z),q];simp⟩⟩
  by_cases hbe:b=e
  · subst hbe;exact heo
  · exact ⟨u,k b u hbe q⟩
theorem Un.mono (u:Un fs ex H H1 h h1) (hs:∀b∈fs,b∈fs') (hx:∀b∈ex,b∈ex'):Un fs' ex' H H1 h h1 :=
  ⟨fun b ob q n hb he=>u.keep b ob q n (fun z=>hb (hs b z)) fun z=>he (hx b z),fun _ _ q n _ he=>u.any q n fun z=>he (hx _ z),fun b ob q n he=>u.free b ob q n fun z=>he (hx b z),fun b ob q he=>u.there b ob q fun z=>he (hx b z),u.tups,u.frzs,u.tbls⟩
end
def trk (h:Heap) (H:Hp):List Addr:=(List.range h.objs.size).filter fun a=>(H a).isSome
def hidT (h:Heap) (H:Hp):Heap:=PySem.W.hideAll h (trk h H)
theorem hidT_size (h:Heap) (H:Hp):(hidT h H).objs.size=h.objs.size:=PySem.W.hideAll_size _ _
theorem hidT_get {h:Heap} {H:Hp} {b:Addr} {o:Obj} (e:h.get? b=some o) (n:H b=none):(hidT h H).get? b=some o :=
  PySem.W.hideAll_get _ e fun hm=>by
    have q:(H b).isSome=true:=(List.mem_filter.mp hm).2
    rw [n] at q;simp at q
theorem of_hidT {h:Heap} {H:Hp} {b:Addr} {o:Obj} (e:(hidT h H).get? b=some o):h.get? b=some o∧H b=none:=by
  have e':h.get? b=some o:=PySem.W.of_hideAll (trk h H) e
  refine ⟨e',?_⟩
  cases q:H b with
  | none=>rfl
  | some x =>
    have hm:b∈trk h H:=List.mem_filter.mpr ⟨List.mem_range.mpr (Heap.lt_size e'),by simp [q]⟩
    have z:(hidT h H).get? b=none:=PySem.W.hideAll_none (trk h H) hm
    rw [z] at e;cases e
def allNews (g h:Heap) (L:Addr):List (Addr×Obj):=(List.range h.objs.size).filterMap fun a=>if a=L∨(g.get? a).isSome=true then none else (h.get? a).map fun o=>(a,o)
def rest (g h:Heap) (L d:Addr):List (Addr×Obj):=(allNews g h L).filter fun p=>decide (p.1≠d)
end L2
namespace L2
open PySem PySem.Spec PyProof.Rows
structure Mod (K:PySem.W.Frag) (mg:Str→Option Value) (base:Heap):Prop where
  kin:K.In base
  glob:base.Ns mainGlobals mg
  blt:∃mb,base.Ns builtinsNs mb∧∀x:Str,x ≠ "__name__" → mb x=bootBuiltins x
  nolimit:base.NoLimit
structure Cx where
  prog:Program
  w:World
  K:PySem.W.Frag
  mg:Str→Option Value
  base:Heap
  A:Around
  N:List Str
  s₀:Shared
  H₀:Hp
  env:Env
  outer:List Env
  stack:List Env
  ex:List Addr
  fn:Str→Bool
  calm:Bool
  pn:List (Addr×Obj)
  xe:Value→Shared→Prop
def frs (l:List Env):List Addr:=l.filterMap (·.frame)
abbrev Cx.fs (X:Cx):List Addr:=frs X.outer
def Vis (sc:Scope) (x:Str):Prop:=sc.names.lookup x=some .local∨sc.names.lookup x=some .cell∨sc.names.lookup x=some .free
def Loc (sc:Scope) (x:Str):Prop:=sc.names.lookup x=some .local∨sc.names.lookup x=some .cell
def Look (env:Env) (h:Heap) (m:Str→Option Value) (x:Str) (u:Value):Prop :=
  (env.kindOf x=some .local∧m x=some u)∨((env.kindOf x=some .cell∨env.kindOf x=some .free)∧∃c,env.cells.lookup x=some c∧h.IsCell c (some u))
structure Cx.Ok (X:Cx):Prop where
  mod:Mod X.K X.mg X.base
  kind:X.env.scope.kind=.function
  glob:X.env.globals=mainGlobals
  blt:X.env.builtins=builtinsNs
  above:X.s₀.heap.objs.size≤X.env.locals
  inj:∀x y c,X.env.cells.lookup x=some c→X.env.cells.lookup y=some c→x=y
  has:∀x,(X.env.kindOf x=some .cell∨X.env.kindOf x=some .free)→∃c,X.env.cells.lookup x=some c
  cab:∀x c,X.fn x=true→X.env.cells.lookup x=some c→X.s₀.heap.objs.size≤c
  hd:X.calm=true→X.A.handled=none
  frames:X.A.frames=some X.stack
  stk:X.stack=X.outer∨(X.stack=X.env::X.outer∧X.env.frame=some X.env.locals)
  exf:∀b∈X.ex,b≠X.env.locals∧∀x c,X.env.cells.lookup x=some c→c≠b
  bs:∀b o,X.base.get? b=some o→X.s₀.heap.get? b=some o∧X.H₀ b=none
  bsz:X.base.objs.size≤X.s₀.heap.objs.size
  noex:∀b o,X.base.get? b=some o→b∉X.ex
  exfs:∀b∈X.ex,b∉X.fs
  funs:X.s₀.heap.FunFrames X.base X.outer
  frf:∀b∈X.fs,X.H₀ b=none
structure Inv (X:Cx) (pins:List (Addr×Obj)) (σ:List (Option V)) (H:Hp) (s:Shared):Prop where
  ok:X.Ok
  os:s.os=X.s₀.os
  bare:AllBare s.gens
  base:Un X.fs X.ex X.H₀ H X.s₀.heap s.heap
  loc:∃m,s.heap.Ns X.env.locals m∧∀(i:Nat) (x:Str) (v:V),X.N[i]?=some x→σ[i]?=some (some v)→Vis X.env.scope x→∃u,RelV v u∧Look X.env s.heap m x u
  cell:∀x c,X.env.cells.lookup x=some c→∃v,s.heap.IsCell c v
  free:H X.env.locals=none
  freeC:∀x c,X.env.cells.lookup x=some c→H c=none
  pin:∀p∈X.pn++pins,s.heap.get? p.1=some p.2∧H p.1=none∧p.1≠X.env.locals∧p.1∉X.fs∧∀v,p.2.data≠.cell v
  hok:HOk X.prog X.w H s.heap
  len:σ.length=X.N.length
section
variable {X:Cx} {pins:List (Addr×Obj)} {σ:List (Option V)} {H H':Hp} {s:Shared} {h':Heap}
theorem Cx.Ok.nofr (ok:X.Ok) {b:Addr} {o:Obj} (e:X.base.get? b=some o):b∉X.fs:=fun hb=>by
  have:=(ok.funs.mem hb).1
  rw [e] at this;cases this
theorem Inv.bs (I:Inv X pins σ H s):∀b o,X.base.get? b=some o→s.heap.get? b=some o∧H b=none:=fun b o e =>
  ⟨I.base.keep b o (I.ok.bs b o e).1 (I.ok.bs b o e).2 (I.ok.nofr e) (I.ok.noex b o e),I.base.free b o (I.ok.bs b o e).1 (I.ok.bs b o e).2 (I.ok.noex b o e)⟩
theorem Inv.bk (I:Inv X pins σ H s):∀b o,X.base.get? b=some o→s.heap.get? b=some o:=fun b o e=>(I.bs b o e).1
theorem Inv.mod (I:Inv X pins σ H s):Mod X.K X.mg X.base:=I.ok.mod
theorem Inv.kIn (I:Inv X pins σ H s):X.K.In s.heap:=I.ok.mod.kin.keeps I.bk
theorem Inv.nolimit (I:Inv X pins σ H s):s.heap.NoLimit:=I.ok.mod.nolimit.keeps I.bk
theorem Inv.fr (I:Inv X pins σ H s):∃m,Fr X.base X.env.locals s.heap m :=
  let ⟨m,hn,_⟩:=I.loc
  ⟨m,hn,I.bk,Nat.le_trans I.ok.bsz I.ok.above⟩
theorem Inv.lt (I:Inv X pins σ H s):X.env.locals<s.heap.objs.size:=let ⟨_,hn,_⟩:=I.loc;hn.lt
theorem Inv.sz (I:Inv X pins σ H s):X.s₀.heap.objs.size≤s.heap.objs.size:=Nat.le_trans I.ok.above (Nat.le_of_lt I.lt)
theorem Inv.nofs (I:Inv X pins σ H s) {a:Addr} (h:s.heap.objs.size≤a):a∉X.fs:=fun hb=>by
  obtain ⟨_,o,ho,_⟩:=I.ok.funs.mem hb
  exact absurd (Nat.lt_of_lt_of_le (Heap.lt_size ho) (Nat.le_trans I.sz h)) (Nat.lt_irrefl _)
theorem Inv.cne (I:Inv X pins σ H s):∀x c,X.env.cells.lookup x=some c→c≠X.env.locals:=fun x c e z=>by
  obtain ⟨v,o,ho,hd⟩:=I.cell x c e
  obtain ⟨m,⟨o',es,ep,ho',hd',_⟩,_⟩:=I.loc
  rw [z,ho'] at ho;cases ho;rw [hd'] at hd;cases hd
theorem Inv.funs (I:Inv X pins σ H s):s.heap.FunFrames X.base X.outer:=by
  have all:∀(l:List Env),(∀b∈frs l,b∈X.fs)→X.s₀.heap.FunFrames X.base l→s.heap.FunFrames X.base l:=by
    intro l
    induction l with
    | nil=>intro _ _;trivial
    | cons env r ih =>
      intro hs hl
      obtain ⟨hk,⟨L,o,hf,hn,ho,hd⟩,hr⟩:=hl
      have hL:L∈X.fs:=hs L (by unfold frs;rw [List.filterMap_cons,hf];exact List.mem_cons_self)
      obtain ⟨sl,e⟩:=I.base.slot L o ho (I.ok.frf L hL) hL fun z=>I.ok.exfs L z hL
      exact ⟨hk,⟨L,_,hf,hn,e,hd⟩,ih (fun b hb=>hs b (by unfold frs;rw [List.filterMap_cons,hf];exact List.mem_cons_of_mem _ hb)) hr⟩
  exact all X.outer (fun _ hb=>hb) I.ok.funs
theorem Inv.stack (I:Inv X pins σ H s):s.heap.FunFrames X.base X.stack:=by
  rcases I.ok.stk with e | ⟨e,hf⟩
  · rw [e];exact I.funs
  · rw [e]
    obtain ⟨m,hn,_⟩:=I.loc
    refine .cons (by rw [I.ok.kind];decide) hf hn ?_ I.funs
    exact Heap.get?_none_of_le (Nat.le_trans I.ok.bsz I.ok.above)
theorem Inv.stkSub (I:Inv X pins σ H s):∀b∈frs X.stack,b∈X.env.locals::X.fs:=fun b hb=>by
  rcases I.ok.stk with e | ⟨e,hf⟩
  · rw [e] at hb;exact List.mem_cons_of_mem _ hb
  · rw [e] at hb
    unfold frs at hb
    rw [List.filterMap_cons,hf] at hb
    exact hb
theorem Inv.stkFree (I:Inv X pins σ H s):∀b∈frs X.stack,H b=none:=fun b hb=>by
  rcases List.mem_cons.mp (I.stkSub b hb) with e | hb
  · rw [e];exact I.free
  · obtain ⟨_,o,ho,_⟩:=I.ok.funs.mem hb
    exact I.base.free b o ho (I.ok.frf b hb) fun z=>I.ok.exfs b z hb
theorem Inv.step {g':Array GenState} {t':Nat} {d':Drawn} {ch:List Addr} (I:Inv X pins σ H s)
    (hch:∀b∈ch,(b∈X.ex∨X.s₀.heap.objs.size≤b)∧b≠X.env.locals∧(∀x c,X.env.cells.lookup x=some c→c≠b)∧∀p∈X.pn++pins,p.1≠b)
    (keep:∀b o,b≠X.env.locals→b∉X.fs→b∉ch→s.heap.get? b=some o→H b=none→h'.get? b=some o)
    (slot:∀b o,b≠X.env.locals→b∈X.fs→b∉ch→s.heap.get? b=some o→H b=none→∃sl,h'.get? b=some { o with slots:=sl }) (free:∀b o,b∉ch→s.heap.get? b=some o→H b=none→H' b=none)
    (there:∀b o,b∉ch→s.heap.get? b=some o→∃o',h'.get? b=some o')
    (tups:∀b xs,H b=some (.tup xs)→H' b=some (.tup xs)) (frzs:∀b o u,H b=some (.frz o u)→H' b=some (.frz o u)) (tbls:∀b ps,H b=some (.tbl ps)→∃more,H' b=some (.tbl (ps++more)))
    (ns:∀m,s.heap.Ns X.env.locals m→h'.Ns X.env.locals m) (hok:HOk X.prog X.w H' h') (hg:AllBare g') :
    Inv X pins σ H' { s with heap:=h',gens:=g',drawn:=d',toks:=t' }:=by
  have neL:∀b o,X.s₀.heap.get? b=some o→b≠X.env.locals:=fun b o e=>Nat.ne_of_lt (Nat.lt_of_lt_of_le (Heap.lt_size e) I.ok.above)
  have neC:∀b o,X.s₀.heap.get? b=some o→b∉X.ex→b∉ch:=fun b o e hx hb=>by
    rcases (hch b hb).1 with z | z
    · exact hx z
    · exact absurd (Nat.lt_of_lt_of_le (Heap.lt_size e) z) (Nat.lt_irrefl _)
  have cellK:∀x c,X.env.cells.lookup x=some c→∀v,s.heap.IsCell c v→h'.IsCell c v:=fun x c e v ⟨o,ho,hd⟩=>by
    have nch:c∉ch:=fun z=>(hch c z).2.2.1 x c e rfl
    by_cases hc:c∈X.fs
    · obtain ⟨sl,q⟩:=slot c o (I.cne x c e) hc nch ho (I.freeC x c e)
      exact ⟨_,q,hd⟩
    · exact ⟨o,keep c o (I.cne x c e) hc nch ho (I.freeC x c e),hd⟩
  refine ⟨I.ok,I.os,hg,⟨fun b o e n hb hx=>?_,fun b o e n hb hx=>?_,fun b o e n hx=>?_,fun b o e hx=>?_,fun b xs e=>tups b xs (I.base.tups b xs e),fun b o xs e=>frzs b o xs (I.base.frzs b o xs e),fun b ps e=>?_⟩,?_,fun x c e=>?_,?_,fun x c e=>?_,fun p hp=>?_,hok,I.len⟩
  · exact keep b o (neL b o e) hb (neC b o e hx) (I.base.keep b o e n hb hx) (I.base.free b o e n hx)
  · obtain ⟨sl,e1⟩:=I.base.slot b o e n hb hx
    obtain ⟨sl',e2⟩:=slot b _ (neL b o e) hb (neC b o e hx) e1 (I.base.free b o e n hx)
    exact ⟨sl',e2⟩
  · obtain ⟨o',e1⟩:=I.base.there b o e hx
    exact free b o' (neC b o e hx) e1 (I.base.free b o e n hx)
  · obtain ⟨o',e1⟩:=I.base.there b o e hx
    exact there b o' (neC b o e hx) e1
  · obtain ⟨m1,e1⟩:=I.base.tbls b ps e
    obtain ⟨m2,e2⟩:=tbls b _ e1
    exact ⟨m1++m2,by rw [e2,Array.append_assoc]⟩
  · obtain ⟨m,hn,hl⟩:=I.loc
    refine ⟨m,ns m hn,fun i x v e1 e2 e3=>?_⟩
    obtain ⟨u,r,l⟩:=hl i x v e1 e2 e3
    refine ⟨u,r,?_⟩
    rcases l with l | ⟨k,c,e,z⟩
    · exact .inl l
    · exact .inr ⟨k,c,e,cellK x c e _ z⟩
  · obtain ⟨v,z⟩:=I.cell x c e
    exact ⟨v,cellK x c e v z⟩
  · obtain ⟨m,⟨o,_,_,ho,_⟩,_⟩:=I.loc
    exact free _ o (fun z=>(hch _ z).2.1 rfl) ho I.free
  · obtain ⟨v,o,ho,hd⟩:=I.cell x c e
    exact free c o (fun z=>(hch c z).2.2.1 x c e rfl) ho (I.freeC x c e)
  · obtain ⟨e,n,ne,nf,d⟩:=I.pin p hp
    have nch:p.1∉ch:=fun z=>(hch p.1 z).2.2.2 p hp rfl
    exact ⟨keep p.1 p.2 ne nf nch e n,free p.1 p.2 nch e n,ne,nf,d⟩
theorem Inv.un {t':Nat} (I:Inv X pins σ H s) (u:Un X.fs [] H H' s.heap h') (hok:HOk X.prog X.w H' h'):Inv X pins σ H' { s with heap:=h',toks:=t' }:=by
  obtain ⟨m,⟨o,es,ep,ho,r⟩,_⟩:=id I.loc
  obtain ⟨sl,hL⟩:=u.any ho I.free (by simp)
  exact I.step (g':=s.gens) (d':=s.drawn) (ch:=[]) (fun _ z=>nomatch z) (fun b o _ hb _ e n=>u.keep b o e n hb (by simp)) (fun b o _ hb _ e n=>u.slot b o e n hb (by simp)) (fun b o _ e n=>u.free b o e n (by simp)) (fun b o _ e=>u.there b o e (by simp)) u.tups u.frzs u.tbls (fun m' hm=>by
    obtain ⟨o',es',ep',ho',r'⟩:=hm
    rw [ho] at ho';cases ho'
    exact ⟨_,es',ep',hL,r'⟩) hok I.bare
theorem Inv.call {g':Array GenState} {t':Nat} {d':Drawn} {ch:List Addr} (I:Inv X pins σ H s) (u:Un (frs X.stack) ch H H' s.heap h') (hok:HOk X.prog X.w H' h') (hg:AllBare g')
    (hch:∀b∈ch,(b∈X.ex∨X.s₀.heap.objs.size≤b)∧b≠X.env.locals∧(∀x c,X.env.cells.lookup x=some c→c≠b)∧∀p∈X.pn++pins,p.1≠b) :
    Inv X pins σ H' { s with heap:=h',gens:=g',drawn:=d',toks:=t' }:=by
  obtain ⟨m,⟨o,es,ep,ho,r⟩,_⟩:=id I.loc
  obtain ⟨sl,hL⟩:=u.any ho I.free fun z=>(hch _ z).2.1 rfl
  exact I.step (ch:=ch) hch (fun b o hL hb hc e n=>u.keep b o e n (fun z=>(List.mem_cons.mp (I.stkSub b z)).elim hL hb) hc) (fun b o _ _ hc e n=>u.any e n hc) (fun b o hc e n=>u.free b o e n hc) (fun b o hc e=>u.there b o e hc) u.tups u.frzs u.tbls (fun m' hm=>by
    obtain ⟨o',es',ep',ho',r'⟩:=hm
    rw [ho] at ho';cases ho'
    exact ⟨_,es',ep',hL,r'⟩) hok hg
theorem Inv.turned {t':Nat} {it:Addr} (I:Inv X pins σ H s) (k:∀b o,b≠it→s.heap.get? b=some o→h'.get? b=some o) (hn:H it=none) (hL:it≠X.env.locals)
    (h1:it∈X.ex∨X.s₀.heap.objs.size≤it) (h2:∀x c,X.env.cells.lookup x=some c→c≠it) (h3:∀p∈X.pn++pins,p.1≠it):Inv X pins σ H { s with heap:=h',toks:=t' }:=by
  have nit:∀b u,H b=some u→b≠it:=fun b u e z=>by rw [z,hn] at e;cases e
  refine I.step (g':=s.gens) (d':=s.drawn) (ch:=[it]) (fun b hb=>?_) (fun b o _ _ hc e _=>k b o (fun z=>hc (by simp [z])) e) (fun b o _ _ hc e _=>⟨o.slots,k b o (fun z=>hc (by simp [z])) e⟩) (fun _ _ _ _ n=>n)
    (fun b o hc e=>⟨o,k b o (fun z=>hc (by simp [z])) e⟩) (fun _ _ e=>e) (fun _ _ _ e=>e) (fun b ps e=>⟨#[],by rw [e];simp⟩) (fun m hm=>?_) (fun b u e=>?_) I.bare
  · have e:b=it:=by simpa using hb
    subst e
    exact ⟨h1,hL,h2,h3⟩
  · obtain ⟨o,es,ep,ho,r⟩:=hm
    exact ⟨o,es,ep,k _ o (Ne.symm hL) ho,r⟩
  · refine (I.hok b u e).stay (fun c v hc q=>k c v ?_ q) (fun _ q=>q) fun _ _ q=>q
    rcases hc with z | z
    · rw [z];exact nit b u e
    · exact nit c _ z
theorem Inv.tok (I:Inv X pins σ H s) (t:Nat):Inv X pins σ H { s with toks:=t }:=I.un (h':=s.heap) (t':=t) Un.refl I.hok
theorem Inv.kept {t':Nat} (I:Inv X pins σ H s) (k:∀b u,s.heap.get? b=some u→h'.get? b=some u):Inv X pins σ H { s with heap:=h',toks:=t' }:=I.un (Un.kept k) (I.hok.kept k)
theorem Inv.laid {a:Addr} {o:HO} {t':Nat} (I:Inv X pins σ H s) (k:∀b u,s.heap.get? b=some u→h'.get? b=some u) (hp:s.heap.objs.size≤a) (new:ObjOk X.prog X.w (upd H a o) h' a o) :
    Inv X pins σ (upd H a o) { s with heap:=h',toks:=t' }:=I.un (Un.laid k hp (I.hok.fresh hp)) (I.hok.laid k hp new)
theorem Inv.write {x e:Addr} {o:HO} {t':Nat} (I:Inv X pins σ H s) (mu:Mut (H x)) (he:e=x∨H e=some (.own x)) (k:∀b u,b≠e→s.heap.get? b=some u→h'.get? b=some u) (heo:∃u,h'.get? e=some u)
    (new:ObjOk X.prog X.w (upd H x o) h' x o):Inv X pins σ (upd H x o) { s with heap:=h',toks:=t' }:=I.un (Un.write mu he k heo) (I.hok.write mu he k heo new)
theorem Inv.weak {σ':List (Option V)} (I:Inv X pins σ H s) (hl:σ'.length=σ.length) (w:∀(i:Nat) v,σ'[i]?=some (some v)→σ[i]?=some (some v)):Inv X pins σ' H s :=
  ⟨I.ok,I.os,I.bare,I.base,let ⟨m,hn,hl'⟩:=I.loc;⟨m,hn,fun i x v e1 e2 e3=>hl' i x v e1 (w i v e2) e3⟩,I.cell,I.free,I.freeC,I.pin,I.hok,hl.trans I.len⟩
theorem Inv.pins_of {pins':List (Addr×Obj)} (I:Inv X pins σ H s) (h:∀p∈pins',s.heap.get? p.1=some p.2∧H p.1=none∧p.1≠X.env.locals∧p.1∉X.fs∧∀v,p.2.data≠.cell v):Inv X pins' σ H s :=
  ⟨I.ok,I.os,I.bare,I.base,I.loc,I.cell,I.free,I.freeC,fun p hp=>(List.mem_append.mp hp).elim (fun z=>I.pin p (List.mem_append_left _ z)) (h p),I.hok,I.len⟩
theorem nodup_ix {N:List Str} (hN:N.Nodup) {i j:Nat} {x:Str} (a:N[i]?=some x) (b:N[j]?=some x):i=j:=by
  obtain ⟨h1,e1⟩:=List.getElem?_eq_some_iff.mp a
  obtain ⟨h2,e2⟩:=List.getElem?_eq_some_iff.mp b
  exact (List.getElem_inj hN).mp (e1.trans e2.symm)
theorem store_ok2 {M:Model} {A:Around} {E:Value→Shared→Prop} {i:Nat} {x:Str} {v:V} {u:Value} {Q:Unit→Shared→Prop} (I:Inv X pins σ H s) (hN:X.N.Nodup) (hi:X.N[i]?=some x) (hx:Loc X.env.scope x) (r:RelV v u)
    (h:∀s',Inv X pins (σ.set i (some v)) H s'→(∃a,Heap.SameBut a s.heap s'.heap∧(a=X.env.locals∨X.env.cells.lookup x=some a))→Q () s') (hf:X.fn x=true∨X.env.scope.names.lookup x=some .local:=by first | exact .inl rfl | exact .inr rfl | assumption):wpAny M A (storeName X.env x u) Q E s:=by
  obtain ⟨m,hn,hl⟩:=id I.loc
  have hcls:(X.env.scope.kind == .class||(X.env.scope.kind == .module&&X.env.locals != X.env.globals))=false:=by rw [I.ok.kind];rfl
  have hiσ:i<σ.length:=by rw [I.len];exact (List.getElem?_eq_some_iff.mp hi).1
  have cne:=I.cne
  have tracked:∀{a:Addr} {h':Heap},(∃o,s.heap.get? a=some o∧H a=none)→Heap.SameBut a s.heap h'→HOk X.prog X.w H h':=fun {a h'} ha hs b ob e=>by
    obtain ⟨_,_,hfree⟩:=ha
    refine (I.hok b ob e).stay (fun c w' hc q=>(hs.2 c ?_).trans q) (fun _ q=>q) fun _ _ q=>q
    rintro rfl
    rcases hc with rfl | hc
    · rw [hfree] at e;cases e
    · rw [hfree] at hc;cases hc
  rcases hx with hk | hk
  · refine wpAny_storeName_local hk hn (fun h' hn' hs=>?_) hcls
    obtain ⟨oL,_,_,hoL,_⟩:=id hn
    refine h _ ⟨I.ok,I.os,I.bare,⟨fun b o e n hb hx=>?_,fun b o e n hb hx=>?_,I.base.free,fun b o e hx=>?_,I.base.tups,I.base.frzs,I.base.tbls⟩,⟨_,hn',fun j y v' e1 e2 e3=>?_⟩,fun y c e=>?_,I.free,I.freeC,fun p hp=>?_,tracked ⟨oL,hoL,I.free⟩ hs,by simpa using I.len⟩ ⟨_,hs,.inl rfl⟩
    · exact (hs.2 b (Nat.ne_of_lt (Nat.lt_of_lt_of_le (Heap.lt_size e) I.ok.above))).trans (I.base.keep b o e n hb hx)
    · obtain ⟨sl,e1⟩:=I.base.slot b o e n hb hx
      exact ⟨sl,(hs.2 b (Nat.ne_of_lt (Nat.lt_of_lt_of_le (Heap.lt_size e) I.ok.above))).trans e1⟩
    · obtain ⟨o',e1⟩:=I.base.there b o e hx
      exact ⟨o',(hs.2 b (Nat.ne_of_lt (Nat.lt_of_lt_of_le (Heap.lt_size e) I.ok.above))).trans e1⟩
    · by_cases hj:j=i
      · subst hj
        rw [hi] at e1;cases e1
        rw [List.getElem?_set_self hiσ] at e2
        cases e2
        exact ⟨u,r,.inl ⟨hk,by simp⟩⟩
      · rw [List.getElem?_set_ne (Ne.symm hj)] at e2
        obtain ⟨u',r',q⟩:=hl j y v' e1 e2 e3
        refine ⟨u',r',?_⟩
        rcases q with ⟨k,e⟩ | ⟨k,c,e,z⟩
        · refine .inl ⟨k,?_⟩
          have:y≠x:=fun e=>hj (nodup_ix hN e1 (e▸hi))
          simp [this,e]
        · exact .inr ⟨k,c,e,z.sameBut hs (cne y c e)⟩
    · obtain ⟨w',z⟩:=I.cell y c e
      exact ⟨w',z.sameBut hs (cne y c e)⟩
    · obtain ⟨e,n,ne,nf,d⟩:=I.pin p hp
      exact ⟨(hs.2 p.1 ne).trans e,n,ne,nf,d⟩
  · have hfn:X.fn x=true:=by
      rcases hf with z | z
      · exact z
      · rw [z] at hk;cases hk
    obtain ⟨c,hc⟩:=I.ok.has x (.inl hk)
    obtain ⟨w',z⟩:=I.cell x c hc
    refine wpAny_storeName_cell I.ok.kind hk hc z (fun h' hc' hs=>?_)
    obtain ⟨oc,hoc,hocd⟩:=id z
    refine h { s with heap:=h' } ⟨I.ok,I.os,I.bare,⟨fun b o e n hb hx=>?_,fun b o e n hb hx=>?_,I.base.free,fun b o e hx=>?_,I.base.tups,I.base.frzs,I.base.tbls⟩,⟨m,hn.sameBut hs (Ne.symm (cne x c hc)),fun j y v' e1 e2 e3=>?_⟩,fun y c' e=>?_,I.free,I.freeC,fun p hp=>?_,tracked ⟨oc,hoc,I.freeC x c hc⟩ hs,by simpa using I.len⟩ ⟨c,hs,.inr hc⟩
    · exact (hs.2 b (Nat.ne_of_lt (Nat.lt_of_lt_of_le (Heap.lt_size e) (I.ok.cab x c hfn hc)))).trans (I.base.keep b o e n hb hx)
    · obtain ⟨sl,e1⟩:=I.base.slot b o e n hb hx
      exact ⟨sl,(hs.2 b (Nat.ne_of_lt (Nat.lt_of_lt_of_le (Heap.lt_size e) (I.ok.cab x c hfn hc)))).trans e1⟩
    · obtain ⟨o',e1⟩:=I.base.there b o e hx
      exact ⟨o',(hs.2 b (Nat.ne_of_lt (Nat.lt_of_lt_of_le (Heap.lt_size e) (I.ok.cab x c hfn hc)))).trans e1⟩
    · by_cases hj:j=i
      · subst hj
        rw [hi] at e1;cases e1
        rw [List.getElem?_set_self hiσ] at e2
        cases e2
        exact ⟨u,r,.inr ⟨.inl hk,c,hc,hc'⟩⟩
      · rw [List.getElem?_set_ne (Ne.symm hj)] at e2
        obtain ⟨u',r',q⟩:=hl j y v' e1 e2 e3
        refine ⟨u',r',?_⟩
        rcases q with q | ⟨k,c',e,z'⟩
        · exact .inl q
        · refine .inr ⟨k,c',e,z'.sameBut hs ?_⟩
          rintro rfl
          exact hj (nodup_ix hN e1 (I.ok.inj _ _ _ e hc▸hi))
    · by_cases hcc:c'=c
      · subst hcc;exact ⟨_,hc'⟩
      · obtain ⟨w2,z2⟩:=I.cell y c' e
        exact ⟨w2,z2.sameBut hs hcc⟩
    · obtain ⟨e,n,ne,nf,d⟩:=I.pin p hp
      refine ⟨(hs.2 p.1 ?_).trans e,n,ne,nf,d⟩
      intro q
      rw [q,hoc] at e
      have q':oc=p.2:=Option.some.inj e
      exact d w' (by rw [←q'];exact hocd)
theorem store_ok {M:Model} {A:Around} {E:Value→Shared→Prop} {i:Nat} {x:Str} {v:V} {u:Value} {Q:Unit→Shared→Prop} (I:Inv X pins σ H s) (hN:X.N.Nodup) (hi:X.N[i]?=some x) (hx:Loc X.env.scope x) (r:RelV v u)
    (h:∀s',Inv X pins (σ.set i (some v)) H s'→Q () s') (hf:X.fn x=true∨X.env.scope.names.lookup x=some .local:=by first | exact .inl rfl | exact .inr rfl | assumption):wpAny M A (storeName X.env x u) Q E s :=
  store_ok2 I hN hi hx r (fun s' I' _=>h s' I') hf
theorem Inv.call' {s':Shared} {ch:List Addr} (I:Inv X pins σ H s) (ho:s'.os=s.os) (u:Un (frs X.stack) ch H H' s.heap s'.heap) (hok:HOk X.prog X.w H' s'.heap) (hg:AllBare s'.gens)
    (hch:∀b∈ch,(b∈X.ex∨X.s₀.heap.objs.size≤b)∧b≠X.env.locals∧(∀x c,X.env.cells.lookup x=some c→c≠b)∧∀p∈X.pn++pins,p.1≠b):Inv X pins σ H' s':=by
  obtain ⟨h',g',d',t',o'⟩:=s'
  have e:o'=s.os:=ho
  subst e
  exact I.call (g':=g') (t':=t') (d':=d') u hok hg hch
end
abbrev XK:=Value→Option Addr→Hp→Prop
abbrev St:=List (Option V)
abbrev VK:=V→Hp→Prop
abbrev TE:=St→Hp→VK→Prop
abbrev TT:=St→Hp→(Bool→Hp→Prop)→Prop
abbrev TA:=St→Hp→(List V→Hp→Prop)→Prop
structure Ends where
  nx:St→Hp→Prop
  rt:VK
  bk:St→Hp→Prop:=fun _ _=>False
  ct:St→Hp→Prop:=fun _ _=>False
abbrev TS:=Ends→St→Hp→Prop
def EP (X:Cx) (pins:List (Addr×Obj)) (σ:St) (Q:VK) (u:Value) (s':Shared):Prop:=∃v H',Inv X pins σ H' s'∧RelV v u∧Q v H'
def TP (X:Cx) (pins:List (Addr×Obj)) (σ:St) (Q:Bool→Hp→Prop) (b:Bool) (s':Shared):Prop:=∃H',Inv X pins σ H' s'∧Q b H'
def AP (X:Cx) (pins:List (Addr×Obj)) (σ:St) (Q:List V→Hp→Prop) (us:List Value) (s':Shared):Prop:=∃vs H',Inv X pins σ H' s'∧Vals vs us∧Q vs H'
def SP (X:Cx) (pins:List (Addr×Obj)) (D:Ends) (f:Flow) (s':Shared):Prop :=
  match f with
  | .next=>∃σ' H',Inv X pins σ' H' s'∧D.nx σ' H'
  | .brk=>∃σ' H',Inv X pins σ' H' s'∧D.bk σ' H'
  | .cont=>∃σ' H',Inv X pins σ' H' s'∧D.ct σ' H'
  | .ret u=>∃v σ' H',Inv X pins σ' H' s'∧RelV v u∧D.rt v H'
def PE (X:Cx) (e:Expr) (t:TE):Prop :=
  ∀(pins:List (Addr×Obj)) (s:Shared) (σ:St) (H:Hp) (Q:VK),Inv X pins σ H s→t σ H Q→wpAny (model X.prog X.w) X.A (eval e X.env) (EP X pins σ Q) X.xe s
def PT (X:Cx) (e:Expr) (t:TT):Prop :=
  ∀(pins:List (Addr×Obj)) (s:Shared) (σ:St) (H:Hp) (Q:Bool→Hp→Prop),Inv X pins σ H s→t σ H Q→wpAny (model X.prog X.w) X.A (isTrue e X.env (eval e X.env)) (TP X pins σ Q) X.xe s
def PW (X:Cx) (e:Expr) (t:TT):Prop :=
  ∀(whole:Sem Value) (pins:List (Addr×Obj)) (s:Shared) (σ:St) (H:Hp) (Q:Bool→Hp→Prop),Inv X pins σ H s→t σ H Q→wpAny (model X.prog X.w) X.A (isTrue e X.env whole) (TP X pins σ Q) X.xe s
theorem PW.pt {X:Cx} {e:Expr} {t:TT} (h:PW X e t):PT X e t:=h _
def PA (X:Cx) (es:List Expr) (t:TA):Prop :=
  ∀(pos:Pos) (pins:List (Addr×Obj)) (s:Shared) (σ:St) (H:Hp) (Q:List V→Hp→Prop),Inv X pins σ H s→t σ H Q→wpAny (model X.prog X.w) X.A (spliced (backTo pos (starEach es X.env))) (AP X pins σ Q) X.xe s
def PS (X:Cx) (st:Stmt) (t:TS):Prop :=
  ∀(pins:List (Addr×Obj)) (s:Shared) (σ:St) (H:Hp) (D:Ends),Inv X pins σ H s→t D σ H→wpAny (model X.prog X.w) X.A (exec st X.env) (SP X pins D) X.xe s
def PSs (X:Cx) (st:List Stmt) (t:TS):Prop :=
  ∀(pins:List (Addr×Obj)) (s:Shared) (σ:St) (H:Hp) (D:Ends),Inv X pins σ H s→t D σ H→wpAny (model X.prog X.w) X.A (execs st X.env) (SP X pins D) X.xe s
theorem thn {α:Type} {t:Sem α} {Q Q':α→Shared→Prop} {M:Model} {A:Around} {E:Value→Shared→Prop} {s:Shared} (h:wpAny M A t Q E s) (hQ:∀a s,Q a s→Q' a s):wpAny M A t Q' E s:=wpAny_mono h hQ fun _ _ x=>x
end L2
namespace L2
open PySem PySem.Spec PyProof.Rows
section
variable {X:Cx}
theorem bin {a b:Expr} {ta tb:TE} (ha:PE X a ta) (hb:PE X b tb) {pins:List (Addr×Obj)} {s:Shared} {σ:St} {H:Hp} {R:V→V→Hp→Prop} (I:Inv X pins σ H s) (h:ta σ H fun x H1=>tb σ H1 fun y H2=>R x y H2)
    {α:Type} {Q:α→Shared→Prop} {f:Value→Value→Sem α}
    (hf:∀v u s2 x y H2,Inv X pins σ H2 s2→RelV x v→RelV y u→R x y H2→wpAny (model X.prog X.w) X.A (f v u) Q X.xe s2) :
    wpAny (model X.prog X.w) X.A (eval a X.env) (fun v s₁=>wpAny (model X.prog X.w) X.A (eval b X.env) (fun u s₂=>wpAny (model X.prog X.w) X.A (f v u) Q X.xe s₂) X.xe s₁) X.xe s:=by
  refine thn (ha pins s σ H _ I h) fun v s1 ⟨x,H1,I1,r1,q1⟩=>?_
  refine thn (hb pins s1 σ H1 _ I1 q1) fun u s2 ⟨y,H2,I2,r2,q2⟩=>?_
  exact hf v u s2 x y H2 I2 r1 r2 q2
def tVar (i:Nat):TE:=fun σ H Q=>∃v,σ[i]?=some (some v)∧Q v H
def tC (v:V):TE:=fun _ H Q=>Q v H
theorem pe_var {i:Nat} {x:Str} {pos:Pos} (hN:X.N[i]?=some x) (hv:Vis X.env.scope x) (hd:(x == ("__debug__" : Str))=false:=by decide) (hcd:(x == ("__classdict__" : Str))=false:=by decide):PE X (.Name x pos) (tVar i):=by
  intro pins s σ H Q I h
  obtain ⟨v,e,h⟩:=h
  obtain ⟨m,hn,hl⟩:=I.loc
  obtain ⟨u,r,l⟩:=hl i x v hN e hv
  have fin:EP X pins σ Q u s:=⟨v,H,I,r,h⟩
  rcases l with ⟨hk,hm⟩ | ⟨hk,c,hc,hcell⟩
  · exact wpAny_Name (wpAny_loadName_local I.ok.kind hk hn hm fin) hd
  · rcases hk with hk | hk
    · exact wpAny_Name (wpAny_loadName_cell I.ok.kind hk hc hcell fin) hd
    · exact wpAny_Name (wpAny_loadName_free I.ok.kind hk hc hcell fin hcd) hd
theorem pe_int {i j pos}:PE X (.Constant (.int i) j pos) (tC (.int i)):=fun _ _ _ H _ I h=>wpAny_Constant_int ⟨.int i,H,I.tok _,⟨_,rfl⟩,h⟩
theorem pe_bl {b j pos}:PE X (.Constant (.bool b) j pos) (tC (.bl b)):=fun _ _ _ H _ I h=>Constant_bool ⟨.bl b,H,I,rfl,h⟩
theorem pe_str {x j pos}:PE X (.Constant (.str x) j pos) (tC (.str x)):=fun _ _ _ H _ I h=>Calls.Constant_str ⟨.str x,H,I.tok _,⟨_,rfl⟩,h⟩
def Gl (X:Cx) (x:Str):Prop:=X.env.kindOf x=some .globalImplicit
theorem ld_glob {E:Value→Shared→Prop} {pins:List (Addr×Obj)} {s:Shared} {σ:St} {H:Hp} {x:Str} {u:Value} {pos:Pos} {Q:Value→Shared→Prop} (I:Inv X pins σ H s) (hg:Gl X x) (hm:X.mg x=some u) (h:Q u s)
    (hd:(x == ("__debug__" : Str))=false:=by decide):wpAny (model X.prog X.w) X.A (eval (.Name x pos) X.env) Q E s :=
  Calls.Name_function_global I.ok.kind hg (Calls.loadGlobal_global (by rw [I.ok.glob];exact I.mod.glob.keeps I.bk) hm h) hd
theorem ld_blt {E:Value→Shared→Prop} {pins:List (Addr×Obj)} {s:Shared} {σ:St} {H:Hp} {x:Str} {u:Value} {pos:Pos} {Q:Value→Shared→Prop} (I:Inv X pins σ H s) (hg:Gl X x) (hm:X.mg x=none) (hv:bootBuiltins x=some u) (h:Q u s)
    (hn:x ≠ "__name__" := by decide) (hd:(x == ("__debug__" : Str))=false:=by decide):wpAny (model X.prog X.w) X.A (eval (.Name x pos) X.env) Q E s:=by
  obtain ⟨mb,h1,h2⟩:=I.mod.blt
  exact Calls.Name_function_global I.ok.kind hg (Calls.loadGlobal_builtin (by rw [I.ok.glob];exact I.mod.glob.keeps I.bk) hm (by rw [I.ok.blt];exact h1.keeps I.bk) ((h2 x hn).trans hv) h) hd
theorem pe_bltn {x:Str} {v:V} {u:Value} {pos:Pos} (hg:Gl X x) (hm:X.mg x=none) (hv:bootBuiltins x=some u) (r:RelV v u) (hn:x ≠ "__name__" := by decide) (hd:(x == ("__debug__" : Str))=false:=by decide):PE X (.Name x pos) (tC v) :=
  fun _ _ _ H _ I h=>ld_blt I hg hm hv ⟨v,H,I,r,h⟩ hn hd
variable {a b:Expr} {ta tb:TE} {pos:Pos}
def PC (X:Cx) (op:CmpOp) (a b:Expr) (t:TE):Prop :=
  ∀(pins:List (Addr×Obj)) (s:Shared) (σ:St) (H:Hp) (Q:VK),Inv X pins σ H s→t σ H Q →
    wpAny (model X.prog X.w) X.A (eval a X.env) (fun v s₁=>wpAny (model X.prog X.w) X.A (eval b X.env) (fun u s₂=>wpAny (model X.prog X.w) X.A (compareOp op v u) (EP X pins σ Q) X.xe s₂) X.xe s₁) X.xe s
theorem nobehind (b:Expr) {op:CmpOp} (h:op≠.In) (h2:op≠.NotIn):behindInMarks op b=false:=by
  have e1:(op == CmpOp.In)=false:=by cases op <;> first | rfl | exact absurd rfl h
  have e2:(op == CmpOp.NotIn)=false:=by cases op <;> first | rfl | exact absurd rfl h2
  cases b <;> simp [behindInMarks,e1,e2]
def tB (t:TE):TT:=fun σ H Q=>t σ H fun x H1=>∃c,x=.bl c∧Q c H1
theorem pt_cmp {op:CmpOp} {t:TE} (h:PC X op a b t) (h1:behindInMarks op b=false:=by first | exact nobehind _ (by decide) (by decide) | rfl):PT X (.Compare a [op] [b] pos) (tB t):=by
  intro pins s σ H Q I hw
  refine wpAny_isTrue_Compare1 (thn (h pins s σ H _ I hw) fun v s1 h1=>thn h1 fun u s2 h2=>thn h2 fun c s3 ⟨x,H1,I1,r1,q1⟩=>?_) h1
  obtain ⟨d,rfl,q⟩:=q1
  cases r1
  exact wpAny_truthy_bool ⟨H1,I1,q⟩
theorem pt_val {e:Expr} {t:TE} (h:PE X e t) (he:∀whole,isTrue e X.env whole=(do let v ←whole;standAt e.pos;holding [v] (truthy v)):=by intro _;rfl):PT X e (tB t):=by
  intro pins s σ H Q I hw
  refine isTrue_plain (thn (h pins s σ H _ I hw) fun v s1 ⟨x,H1,I1,r1,q1⟩=>?_) (he _)
  obtain ⟨d,rfl,q⟩:=q1
  cases r1
  exact wpAny_truthy_bool ⟨H1,I1,q⟩
variable {tA tB':TT} {rest:List Expr}
def tAnd (t u:TT):TT:=fun σ H Q=>t σ H fun c H1=>if c=true then u σ H1 Q else Q false H1
def tOr (t u:TT):TT:=fun σ H Q=>t σ H fun c H1=>if c=true then Q true H1 else u σ H1 Q
def tNot (t:TT):TT:=fun σ H Q=>t σ H fun c H1=>Q (!c) H1
theorem pw_and1 (ha:PT X a tA):PW X (.BoolOp .And [a] pos) tA:=by
  intro wh pins s σ H Q I h
  refine isTrue_and (thn (ha pins s σ H Q I h) fun c s1 e=>?_)
  cases c with
  | true=>exact isTrue_and_nil e
  | false=>exact e
theorem pw_or1 (ha:PT X a tA):PW X (.BoolOp .Or [a] pos) tA:=by
  intro wh pins s σ H Q I h
  refine isTrue_or (thn (ha pins s σ H Q I h) fun c s1 e=>?_)
  cases c with
  | false=>exact isTrue_or_nil e
  | true=>exact e
theorem pw_and (ha:PT X a tA) (hb:PW X (.BoolOp .And (b::rest) pos) tB'):PW X (.BoolOp .And (a::b::rest) pos) (tAnd tA tB'):=by
  intro wh pins s σ H Q I h
  refine isTrue_and (thn (ha pins s σ H _ I h) fun c s1 ⟨H1,I1,q1⟩=>?_)
  cases c with
  | true=>exact hb wh pins s1 σ H1 Q I1 q1
  | false=>exact ⟨H1,I1,q1⟩
theorem pw_or (ha:PT X a tA) (hb:PW X (.BoolOp .Or (b::rest) pos) tB'):PW X (.BoolOp .Or (a::b::rest) pos) (tOr tA tB'):=by
  intro wh pins s σ H Q I h
  refine isTrue_or (thn (ha pins s σ H _ I h) fun c s1 ⟨H1,I1,q1⟩=>?_)
  cases c with
  | true=>exact ⟨H1,I1,q1⟩
  | false=>exact hb wh pins s1 σ H1 Q I1 q1
theorem pt_not (ha:PT X a tA):PT X (.UnaryOp .Not a pos) (tNot tA):=by
  intro pins s σ H Q I h
  exact isTrue_not (ha pins s σ H (fun c H1=>Q (!c) H1) I h)
def tAndV (ta tb:TE):TE:=fun σ H Q=>ta σ H fun x H1=>∃c,x=.bl c∧if c=true then tb σ H1 Q else Q (.bl false) H1
def tNotV (ta:TE):TE:=fun σ H Q=>ta σ H fun x H1=>∃c,x=.bl c∧Q (.bl (!c)) H1
theorem pe_one {op} {t:TE} (h:PE X a t):PE X (.BoolOp op [a] pos) t:=fun pins s σ H Q I hw=>BoolOp_one (h pins s σ H Q I hw)
theorem pe_and (ha:PE X a ta) (hb:PE X (.BoolOp .And (b::rest) pos) tb):PE X (.BoolOp .And (a::b::rest) pos) (tAndV ta tb):=by
  intro pins s σ H Q I h
  refine BoolOp_and (thn (ha pins s σ H _ I h) fun v s1 ⟨x,H1,I1,r1,q1⟩=>?_)
  obtain ⟨c,rfl,q1⟩:=q1
  cases r1
  refine wpAny_truthy_bool ?_
  cases c with
  | true=>exact hb pins s1 σ H1 Q I1 q1
  | false=>exact ⟨.bl false,H1,I1,rfl,q1⟩
theorem pe_not (ha:PE X a ta):PE X (.UnaryOp .Not a pos) (tNotV ta):=by
  intro pins s σ H Q I h
  refine UnaryOp_ (thn (ha pins s σ H _ I h) fun v s1 ⟨x,H1,I1,r1,q1⟩=>?_)
  obtain ⟨c,rfl,q1⟩:=q1
  cases r1
  exact not_of (wpAny_truthy_bool ⟨.bl (!c),H1,I1,rfl,q1⟩)
def tIf (t:TT) (ta tb:TE):TE:=fun σ H Q=>t σ H fun c H1=>if c=true then ta σ H1 Q else tb σ H1 Q
theorem pe_ifExp {c:Expr} (hc:PT X c tA) (ha:PE X a ta) (hb:PE X b tb):PE X (.IfExp c a b pos) (tIf tA ta tb):=by
  intro pins s σ H Q I h
  refine wpAny_IfExp (thn (hc pins s σ H _ I h) fun d s1 ⟨H1,I1,q1⟩=>?_)
  cases d with
  | true=>exact ha pins s1 σ H1 Q I1 q1
  | false=>exact hb pins s1 σ H1 Q I1 q1
end
end L2
namespace L2
open PySem PySem.Spec PyProof.Rows
def SqL (K:PySem.W.Frag) (H:Hp) (a:Addr) (xs:List V):Prop :=
  Rd H a (.lst xs) ∨
    ∃(o:Obj) (its:Array Value) (n:Nat),K.lookup a=some o∧o.cls=.type "list" ∧ o.dict=none∧o.data=.seq its n∧its.size≤sizeLine∧Vals xs its.toList
def SqT (K:PySem.W.Frag) (H:Hp) (a:Addr) (xs:List V):Prop :=
  Rd H a (.tup xs) ∨
    ∃(o:Obj) (its:Array Value) (n:Nat),K.lookup a=some o∧o.cls=.type "tuple" ∧ o.data=.seq its n∧its.size≤sizeLine∧Vals xs its.toList
def absV:Value→Option V
  | .none=>some .non
  | .bool b=>some (.bl b)
  | .int i _=>some (.int i)
  | .str x _=>some (.str x)
  | .bytes b _=>some (.byt b)
  | .float b _=>some (.flt b)
  | .ref a=>some (.ref a)
  | .type n=>some (.ty n)
  | _=>none
theorem RelV.abs {x:V} {u:Value} (r:RelV x u):absV u=some x:=by
  cases x with
  | non=>cases r;rfl
  | bl _=>cases r;rfl
  | int _=>obtain ⟨t,rfl⟩:=r;rfl
  | str _=>obtain ⟨t,rfl⟩:=r;rfl
  | byt _=>obtain ⟨t,rfl⟩:=r;rfl
  | flt _=>obtain ⟨t,rfl⟩:=r;rfl
  | ref _=>cases r;rfl
  | ty _=>cases r;rfl
theorem RelV.inj {x y:V} {u:Value} (r:RelV x u) (q:RelV y u):x=y:=Option.some.inj (r.abs.symm.trans q.abs)
theorem Vals.inj:∀{xs ys:List V} {us:List Value},Vals xs us→Vals ys us→xs=ys
  | _,_,_,.nil,.nil=>rfl
  | _,_,_,.cons r t,.cons r' t'=>by rw [r.inj r',Vals.inj t t']
section
variable {X:Cx} {pins:List (Addr×Obj)} {σ:St} {H:Hp} {s:Shared} {a:Addr} {xs ys:List V}
theorem SqL.of {K:PySem.W.Frag} (h:H a=some (.lst xs)):SqL K H a xs:=.inl (.inl h)
theorem SqT.of {K:PySem.W.Frag} (h:H a=some (.tup xs)):SqT K H a xs:=.inl (.inl h)
theorem Inv.list (I:Inv X pins σ H s) (h:SqL X.K H a xs):∃its:List Value,Vals xs its∧PlainL s.heap a its.toArray∧xs.length≤sizeLine:=by
  rcases h with h | ⟨o,its,n,hk,hc,hd,hs,hz,r⟩
  · obtain ⟨z,its,n,r,e⟩:=h.ok I.hok
    exact ⟨its,r,⟨_,n,e,rfl,rfl,rfl⟩,z⟩
  · refine ⟨its.toList,r,⟨o,n,I.kIn a o hk,hc,hd,by simpa using hs⟩,?_⟩
    have e:=r.length
    simp only [Array.length_toList] at e
    omega
theorem Inv.tuple (I:Inv X pins σ H s) (h:SqT X.K H a xs):∃its:List Value,Vals xs its∧IsTup s.heap a its.toArray∧xs.length≤sizeLine:=by
  rcases h with h | ⟨o,its,n,hk,hc,hs,hz,r⟩
  · obtain ⟨z,its,r,p⟩:=h.ok I.hok
    exact ⟨its,r,p,z⟩
  · refine ⟨its.toList,r,⟨o,I.kIn a o hk,hc,n,by simpa using hs⟩,?_⟩
    have e:=r.length
    simp only [Array.length_toList] at e
    omega
theorem Inv.list_inj (I:Inv X pins σ H s) (h:SqL X.K H a xs) (h':SqL X.K H a ys):xs=ys:=by
  obtain ⟨its,r,⟨o,n,e,_,_,d⟩,_⟩:=I.list h
  obtain ⟨its',r',⟨o',n',e',_,_,d'⟩,_⟩:=I.list h'
  rw [e] at e';cases e'
  rw [d] at d'
  injection d' with d1 _
  have:its=its':=by simpa using congrArg Array.toList d1
  subst this
  exact r.inj r'
end
abbrev Cx.wish (X:Cx) (E:Value→Shared→Prop):Cx:={ X with xe:=E }
abbrev Cx.nox (X:Cx):Cx:=X.wish fun _ _=>False
theorem Cx.Ok.wish {X:Cx} (ok:X.Ok) (E:Value→Shared→Prop):(X.wish E).Ok :=
  ⟨ok.mod,ok.kind,ok.glob,ok.blt,ok.above,ok.inj,ok.has,ok.cab,ok.hd,ok.frames,ok.stk,ok.exf,ok.bs,ok.bsz,ok.noex,ok.exfs,ok.funs,ok.frf⟩
theorem Cx.Ok.unwish {X:Cx} {E:Value→Shared→Prop} (ok:(X.wish E).Ok):X.Ok :=
  ⟨ok.mod,ok.kind,ok.glob,ok.blt,ok.above,ok.inj,ok.has,ok.cab,ok.hd,ok.frames,ok.stk,ok.exf,ok.bs,ok.bsz,ok.noex,ok.exfs,ok.funs,ok.frf⟩
section
variable {X:Cx} {pins:List (Addr×Obj)} {σ:St} {H:Hp} {s:Shared} {E:Value→Shared→Prop}
theorem Inv.wish (I:Inv X pins σ H s) (E:Value→Shared→Prop):Inv (X.wish E) pins σ H s:=⟨I.ok.wish E,I.os,I.bare,I.base,I.loc,I.cell,I.free,I.freeC,I.pin,I.hok,I.len⟩
theorem Inv.unwish (I:Inv (X.wish E) pins σ H s):Inv X pins σ H s:=⟨I.ok.unwish,I.os,I.bare,I.base,I.loc,I.cell,I.free,I.freeC,I.pin,I.hok,I.len⟩
theorem SP.unwish {D:Ends} {f:Flow} {s':Shared} (h:SP (X.wish E) pins D f s'):SP X pins D f s':=by
  cases f with
  | next=>obtain ⟨σ',H',I,q⟩:=h;exact ⟨σ',H',I.unwish,q⟩
  | brk=>obtain ⟨σ',H',I,q⟩:=h;exact ⟨σ',H',I.unwish,q⟩
  | cont=>obtain ⟨σ',H',I,q⟩:=h;exact ⟨σ',H',I.unwish,q⟩
  | ret u=>obtain ⟨v,σ',H',I,r,q⟩:=h;exact ⟨v,σ',H',I.unwish,r,q⟩
theorem PE.nox {e:Expr} {t:TE} (h:PE X.nox e t):PE X e t:=fun pins s σ H Q I hw =>
  wpAny_mono (h pins s σ H Q (I.wish _) hw) (fun _ _ ⟨v,H',I',r,q⟩=>⟨v,H',I'.unwish,r,q⟩) fun _ _ z=>False.elim z
theorem PT.nox {e:Expr} {t:TT} (h:PT X.nox e t):PT X e t:=fun pins s σ H Q I hw =>
  wpAny_mono (h pins s σ H Q (I.wish _) hw) (fun _ _ ⟨H',I',q⟩=>⟨H',I'.unwish,q⟩) fun _ _ z=>False.elim z
theorem PSs.nox {st:List Stmt} {t:TS} (h:PSs X.nox st t):PSs X st t:=fun pins s σ H D I hw =>
  wpAny_mono (h pins s σ H D (I.wish _) hw) (fun _ _ q=>q.unwish) fun _ _ z=>False.elim z
end
section
variable {X:Cx} {st:Stmt} {rest:List Stmt} {t u:TS} {e:Expr} {te:TE} {pos:Pos}
def tNext:TS:=fun D σ H=>D.nx σ H
def tSeq (t u:TS):TS:=fun D σ H=>t { D with nx:=u D } σ H
theorem pss_nil:PSs X [] tNext:=fun _ _ σ H _ I h=>wpAny_execs_nil ⟨σ,H,I,h⟩
theorem pss_cons (h1:PS X st t) (h2:PSs X rest u):PSs X (st::rest) (tSeq t u):=by
  intro pins s σ H D I h
  refine wpAny_execs_cons (thn (h1 pins s σ H { D with nx:=u D } I h) fun f s1 q=>?_)
  cases f with
  | next =>
    obtain ⟨σ',H',I',q⟩:=q
    exact h2 pins s1 σ' H' D I' q
  | ret v=>exact q
  | brk=>exact q
  | cont=>exact q
theorem pss_one (h1:PS X st t):PSs X [st] t:=by
  intro pins s σ H D I h
  refine wpAny_execs_cons (thn (h1 pins s σ H D I h) fun f s1 q=>?_)
  cases f with
  | next=>exact wpAny_execs_nil q
  | ret v=>exact q
  | brk=>exact q
  | cont=>exact q
theorem Inv.quiet {pins:List (Addr×Obj)} {σ:St} {H:Hp} {s:Shared} (I:Inv X pins σ H s):interactive X.env=false:=by simp [interactive,I.ok.kind]
def tDrop (te:TE):TS:=fun D σ H=>te σ H fun _ H1=>D.nx σ H1
theorem ps_expr (he:PE X e te) (hs:swapsWith e none pos.line X.env=pure false:=by rfl):PS X (.Expr e pos) (tDrop te):=by
  intro pins s σ H D I h
  exact wpAny_Expr_any (thn (he pins s σ H _ I h) fun v s1 ⟨x,H1,I1,r1,q1⟩=>⟨σ,H1,I1,q1⟩) I.quiet hs
def tRet (te:TE):TS:=fun D σ H=>te σ H D.rt
theorem ps_ret (he:PE X e te):PS X (.Return (some e) pos) (tRet te):=by
  intro pins s σ H D I h
  exact wpAny_Return_some (thn (he pins s σ H _ I h) fun v s1 ⟨x,H1,I1,r1,q1⟩=>⟨x,σ,H1,I1,r1,q1⟩)
def tIfS (c:TT) (t u:TS):TS:=fun D σ H=>c σ H fun b H1=>if b=true then t D σ H1 else u D σ H1
theorem ps_if {c:Expr} {a b:List Stmt} {tc:TT} (hc:PT X c tc) (ha:PSs X a t) (hb:PSs X b u):PS X (.If c a b pos) (tIfS tc t u):=by
  intro pins s σ H D I h
  refine wpAny_If (thn (hc pins s σ H _ I h) fun d s1 ⟨H1,I1,q1⟩=>?_)
  cases d with
  | true=>exact ha pins s1 σ H1 D I1 q1
  | false=>exact hb pins s1 σ H1 D I1 q1
def tNever:TS:=fun _ _ _=>False
theorem ps_never:PS X st tNever:=fun _ _ _ _ _ _ h=>h.elim
end
abbrev TG:=V→St→Hp→(St→Hp→Prop)→Prop
abbrev TGs:=List V→St→Hp→(St→Hp→Prop)→Prop
def PG (X:Cx) (target:Expr) (t:TG):Prop :=
  ∀(pins:List (Addr×Obj)) (s:Shared) (σ:St) (H:Hp) (v:V) (u:Value) (Q:St→Hp→Prop),Inv X pins σ H s→RelV v u→t v σ H Q →
    wpAny (model X.prog X.w) X.A (assign target X.env u) (fun _ s'=>∃σ' H',Inv X pins σ' H' s'∧Q σ' H') X.xe s
def PGs (X:Cx) (ts:List Expr) (t:TGs):Prop :=
  ∀(pins:List (Addr×Obj)) (s:Shared) (σ:St) (H:Hp) (vs:List V) (us:List Value) (Q:St→Hp→Prop),Inv X pins σ H s→Vals vs us→t vs σ H Q →
    wpAny (model X.prog X.w) X.A (assignInOrder ((assignEach ts X.env).map (·.2)) us) (fun _ s'=>∃σ' H',Inv X pins σ' H' s'∧Q σ' H') X.xe s
abbrev TSet:=V→V→V→Hp→(Hp→Prop)→Prop
def PSet (X:Cx) (t:TSet):Prop :=
  ∀(pins:List (Addr×Obj)) (s:Shared) (σ:St) (H:Hp) (o i v:V) (ov iv u:Value) (Q:Hp→Prop),Inv X pins σ H s→RelV o ov→RelV i iv→RelV v u→t o i v H Q →
    wpAny (model X.prog X.w) X.A (setItem ov iv u) (fun _ s'=>∃H',Inv X pins σ H' s'∧Q H') X.xe s
abbrev TIp:=V→V→Hp→VK→Prop
def PIp (X:Cx) (op:Operator) (t:TIp):Prop :=
  ∀(pins:List (Addr×Obj)) (s:Shared) (σ:St) (H:Hp) (x y:V) (v u:Value) (Q:VK),Inv X pins σ H s→RelV x v→RelV y u→t x y H Q →
    wpAny (model X.prog X.w) X.A (inplaceOp op v u) (EP X pins σ Q) X.xe s
section
variable {X:Cx} {pos:Pos}
def gName (i:Nat):TG:=fun v σ H Q=>Q (σ.set i (some v)) H
theorem pg_name {i:Nat} {x:Str} (hN:X.N.Nodup) (hi:X.N[i]?=some x) (hx:Loc X.env.scope x) (hf:X.fn x=true∨X.env.scope.names.lookup x=some .local:=by first | exact .inl rfl | exact .inr rfl | assumption):PG X (.Name x pos) (gName i):=by
  intro pins s σ H v u Q I r h
  exact wpAny_assign_Name (store_ok I hN hi hx r (fun s' I'=>⟨_,H,I',h⟩) hf)
def gNil:TGs:=fun vs σ H Q=>vs=[]∧Q σ H
def gCons (t:TG) (u:TGs):TGs:=fun vs σ H Q=>∃v r,vs=v::r∧t v σ H fun σ' H'=>u r σ' H' Q
theorem pgs_nil:PGs X [] gNil:=by
  intro pins s σ H vs us Q I r h
  obtain ⟨e,h⟩:=h
  subst e
  cases r
  exact assignInOrder_nil ⟨σ,H,I,h⟩
theorem pgs_cons {e:Expr} {es:List Expr} {t:TG} {u:TGs} (h1:PG X e t) (h2:PGs X es u)
    (hs:(assignEach (e::es) X.env).map (·.2)=assign e X.env::(assignEach es X.env).map (·.2):=by rfl):PGs X (e::es) (gCons t u):=by
  intro pins s σ H vs us Q I r h
  obtain ⟨v,vr,e1,h⟩:=h
  subst e1
  cases r with
  | cons r rr =>
    rw [hs]
    refine assignInOrder_cons (thn (h1 pins s σ H _ _ _ I r h) fun _ s1 ⟨σ1,H1,I1,q1⟩=>?_)
    exact h2 pins s1 σ1 H1 _ _ Q I1 rr q1
def gTup (K:PySem.W.Frag) (n:Nat) (t:TGs):TG:=fun v σ H Q=>∃a xs,v=.ref a∧SqT K H a xs∧xs.length=n∧t xs σ H Q
theorem pg_tup {es:List Expr} {k:Nat} {t:TGs} {n:Nat} (hc:X.calm=true) (h:PGs X es t)
    (hn:(assignEach es X.env).length=n:=by rfl) (hst:(assignEach es X.env).findIdx? (·.1)=none:=by rfl):PG X (.Tuple es k pos) (gTup X.K n t):=by
  intro pins s σ H v u Q I r hw
  obtain ⟨a,xs,e1,hq,hl,hw⟩:=hw
  subst e1
  cases r
  obtain ⟨its,rv,ht,hz⟩:=I.tuple hq
  refine assign_Tuple_tuple (I.ok.hd hc) ht (by simp [hn,←hl,rv.length]) hst fun h' hx=>?_
  have I1:Inv X pins σ H { s with heap:=h' }:=I.kept (t':=s.toks) fun b o e=>hx b o (Nat.ne_of_lt (Heap.lt_size e)) e
  exact h pins _ σ H xs _ Q I1 (by simpa using rv) hw
def gSub (to ti:TE) (t:TSet):TG:=fun v σ H Q=>to σ H fun o H1=>ti σ H1 fun i H2=>t o i v H2 fun H3=>Q σ H3
theorem pg_sub {o i:Expr} {to ti:TE} {t:TSet} (ho:PE X o to) (hi:PE X i ti) (hs:PSet X t)
    (ha:∀v,assign (.Subscript o i pos) X.env v=(do
      let ov ←holding [v] (eval o X.env)
      let iv ←holding [v,ov] (eval i X.env)
      standAt pos
      holding [v,ov,iv] (setItem ov iv v)
      release [v,ov,iv] []):=by intro _;rfl):PG X (.Subscript o i pos) (gSub to ti t):=by
  intro pins s σ H v u Q I r h
  rw [ha]
  refine wpAny_bind (wpAny_holding (thn (ho pins s σ H _ I h) fun ov s1 ⟨x,H1,I1,r1,q1⟩=>?_))
  refine wpAny_bind (wpAny_holding (thn (hi pins s1 σ H1 _ I1 q1) fun iv s2 ⟨y,H2,I2,r2,q2⟩=>?_))
  refine wpAny_bind (wpAny_standAt (wpAny_bind (wpAny_holding (thn (hs pins s2 σ H2 x y v ov iv u _ I2 r1 r2 r q2) fun _ s3 ⟨H3,I3,q3⟩=>?_))))
  exact wpAny_release ⟨σ,H3,I3,q3⟩
def tAsg (te:TE) (g:TG):TS:=fun D σ H=>te σ H fun x H1=>g x σ H1 D.nx
theorem ps_asg {tg e:Expr} {te:TE} {g:TG} (he:PE X e te) (hg:PG X tg g) (hs:swapsWithSole [tg] e pos.line X.env=pure false:=by rfl) (hw:swappedStores [tg] e X.env=pure none:=by rfl)
    (h1:(assignEach [tg] X.env).map (·.2)=[assign tg X.env]:=by rfl):PS X (.Assign [tg] e pos) (tAsg te g):=by
  intro pins s σ H D I h
  refine wpAny_Assign_stores (thn (he pins s σ H _ I h) fun v s1 ⟨x,H1,I1,r1,q1⟩=>?_) hs hw
  rw [h1]
  exact thn (hg pins s1 σ H1 x v _ I1 r1 q1) fun _ s2 q=>q
theorem ps_set {i:Nat} {x:Str} {e:Expr} {te:TE} {pos':Pos} (hN:X.N.Nodup) (hi:X.N[i]?=some x) (hx:Loc X.env.scope x) (he:PE X e te) (hs:swapsWith e (some (.Name x pos')) pos.line X.env=pure false:=by rfl) (hf:X.fn x=true∨X.env.scope.names.lookup x=some .local:=by first | exact .inl rfl | exact .inr rfl | assumption) :
    PS X (.Assign [.Name x pos'] e pos) (tAsg te (gName i)):=by
  intro pins s σ H D I h
  refine wpAny_Assign_Name (thn (he pins s σ H _ I h) fun v s1 ⟨y,H1,I1,r1,q1⟩=>?_) hs
  exact store_ok I1 hN hi hx r1 (fun s2 I2=>⟨_,H1,I2,q1⟩) hf
def tAug (i:Nat) (te:TE) (ti:TIp):TS:=fun D σ H=>∃x,σ[i]?=some (some x)∧te σ H fun y H1=>ti x y H1 fun z H2=>D.nx (σ.set i (some z)) H2
theorem ps_aug {i:Nat} {x:Str} {e:Expr} {te:TE} {op:Operator} {ti:TIp} {pos':Pos} (hN:X.N.Nodup) (hi:X.N[i]?=some x) (hx:Loc X.env.scope x) (he:PE X e te) (ho:PIp X op ti) (hf:X.fn x=true∨X.env.scope.names.lookup x=some .local:=by first | exact .inl rfl | exact .inr rfl | assumption) :
    PS X (.AugAssign (.Name x pos') op e pos) (tAug i te ti):=by
  intro pins s σ H D I h
  obtain ⟨v,e1,h⟩:=h
  obtain ⟨m,hn,hl⟩:=I.loc
  have vis:Vis X.env.scope x:=by rcases hx with k | k;exact .inl k;exact .inr (.inl k)
  obtain ⟨u,r,l⟩:=hl i x v hi e1 vis
  refine wpAny_AugAssign_Name ?_
  have go:wpAny (model X.prog X.w) X.A (eval e X.env) (fun w s₂=>wpAny (model X.prog X.w) X.A (inplaceOp op u w) (fun r s₃=>wpAny (model X.prog X.w) X.A (storeName X.env x r) (fun _=>SP X pins D .next) X.xe s₃) X.xe s₂) X.xe s:=by
    refine thn (he pins s σ H _ I h) fun w s1 ⟨y,H1,I1,r1,q1⟩=>?_
    refine thn (ho pins s1 σ H1 v y u w _ I1 r r1 q1) fun z s2 ⟨zv,H2,I2,r2,q2⟩=>?_
    exact store_ok I2 hN hi hx r2 (fun s3 I3=>⟨_,H2,I3,q2⟩) hf
  rcases l with ⟨hk,hm⟩ | ⟨hk,c,hc,hcell⟩
  · exact wpAny_loadName_local I.ok.kind hk hn hm go
  · rcases hk with hk | hk
    · exact wpAny_loadName_cell I.ok.kind hk hc hcell go
    · rcases hx with k | k
      · have:X.env.scope.names.lookup x=some .free:=hk
        rw [k] at this;cases this
      · have:X.env.scope.names.lookup x=some .free:=hk
        rw [k] at this;cases this
def ipI (f:Int→Int→Int):TIp:=fun x y H Q=>∃i j,x=.int i∧y=.int j∧Q (.int (f i j)) H
theorem ip_add:PIp X .Add (ipI fun i j=>i+j):=by
  intro pins s σ H x y v u Q I r1 r2 h
  obtain ⟨i,j,e1,e2,q⟩:=h
  subst e1;subst e2
  obtain ⟨t,rfl⟩:=r1
  obtain ⟨t',rfl⟩:=r2
  exact iadd_int ⟨.int _,H,I.tok _,⟨_,rfl⟩,q⟩
end
section
variable {X:Cx} {pos:Pos}
def tWhile (c:TT) (tb:TS):TS:=fun D σ H=>∃W:Nat→St→Hp→Prop,(∃m,W m σ H)∧∀m σ H,W m σ H →
  c σ H fun b H1=>if b=true then ∃N:St→Hp→Prop,(∀σ' H',N σ' H'→∃m',m'<m∧W m' σ' H')∧tb { D with nx:=N,ct:=N,bk:=D.nx } σ H1 else D.nx σ H1
theorem ps_while {c:Expr} {body:List Stmt} {tc:TT} {tb:TS} (hp:PassesOwn (model X.prog X.w) X.A X.env X.xe) (hc:PT X c tc) (hb:PSs X body tb):PS X (.While c body [] pos) (tWhile tc tb):=by
  intro pins s σ H D I h
  obtain ⟨W,⟨m0,w0⟩,turn⟩:=h
  refine wpAny_While (codeAny_whileLoop (fun n s'=>∃σ' H',Inv X pins σ' H' s'∧W n σ' H') ?_ m0 ⟨σ,H,I,w0⟩)
  rintro n s1 ⟨σ1,H1,I1,w1⟩
  refine wpAny_passesOwn hp (thn (hc pins s1 σ1 H1 _ I1 (turn n σ1 H1 w1)) fun b s2 ⟨H2,I2,q2⟩=>?_)
  cases b with
  | true =>
    obtain ⟨N,hN,q2⟩:=q2
    rw [if_pos rfl]
    refine wpAny_passesOwn hp (thn (hb pins s2 σ1 H2 _ I2 q2) fun f s3 q3=>?_)
    cases f with
    | next =>
      obtain ⟨σ3,H3,I3,n3⟩:=q3
      obtain ⟨m',hm,w3⟩:=hN σ3 H3 n3
      exact ⟨m',hm,σ3,H3,I3,w3⟩
    | cont =>
      obtain ⟨σ3,H3,I3,n3⟩:=q3
      obtain ⟨m',hm,w3⟩:=hN σ3 H3 n3
      exact ⟨m',hm,σ3,H3,I3,w3⟩
    | brk=>exact q3
    | ret v=>exact q3
  | false =>
    rw [if_neg Bool.false_ne_true]
    exact wpAny_execs_nil ⟨σ1,H2,I2,q2⟩
end
structure It where
  go:Nat→Hp→Prop
  yld:Nat→Hp→V→Hp→Prop
  stop:Nat→Hp→Prop
def FpOk (X:Cx) (pins:List (Addr×Obj)) (H:Hp) (b:Addr):Prop :=
  H b=none∧b≠X.env.locals∧b∉X.fs∧(b∈X.ex∨X.s₀.heap.objs.size≤b)∧(∀x c,X.env.cells.lookup x=some c→c≠b)∧∀p∈X.pn++pins,p.1≠b
theorem Inv.fpOk {X:Cx} {pins:List (Addr×Obj)} {σ:St} {H H':Hp} {s:Shared} {b:Addr} (I:Inv X pins σ H s) (hb:s.heap.objs.size≤b) (hn:H' b=none):FpOk X pins H' b:=by
  refine ⟨hn,Nat.ne_of_gt (Nat.lt_of_lt_of_le I.lt hb),I.nofs hb,.inr (Nat.le_trans I.sz hb),fun x c e z=>?_,fun p hp z=>?_⟩
  · obtain ⟨v,q⟩:=I.cell x c e
    exact absurd (Nat.lt_of_lt_of_le q.lt (by rw [z];exact hb)) (Nat.lt_irrefl _)
  · exact absurd (Nat.lt_of_lt_of_le (Heap.lt_size (I.pin p hp).1) (by rw [z];exact hb)) (Nat.lt_irrefl _)
structure Turn (P:Program) (w:World) (K:PySem.W.Frag) (tg:Expr) (J:It) (fp:List Addr) (it:Addr) (tn:Nat→Heap→Prop):Prop where
  mem:it∈fp
  obj:∀i h,tn i h→∀b∈fp,∃o,h.get? b=some o∧∀v,o.data≠.cell v
  keep:∀i h h',tn i h→(∀b∈fp,∀o,h.get? b=some o→h'.get? b=some o)→tn i h'
  item:∀(X:Cx),X.prog=P→X.w=w→X.K=K→X.calm=true→∀(i:Nat) (pins:List (Addr×Obj)) (s:Shared) (σ:St) (H:Hp) (E:Value→Shared→Prop),Inv X pins σ H s→(∀b∈fp,FpOk X pins H b)→tn i s.heap→J.go i H →
    wpAny (model P w) X.A (pyNext (.ref it)) (fun r s1=>∃u,r=some u ∧
      wpAny (model P w) X.A (letOwnedTupleGo tg (.ref it) u) (fun _ s2=>∃x H',Inv X pins σ H' s2∧RelV x u∧J.yld i H x H'∧tn (i+1) s2.heap∧∀b∈fp,H' b=none) E s1) E s
  done:∀(X:Cx),X.prog=P→X.w=w→X.K=K→X.calm=true→∀(i:Nat) (pins:List (Addr×Obj)) (s:Shared) (σ:St) (H:Hp) (E:Value→Shared→Prop),Inv X pins σ H s→(∀b∈fp,FpOk X pins H b)→tn i s.heap→J.stop i H →
    wpAny (model P w) X.A (pyNext (.ref it)) (fun r s1=>r=none∧Inv X pins σ H s1) E s
  self:∀(A:Around) (i:Nat) (s:Shared) (Q:Value→Shared→Prop) (E:Value→Shared→Prop),tn i s.heap→Q (.ref it) s→wpAny (model P w) A (pyIter (.ref it)) Q E s
abbrev TI:=St→Hp→(It→Hp→Prop)→Prop
def PIE (X:Cx) (pins:List (Addr×Obj)) (σ:St) (tg:Expr) (R:It→Hp→Prop) (itv:Value) (s2:Shared):Prop :=
  ∃(it:Addr) (fp:List Addr) (tn:Nat→Heap→Prop) (J:It) (H':Hp),itv=.ref it∧Inv X pins σ H' s2∧Turn X.prog X.w X.K tg J fp it tn∧tn 0 s2.heap∧(∀b∈fp,FpOk X pins H' b)∧R J H'
def PI (X:Cx) (tg iter:Expr) (wi:TI):Prop :=
  ∀(pins:List (Addr×Obj)) (s:Shared) (σ:St) (H:Hp) (R:It→Hp→Prop),Inv X pins σ H s→wi σ H R →
    wpAny (model X.prog X.w) X.A (eval iter X.env) (fun v s1=>wpAny (model X.prog X.w) X.A (pyIter v) (PIE X pins σ tg R) X.xe s1) X.xe s
theorem go_of {M:Model} {A:Around} {E:Value→Shared→Prop} {s:Shared} {tg:Expr} {it:Addr} {u:Value} {o:Obj} {n:String} {vs:Array Value} {Q:Unit→Shared→Prop} (ho:s.heap.get? it=some o) (hc:o.cls=.type n) (hd:o.data=.fields vs)
    (hn:["enumerate","zip","dict_itemiterator","dict_reverseitemiterator","odict_iterator","itertools.zip_longest","itertools.pairwise"].contains n=false) (hQ:Q () s):wpAny M A (letOwnedTupleGo tg (.ref it) u) Q E s:=by
  unfold letOwnedTupleGo
  cases tg <;> first
    | exact wpAny_pure hQ
    | (cases u <;> first
        | exact wpAny_pure hQ
        | (refine wpAny_bind (wpAny_load ho ?_)
           rw [hc,hd]
           show wpAny M A (if (["enumerate","zip","dict_itemiterator","dict_reverseitemiterator","odict_iterator","itertools.zip_longest","itertools.pairwise"].contains n&&vs[0]? == some (rawInt _))=true then _ else _) Q E s
           rw [if_neg (by intro h;rw [hn,Bool.false_and] at h;cases h)]
           exact wpAny_pure hQ))
def Itl (K:PySem.W.Frag) (a:Addr):It :=
  ⟨fun i H=>∃xs x,SqL K H a xs∧xs[i]?=some x,fun i H x H'=>H'=H∧∀xs,SqL K H a xs→xs[i]?=some x,fun i H=>∃xs,SqL K H a xs∧xs.length≤i⟩
def Itr (lo:Int) (n:Nat):It:=⟨fun i _=>i<n,fun i H x H'=>H'=H∧x=.int (lo+i),fun i _=>n≤i⟩
theorem turn_list {P:Program} {w:World} {K:PySem.W.Frag} {tg:Expr} (a it:Addr):Turn P w K tg (Itl K a) [it] it (fun i h=>h.IsListIter it a i) where
  mem:=by simp
  obj:=fun i h st b hb=>by
    have e:b=it:=by simpa using hb
    subst e
    obtain ⟨o,e,c,d⟩:=st
    exact ⟨o,e,fun v z=>by rw [d] at z;cases z⟩
  keep:=fun i h h' st k=>st.at fun o e=>k it (by simp) o e
  item:=by
    intro X hP hw hK hc i pins s σ H E I hf st hg
    subst hP hw hK
    obtain ⟨xs,x,hq,hx⟩:=hg
    obtain ⟨its,rv,p,hz⟩:=I.list hq
    obtain ⟨u,hu,ru⟩:=rv.get hx
    obtain ⟨f0,f1,f2,f3,f4,f5⟩:=hf it (by simp)
    refine wpAny_pyNext_list_item st p.isList (x:=u) (by simpa using hu) fun h' st' sb=>?_
    have I1:Inv X pins σ H { s with heap:=h' }:=I.turned (t':=s.toks) (fun b o hb e=>(sb.2 b hb).trans e) f0 f1 f3 f4 f5
    obtain ⟨o,e,c,d⟩:=id st'
    exact ⟨u,rfl,go_of (s:={ s with heap:=h' }) e c d (by decide) ⟨x,H,I1,ru,⟨rfl,fun ys hy=>by rw [I.list_inj hy hq];exact hx⟩,st',fun b hb=>(hf b hb).1⟩⟩
  done:=by
    intro X hP hw hK hc i pins s σ H E I hf st hg
    subst hP hw hK
    obtain ⟨xs,hq,hx⟩:=hg
    obtain ⟨its,rv,p,hz⟩:=I.list hq
    obtain ⟨f0,f1,f2,f3,f4,f5⟩:=hf it (by simp)
    have hl:=rv.length
    exact wpAny_pyNext_list_end (I.ok.hd hc) st p.isList (by simp;omega) fun h' eb=>⟨rfl,I.turned (t':=s.toks) (fun b o hb e=>eb b o hb e) f0 f1 f3 f4 f5⟩
  self:=fun _ _ _ _ _ st h=>wpAny_pyIter_listiter st h
theorem turn_range {P:Program} {w:World} {K:PySem.W.Frag} {tg:Expr} (it:Addr) (lo:Int) (n:Nat):Turn P w K tg (Itr lo n) [it] it (fun i h=>IsRangeIter h it (lo+(i:Nat)*1) ((n:Int) - (i:Nat)) 1) where
  mem:=by simp
  obj:=fun i h st b hb=>by
    have e:b=it:=by simpa using hb
    subst e
    exact ⟨_,st,fun v z=>by
      have z':Data.fields _=Data.cell v:=z
      cases z'⟩
  keep:=fun i h h' st k=>k it (by simp) _ st
  item:=by
    intro X hP hw hK hc i pins s σ H E I hf st hg
    subst hP hw hK
    obtain ⟨f0,f1,f2,f3,f4,f5⟩:=hf it (by simp)
    have W:=Walks.range (prog:=X.prog) (w:=X.w) (I.ok.hd hc) it lo 1 n
    refine W.item i s _ _ hg st fun v h' tk hv st' kk=>?_
    obtain ⟨t,rfl⟩:=hv
    have I1:Inv X pins σ H { s with heap:=h',toks:=tk }:=I.turned (fun b o hb e=>kk b o (by simpa using hb) e) f0 f1 f3 f4 f5
    refine ⟨_,rfl,go_of (s:={ s with heap:=h',toks:=tk }) (n := "range_iterator") st' rfl rfl (by decide) ⟨.int (lo+i),H,I1,⟨t,?_⟩,⟨rfl,rfl⟩,st',fun b hb=>(hf b hb).1⟩⟩
    rw [Int.mul_one]
  done:=by
    intro X hP hw hK hc i pins s σ H E I hf st hg
    subst hP hw hK
    obtain ⟨f0,f1,f2,f3,f4,f5⟩:=hf it (by simp)
    exact wpAny_pyNext_range_end (I.ok.hd hc) st (by have:n≤i:=hg;omega) fun h' eb=>⟨rfl,I.turned (t':=s.toks) (fun b o hb e=>eb b o hb e) f0 f1 f3 f4 f5⟩
  self:=fun _ _ _ _ _ st h=>wpAny_pyIter_rangeiter st h
end L2
namespace L2
open PySem PySem.Spec PyProof.Rows
section
variable {X:Cx} {tg:Expr}
def iList (K:PySem.W.Frag) (tl:TE):TI:=fun σ H R=>tl σ H fun x H1=>∃a,x=.ref a∧(∃xs,SqL K H1 a xs)∧R (Itl K a) H1
theorem pi_list {l:Expr} {tl:TE} (hl:PE X l tl):PI X tg l (iList X.K tl):=by
  intro pins s σ H R I h
  refine thn (hl pins s σ H _ I h) fun v s1 ⟨x,H1,I1,r1,q1⟩=>?_
  obtain ⟨a,e,⟨xs,hq⟩,q⟩:=q1
  subst e
  cases r1
  obtain ⟨its,rv,p,hz⟩:=I1.list hq
  refine wpAny_pyIter_list p.isList ?_
  refine ⟨s1.heap.objs.size,[s1.heap.objs.size],_,_,H1,rfl,I1.kept (t':=s1.toks) fun b o e=>Heap.get?_push_of_some _ e,turn_list a _,⟨_,Heap.get?_push_size _ rfl,rfl,rfl⟩,fun b hb=>?_,q⟩
  have e:b=s1.heap.objs.size:=by simpa using hb
  subst e
  exact I1.fpOk (Nat.le_refl _) (I1.hok.fresh (Nat.le_refl _))
theorem range_it {pins:List (Addr×Obj)} {σ:St} {H:Hp} {s:Shared} {R:It→Hp→Prop} {E:Value→Shared→Prop} {lo hi:Int} {t u v:Tok} {tk:Nat} (I:Inv X pins σ H s) (h1:-(2^62)≤lo) (h2:lo<2^62) (h3:-(2^62)≤hi) (h4:hi<2^62)
    (q:R (Itr lo (hi - lo).toNat) H):wpAny (model X.prog X.w) X.A (pyIter (.ref s.heap.objs.size)) (PIE X pins σ tg R) E { s with heap:=s.heap.push { cls:=.type "range",data:=.fields #[.int lo t,.int hi u,.int 1 v] },toks:=tk }:=by
  refine wpAny_pyIter_range (IsRange.new ..) (small_one h1 h2 h3 h4) ?_
  have I1:Inv X pins σ H { s with heap:=s.heap.push { cls:=.type "range",data:=.fields #[.int lo t,.int hi u,.int 1 v] },toks:=tk }:=I.kept fun b o e=>Heap.get?_push_of_some _ e
  refine ⟨(s.heap.push { cls:=.type "range",data:=.fields #[.int lo t,.int hi u,.int 1 v] }).objs.size,[(s.heap.push { cls:=.type "range",data:=.fields #[.int lo t,.int hi u,.int 1 v] }).objs.size],_,_,H,rfl,
    I1.kept (t':=tk) fun b o e=>Heap.get?_push_of_some _ e,turn_range _ lo (hi - lo).toNat,?_,fun b hb=>?_,q⟩
  · have e1:lo+((0:Nat):Int)*1=lo:=by simp
    have e2:(((hi - lo).toNat:Nat):Int) - ((0:Nat):Int)=Builtin.Range.rangeSize lo hi 1:=by rw [rangeSize_one];split <;> omega
    show IsRangeIter _ _ (lo+((0:Nat):Int)*1) ((((hi - lo).toNat:Nat):Int) - ((0:Nat):Int)) 1
    rw [e1,e2]
    exact Heap.get?_push_size _ rfl
  · have e:b=(s.heap.push { cls:=.type "range",data:=.fields #[.int lo t,.int hi u,.int 1 v] }).objs.size:=by simpa using hb
    subst e
    exact I1.fpOk (Nat.le_refl _) (I1.hok.fresh (Nat.le_refl _))
def iRng1 (ta:TA):TI:=fun σ H R=>ta σ H fun vs H1=>∃j:Int,vs=[.int j]∧-(2^62)≤j∧j<2^62∧R (Itr 0 j.toNat) H1
def iRng2 (ta:TA):TI:=fun σ H R=>ta σ H fun vs H1=>∃i j:Int,vs=[.int i,.int j]∧(-(2^62)≤i∧i<2^62∧-(2^62)≤j∧j<2^62)∧R (Itr i (j - i).toNat) H1
theorem pi_range1 {a:Expr} {ta:TA} {p pos:Pos} (hg:Gl X "range") (hm:X.mg "range" = none) (ha:PA X [a] ta) (hs:starEach [a] X.env=[(false,eval a X.env)]:=by rfl):PI X tg (.Call (.Name "range" p) [a] [] pos) (iRng1 ta):=by
  intro pins s σ H R I h
  refine Call_ (ld_blt I hg hm boot_range (PyProof.Rows.callWith_type1 (thn (ha pos pins s σ H _ I h) fun us s1 ⟨vs,H1,I1,r1,q1⟩=>?_) hs rfl))
  obtain ⟨j,e,q1,q2,q⟩:=q1
  subst e
  cases r1 with
  | cons r rr =>
    cases rr
    obtain ⟨t,rfl⟩:=r
    exact call_range_1 (range_it I1 (by omega) (by omega) q1 q2 (by simpa using q))
theorem pi_range2 {a b:Expr} {ta:TA} {p pos:Pos} (hg:Gl X "range") (hm:X.mg "range" = none) (ha:PA X [a,b] ta) (hs:starEach [a,b] X.env=[(false,eval a X.env),(false,eval b X.env)]:=by rfl) (hs2:starEach [b] X.env=[(false,eval b X.env)]:=by rfl) :
    PI X tg (.Call (.Name "range" p) [a,b] [] pos) (iRng2 ta):=by
  intro pins s σ H R I h
  refine Call_ (ld_blt I hg hm boot_range (PyProof.Rows.callWith_type1 (thn (ha pos pins s σ H _ I h) fun us s1 ⟨vs,H1,I1,r1,q1⟩=>?_) (by rw [hs,hs2]) (by rw [hs2];rfl)))
  obtain ⟨i,j,e,⟨q1,q2,q3,q4⟩,q⟩:=q1
  subst e
  cases r1 with
  | cons r rr =>
    cases rr with
    | cons r' rr =>
      cases rr
      obtain ⟨t,rfl⟩:=r
      obtain ⟨t',rfl⟩:=r'
      exact call_range_2 (range_it I1 q1 q2 q3 q4 q)
def tFor (wi:TI) (g:TG) (tb:TS):TS:=fun D σ H=>wi σ H fun J H1=>∃W:Nat→Nat→St→Hp→Prop,(∃m,W 0 m σ H1)∧∀i m σ H,W i m σ H →
  (J.stop i H∧D.nx σ H)∨(J.go i H∧∃N:St→Hp→Prop,(∀σ' H',N σ' H'→∃m',m'<m∧W (i+1) m' σ' H')∧∀x H',J.yld i H x H'→g x σ H' fun σ2 H2=>tb { D with nx:=N,ct:=N,bk:=D.nx } σ2 H2)
def pinsAt (fp:List Addr) (h:Heap):List (Addr×Obj):=fp.filterMap fun b=>(h.get? b).map fun o=>(b,o)
theorem mem_pinsAt {fp:List Addr} {h:Heap} {b:Addr} {o:Obj} (hb:b∈fp) (e:h.get? b=some o):(b,o)∈pinsAt fp h:=List.mem_filterMap.mpr ⟨b,hb,by rw [e];rfl⟩
theorem of_pinsAt {fp:List Addr} {h:Heap} {p:Addr×Obj} (hp:p∈pinsAt fp h):p.1∈fp∧h.get? p.1=some p.2:=by
  obtain ⟨b,hb,e⟩:=List.mem_filterMap.mp hp
  cases q:h.get? b with
  | none=>rw [q] at e;cases e
  | some o =>
    rw [q] at e
    have e':(b,o)=p:=Option.some.inj e
    subst e'
    exact ⟨hb,q⟩
theorem Inv.pinned {pins:List (Addr×Obj)} {σ:St} {H:Hp} {s:Shared} {fp:List Addr} (I:Inv X pins σ H s) (hf:∀b∈fp,FpOk X pins H b) (ho:∀b∈fp,∃o,s.heap.get? b=some o∧∀v,o.data≠.cell v):Inv X (pins++pinsAt fp s.heap) σ H s :=
  I.pins_of fun p hp=>(List.mem_append.mp hp).elim (fun z=>I.pin p (List.mem_append_right _ z)) fun z=>by
    obtain ⟨hb,e⟩:=of_pinsAt z
    obtain ⟨f0,f1,f2,_⟩:=hf p.1 hb
    obtain ⟨o,e',d⟩:=ho p.1 hb
    rw [e] at e';cases e'
    exact ⟨e,f0,f1,f2,d⟩
theorem Inv.unpinned {pins pl:List (Addr×Obj)} {σ:St} {H:Hp} {s:Shared} (I:Inv X (pins++pl) σ H s):Inv X pins σ H s:=I.pins_of fun p hp=>I.pin p (List.mem_append_right _ (List.mem_append_left _ hp))
theorem ps_for {iter:Expr} {body:List Stmt} {wi:TI} {g:TG} {tb:TS} {pos:Pos} (hp:PassesOwn (model X.prog X.w) X.A X.env X.xe) (hc:X.calm=true) (hi:PI X tg iter wi) (hg:PG X tg g) (hb:PSs X body tb)
    (hs:∀x,foldedSetIterable iter X.env x=pure x:=by intro _;rfl):PS X (.For tg iter body [] pos) (tFor wi g tb):=by
  intro pins s σ H D I h
  refine wpAny_For (thn (hi pins s σ H _ I h) fun v s1 h1=>thn h1 fun itv s2 h2=>?_) hs
  obtain ⟨it,fp,tn,J,H2,e,I2,T,st2,f2,W,⟨m0,w0⟩,turn⟩:=h2
  subst e
  -- what stays true of the iterator's objects through the loop
  have stat:∀{H':Hp},(∀b∈fp,H' b=none)→∀b∈fp,FpOk X pins H' b:=fun hn b hb=>⟨hn b hb,(f2 b hb).2⟩
  refine codeAny_forLoop_any (fun n s'=>∃i σ' H',Inv X pins σ' H' s'∧tn i s'.heap∧(∀b∈fp,H' b=none)∧W i n σ' H') ?_ m0 ⟨0,σ,H2,I2,st2,fun b hb=>(f2 b hb).1,w0⟩
  rintro n s3 ⟨i,σ3,H3,I3,st3,fr3,w3⟩
  rcases turn i n σ3 H3 w3 with ⟨stop,qn⟩ | ⟨go,N,hN,step⟩
  · refine wpAny_passesOwn hp (thn (T.done X rfl rfl rfl hc i pins s3 σ3 H3 X.xe I3 (stat fr3) st3 stop) fun r s4 ⟨hr,I4⟩=>?_)
    subst hr
    exact wpAny_execs_nil ⟨σ3,H3,I4,qn⟩
  · refine wpAny_passesOwn hp (thn (T.item X rfl rfl rfl hc i pins s3 σ3 H3 X.xe I3 (stat fr3) st3 go) fun r s4 ⟨u,hr,h4⟩=>?_)
    subst hr
    refine wpAny_passesOwn hp (thn h4 fun _ s5 ⟨x,H5,I5,r5,y5,st5,fr5⟩=>?_)
    have I5':=I5.pinned (stat fr5) (T.obj _ _ st5)
    refine wpAny_passesOwn hp (thn (hg _ s5 σ3 H5 x u _ I5' r5 (step x H5 y5)) fun _ s6 ⟨σ6,H6,I6,q6⟩=>?_)
    refine wpAny_passesOwn hp (thn (hb _ s6 σ6 H6 _ I6 q6) fun f s7 q7=>?_)
    have again:∀{σ7:St} {H7:Hp},Inv X (pins++pinsAt fp s5.heap) σ7 H7 s7→N σ7 H7→∃m,m<n∧∃i σ' H',Inv X pins σ' H' s7∧tn i s7.heap∧(∀b∈fp,H' b=none)∧W i m σ' H':=fun {σ7 H7} I7 n7=>by
      obtain ⟨m',hm,w7⟩:=hN σ7 H7 n7
      refine ⟨m',hm,i+1,σ7,H7,I7.unpinned,T.keep _ _ _ st5 fun b hb o e=>(I7.pin (b,o) (List.mem_append_right _ (List.mem_append_right _ (mem_pinsAt hb e)))).1,fun b hb=>?_,w7⟩
      obtain ⟨o,e,d⟩:=T.obj _ _ st5 b hb
      exact (I7.pin (b,o) (List.mem_append_right _ (List.mem_append_right _ (mem_pinsAt hb e)))).2.1
    cases f with
    | next=>obtain ⟨σ7,H7,I7,n7⟩:=q7;exact again I7 n7
    | cont=>obtain ⟨σ7,H7,I7,n7⟩:=q7;exact again I7 n7
    | brk=>obtain ⟨σ7,H7,I7,q7⟩:=q7;exact ⟨σ7,H7,I7.unpinned,q7⟩
    | ret v=>obtain ⟨x7,σ7,H7,I7,r7,q7⟩:=q7;exact ⟨x7,σ7,H7,I7.unpinned,r7,q7⟩
end
theorem for_list {K:PySem.W.Frag} {a:Addr} {xs:List V} {g:TG} {tb:TS} {D:Ends} {σ:St} {H:Hp} (Pv:Nat→St→Hp→Prop) (h0:Pv 0 σ H) (hl:∀i σ H,i≤xs.length→Pv i σ H→SqL K H a xs)
    (hs:∀i x σ H,xs[i]?=some x→Pv i σ H→g x σ H fun σ2 H2=>tb { D with nx:=Pv (i+1),ct:=Pv (i+1),bk:=D.nx } σ2 H2) (hd:∀σ H,Pv xs.length σ H→D.nx σ H) :
    ∃W:Nat→Nat→St→Hp→Prop,(∃m,W 0 m σ H)∧∀i m σ H,W i m σ H →
      ((Itl K a).stop i H∧D.nx σ H)∨((Itl K a).go i H∧∃N:St→Hp→Prop,(∀σ' H',N σ' H'→∃m',m'<m∧W (i+1) m' σ' H')∧∀x H',(Itl K a).yld i H x H'→g x σ H' fun σ2 H2=>tb { D with nx:=N,ct:=N,bk:=D.nx } σ2 H2):=by
  refine ⟨fun i m σ H=>m=xs.length - i∧i≤xs.length∧Pv i σ H,⟨xs.length,by simp,Nat.zero_le _,h0⟩,?_⟩
  rintro i m σ H ⟨rfl,hi,p⟩
  have q:=hl i σ H hi p
  by_cases hlt:i<xs.length
  · refine .inr ⟨⟨xs,xs[i],q,by simp [hlt]⟩,Pv (i+1),fun σ' H' p'=>⟨xs.length - (i+1),by omega,rfl,hlt,p'⟩,fun x H' y=>?_⟩
    obtain ⟨e,y⟩:=y
    subst e
    exact hs i x σ _ (y xs q) p
  · have e:i=xs.length:=by omega
    subst e
    exact .inl ⟨⟨xs,q,Nat.le_refl _⟩,hd σ H p⟩
theorem for_range {lo:Int} {n:Nat} {g:TG} {tb:TS} {D:Ends} {σ:St} {H:Hp} (Pv:Nat→St→Hp→Prop) (h0:Pv 0 σ H)
    (hs:∀i σ H,i<n→Pv i σ H→g (.int (lo+i)) σ H fun σ2 H2=>tb { D with nx:=Pv (i+1),ct:=Pv (i+1),bk:=D.nx } σ2 H2) (hd:∀σ H,Pv n σ H→D.nx σ H) :
    ∃W:Nat→Nat→St→Hp→Prop,(∃m,W 0 m σ H)∧∀i m σ H,W i m σ H →
      ((Itr lo n).stop i H∧D.nx σ H)∨((Itr lo n).go i H∧∃N:St→Hp→Prop,(∀σ' H',N σ' H'→∃m',m'<m∧W (i+1) m' σ' H')∧∀x H',(Itr lo n).yld i H x H'→g x σ H' fun σ2 H2=>tb { D with nx:=N,ct:=N,bk:=D.nx } σ2 H2):=by
  refine ⟨fun i m σ H=>m=n - i∧i≤n∧Pv i σ H,⟨n,by simp,Nat.zero_le _,h0⟩,?_⟩
  rintro i m σ H ⟨rfl,hi,p⟩
  by_cases hlt:i<n
  · refine .inr ⟨hlt,Pv (i+1),fun σ' H' p'=>⟨n - (i+1),by omega,rfl,hlt,p'⟩,fun x H' y=>?_⟩
    obtain ⟨e,y⟩:=y
    subst e y
    exact hs i σ _ hlt p
  · have e:i=n:=by omega
    subst e
    exact .inl ⟨Nat.le_refl _,hd σ H p⟩
end L2
namespace L2
open PySem PySem.Spec PyProof.Rows
abbrev R2:=V→V→Hp→VK→Prop
def OpR (X:Cx) (f:Value→Value→Sem Value) (r:R2):Prop :=
  ∀(pins:List (Addr×Obj)) (s:Shared) (σ:St) (H:Hp) (x y:V) (v u:Value) (Q:VK),Inv X pins σ H s→RelV x v→RelV y u→r x y H Q →
    wpAny (model X.prog X.w) X.A (f v u) (EP X pins σ Q) X.xe s
def UnR (X:Cx) (f:Value→Sem Value) (r:V→Hp→VK→Prop):Prop :=
  ∀(pins:List (Addr×Obj)) (s:Shared) (σ:St) (H:Hp) (x:V) (v:Value) (Q:VK),Inv X pins σ H s→RelV x v→r x H Q →
    wpAny (model X.prog X.w) X.A (f v) (EP X pins σ Q) X.xe s
def CallR (X:Cx) (f:Value) (r:List V→Hp→VK→Prop):Prop :=
  ∀(pins:List (Addr×Obj)) (s:Shared) (σ:St) (H:Hp) (xs:List V) (us:List Value) (Q:VK),Inv X pins σ H s→Vals xs us→r xs H Q →
    wpAny (model X.prog X.w) X.A (call f us) (EP X pins σ Q) X.xe s
def tOp (r:R2) (ta tb:TE):TE:=fun σ H Q=>ta σ H fun x H1=>tb σ H1 fun y H2=>r x y H2 Q
def tUn (r:V→Hp→VK→Prop) (ta:TE):TE:=fun σ H Q=>ta σ H fun x H1=>r x H1 Q
def rI (C:Int→Int→Prop) (g:Int→Int→V):R2:=fun x y H Q=>∃i j,x=.int i∧y=.int j∧C i j∧Q (g i j) H
def rI0 (g:Int→Int→V):R2:=fun x y H Q=>∃i j,x=.int i∧y=.int j∧Q (g i j) H
def rU (g:Int→V):V→Hp→VK→Prop:=fun x H Q=>∃i,x=.int i∧Q (g i) H
section
variable {X:Cx} {a b c:Expr} {ta tb tc:TE} {pos:Pos}
theorem binT (ha:PE X a ta) (hb:PE X b tb) {pins:List (Addr×Obj)} {s:Shared} {σ:St} {H:Hp} {R:V→V→Hp→Prop} (I:Inv X pins σ H s)
    (h:ta σ H fun x H1=>tb σ H1 fun y H2=>R x y H2) {Q:Value→Shared→Prop} {f:Value→Value→Sem Value}
    (hf:∀v u s2 x y H2,Inv X pins σ H2 s2→RelV x v→RelV y u→R x y H2→wpAny (model X.prog X.w) X.A (f v u) Q X.xe s2) :
    wpAny (model X.prog X.w) X.A (eval a X.env) (fun v s₁=>wpAny (model X.prog X.w) X.A (eval b X.env) (fun u s₂=>wpAny (model X.prog X.w) X.A (f v u) Q X.xe s₂) X.xe s₁) X.xe s:=by
  refine thn (ha pins s σ H _ I h) fun v s1 ⟨x,H1,I1,r1,q1⟩=>?_
  refine thn (hb pins s1 σ H1 _ I1 q1) fun u s2 ⟨y,H2,I2,r2,q2⟩=>?_
  exact hf v u s2 x y H2 I2 r1 r2 q2
theorem pe_op {op:Operator} {r:R2} (ho:OpR X (binaryOp op) r) (ha:PE X a ta) (hb:PE X b tb):PE X (.BinOp a op b pos) (tOp r ta tb):=by
  intro pins s σ H Q I h
  exact wpAny_BinOp (binT ha hb I h fun v u s2 x y H2 I2 rx ry q=>ho pins s2 σ H2 x y v u Q I2 rx ry q)
theorem pe_un {op:UnaryOp} {r:V→Hp→VK→Prop} (ho:UnR X (unaryOp op) r) (ha:PE X a ta):PE X (.UnaryOp op a pos) (tUn r ta):=by
  intro pins s σ H Q I h
  exact UnaryOp_ (thn (ha pins s σ H _ I h) fun v s1 ⟨x,H1,I1,r1,q1⟩=>ho pins s1 σ H1 x v Q I1 r1 q1)
theorem opI {f:Value→Value→Sem Value} {C:Int→Int→Prop} {g:Int→Int→Int}
    (rule:∀(i j:Int) (t u:Tok) (s:Shared) (Q:Value→Shared→Prop) (E:Value→Shared→Prop),C i j→Q (.int (g i j) s.toks) { s with toks:=s.toks+1 }→wpAny (model X.prog X.w) X.A (f (.int i t) (.int j u)) Q E s) :
    OpR X f (rI C fun i j=>.int (g i j)):=by
  intro pins s σ H x y v u Q I rx ry h
  obtain ⟨i,j,rfl,rfl,hc,q⟩:=h
  obtain ⟨t,rfl⟩:=rx
  obtain ⟨t',rfl⟩:=ry
  exact rule i j t t' s _ _ hc ⟨.int (g i j),H,I.tok _,⟨_,rfl⟩,q⟩
theorem opI0 {f:Value→Value→Sem Value} {g:Int→Int→Int}
    (rule:∀(i j:Int) (t u:Tok) (s:Shared) (Q:Value→Shared→Prop) (E:Value→Shared→Prop),Q (.int (g i j) s.toks) { s with toks:=s.toks+1 }→wpAny (model X.prog X.w) X.A (f (.int i t) (.int j u)) Q E s) :
    OpR X f (rI0 fun i j=>.int (g i j)):=by
  intro pins s σ H x y v u Q I rx ry h
  obtain ⟨i,j,rfl,rfl,q⟩:=h
  obtain ⟨t,rfl⟩:=rx
  obtain ⟨t',rfl⟩:=ry
  exact rule i j t t' s _ _ ⟨.int (g i j),H,I.tok _,⟨_,rfl⟩,q⟩
theorem opB0 {f:Value→Value→Sem Value} {g:Int→Int→Bool}
    (rule:∀(i j:Int) (t u:Tok) (s:Shared) (Q:Value→Shared→Prop) (E:Value→Shared→Prop),Q (.bool (g i j)) s→wpAny (model X.prog X.w) X.A (f (.int i t) (.int j u)) Q E s) :
    OpR X f (rI0 fun i j=>.bl (g i j)):=by
  intro pins s σ H x y v u Q I rx ry h
  obtain ⟨i,j,rfl,rfl,q⟩:=h
  obtain ⟨t,rfl⟩:=rx
  obtain ⟨t',rfl⟩:=ry
  exact rule i j t t' s _ _ ⟨.bl (g i j),H,I,rfl,q⟩
def CDiv (i j:Int):Prop:=0<j∧j<1073741824
def CPow (i j:Int):Prop:=0≤j∧j≤1000000∧i.natAbs<2^64
def CMul (i j:Int):Prop:=(-(2^64)<i∧i<2^64)∨(-(2^64)<j∧j<2^64)
theorem CMul.ok {i j:Int} (h:CMul i j):IntMulOk i j:=by
  rcases h with ⟨h1,h2⟩ | ⟨h1,h2⟩
  · exact .of_left (intBits_le_64 h1 h2)
  · exact .of_right (intBits_le_64 h1 h2)
theorem op_add:OpR X (binaryOp .Add) (rI0 fun i j=>.int (i+j)):=opI0 fun _ _ _ _ _ _ _ q=>add_int q
theorem op_sub:OpR X (binaryOp .Sub) (rI0 fun i j=>.int (i - j)):=opI0 fun _ _ _ _ _ _ _ q=>sub_int q
theorem op_mul:OpR X (binaryOp .Mult) (rI CMul fun i j=>.int (i*j)):=opI fun _ _ _ _ _ _ _ hc q=>mul_int q hc.ok
theorem op_fdiv:OpR X (binaryOp .FloorDiv) (rI CDiv fun i j=>.int (i / j)):=opI fun i j _ _ _ _ _ hc q=>by
  have h1:(0:Int)<j:=hc.1
  have h2:j<1073741824:=hc.2
  exact floordiv_int (by omega) (by rw [Int.fdiv_eq_ediv_of_nonneg i (by omega)];exact q) (.inl (PyProof.noPylong_small (by omega)))
theorem op_mod:OpR X (binaryOp .Mod) (rI (fun _ j=>0<j) fun i j=>.int (i % j)):=opI fun i j _ _ _ _ _ hc q=>by
  have h1:(0:Int)<j:=hc
  exact mod_int' (by omega) (by rw [Int.fmod_eq_emod_of_nonneg i (by omega)];exact q)
theorem op_modN:OpR X (binaryOp .Mod) (rI (fun _ j=>j≠0) fun i j=>.int (i.fmod j)):=opI fun _ _ _ _ _ _ _ hc q=>mod_int' hc q
theorem op_pow:OpR X (binaryOp .Pow) (rI CPow fun i j=>.int (i^j.toNat)):=opI fun _ _ _ _ _ _ _ hc q=>pow_int_small hc.1 hc.2.1 hc.2.2 q
theorem unI {f:Value→Sem Value} {g:Int→Int}
    (rule:∀(i:Int) (t:Tok) (s:Shared) (Q:Value→Shared→Prop) (E:Value→Shared→Prop),Q (.int (g i) s.toks) { s with toks:=s.toks+1 }→wpAny (model X.prog X.w) X.A (f (.int i t)) Q E s) :
    UnR X f (rU fun i=>.int (g i)):=by
  intro pins s σ H x v Q I rx h
  obtain ⟨i,rfl,q⟩:=h
  obtain ⟨t,rfl⟩:=rx
  exact rule i t s _ _ ⟨.int (g i),H,I.tok _,⟨_,rfl⟩,q⟩
theorem un_neg:UnR X (unaryOp .USub) (rU fun i=>.int (-i)):=unI fun _ _ _ _ _ q=>neg_int q
end
def scal:V→V→Bool
  | .non,.non=>true | .non,.int _=>true | .int _,.non=>true | .non,.bl _=>true | .bl _,.non=>true | .non,.str _=>true | .str _,.non=>true
  | .int _,.int _=>true | .bl _,.bl _=>true | .str _,.str _=>true | .byt _,.byt _=>true
  | .int _,.str _=>true | .str _,.int _=>true | .bl _,.str _=>true | .str _,.bl _=>true
  | _,_=>false
def rEq:R2:=fun x y H Q=>scal x y=true∧Q (.bl (decide (x=y))) H
def rNe:R2:=fun x y H Q=>scal x y=true∧Q (.bl (!decide (x=y))) H
theorem dec_int {i j:Int}:decide (V.int i=V.int j)=(i == j):=by
  rw [Bool.eq_iff_iff]
  simp
theorem dec_bl {i j:Bool}:decide (V.bl i=V.bl j)=(i == j):=by
  rw [Bool.eq_iff_iff]
  simp
theorem dec_str {i j:Str}:decide (V.str i=V.str j)=(i == j):=by
  rw [Bool.eq_iff_iff]
  simp
theorem dec_byt {i j:Array UInt8}:decide (V.byt i=V.byt j)=(i.toList == j.toList):=by
  rw [Bool.eq_iff_iff]
  cases i
  cases j
  simp
section
variable {X:Cx} {a b c:Expr} {ta tb tc:TE} {pos:Pos}
theorem fin_bl {pins:List (Addr×Obj)} {σ:St} {H:Hp} {s:Shared} {Q:VK} {k k':Bool} (I:Inv X pins σ H s) (q:Q (.bl k) H) (e:k=k'):EP X pins σ Q (.bool k') s:=by
  subst e
  exact ⟨.bl k,H,I,rfl,q⟩
theorem op_eq:OpR X (compareOp .Eq) rEq:=by
  intro pins s σ H x y v u Q I rx ry h
  obtain ⟨hs,q⟩:=h
  cases x with
  | non =>
    cases rx
    cases y with
    | non=>cases ry;exact PySem.EqNone.eq_none_none (fin_bl I q (by simp))
    | bl j=>cases ry;exact PySem.EqNone.eq_none_bool (fin_bl I q (by simp))
    | int j=>obtain ⟨t',rfl⟩:=ry;exact PySem.EqNone.eq_none_int (fin_bl I q (by simp))
    | str j=>obtain ⟨t',rfl⟩:=ry;exact PySem.EqNone.eq_none_str (fin_bl I q (by simp))
    | _=>exact absurd (show false=true from hs) Bool.false_ne_true
  | bl i =>
    cases rx
    cases y with
    | non=>cases ry;exact PySem.EqNone.eq_bool_none (fin_bl I q (by simp))
    | bl j=>cases ry;exact eq_bool (fin_bl I q dec_bl)
    | str j=>obtain ⟨t',rfl⟩:=ry;exact PySem.EqMixed.eq_bool_str (fin_bl I q (by simp))
    | _=>exact absurd (show false=true from hs) Bool.false_ne_true
  | int i =>
    obtain ⟨t,rfl⟩:=rx
    cases y with
    | non=>cases ry;exact PySem.EqNone.eq_int_none (fin_bl I q (by simp))
    | int j=>obtain ⟨t',rfl⟩:=ry;exact eq_int (fin_bl I q dec_int)
    | str j=>obtain ⟨t',rfl⟩:=ry;exact PySem.EqMixed.eq_int_str (fin_bl I q (by simp))
    | _=>exact absurd (show false=true from hs) Bool.false_ne_true
  | str i =>
    obtain ⟨t,rfl⟩:=rx
    cases y with
    | non=>cases ry;exact PySem.EqNone.eq_str_none (fin_bl I q (by simp))
    | bl j=>cases ry;exact PySem.EqMixed.eq_str_bool (fin_bl I q (by simp))
    | int j=>obtain ⟨t',rfl⟩:=ry;exact PySem.EqMixed.eq_str_int (fin_bl I q (by simp))
    | str j=>obtain ⟨t',rfl⟩:=ry;exact eq_str (fin_bl I q dec_str)
    | _=>exact absurd (show false=true from hs) Bool.false_ne_true
  | byt i =>
    obtain ⟨t,rfl⟩:=rx
    cases y with
    | byt j=>obtain ⟨t',rfl⟩:=ry;exact PySem.W.eq_bytes (fin_bl I q dec_byt)
    | _=>exact absurd (show false=true from hs) Bool.false_ne_true
  | _=>cases y <;> exact absurd (show false=true from hs) Bool.false_ne_true
theorem op_ne:OpR X (compareOp .NotEq) rNe:=by
  intro pins s σ H x y v u Q I rx ry h
  obtain ⟨hs,q⟩:=h
  cases x with
  | non =>
    cases rx
    cases y with
    | non=>cases ry;exact PySem.EqNone.ne_none_none (fin_bl I q (by simp))
    | bl j=>cases ry;exact PySem.EqNone.ne_none_bool (fin_bl I q (by simp))
    | int j=>obtain ⟨t',rfl⟩:=ry;exact PySem.EqNone.ne_none_int (fin_bl I q (by simp))
    | str j=>obtain ⟨t',rfl⟩:=ry;exact PySem.EqNone.ne_none_str (fin_bl I q (by simp))
    | _=>exact absurd (show false=true from hs) Bool.false_ne_true
  | bl i =>
    cases rx
    cases y with
    | non=>cases ry;exact PySem.EqNone.ne_bool_none (fin_bl I q (by simp))
    | bl j=>cases ry;exact ne_bool (fin_bl I q (congrArg not dec_bl))
    | str j=>obtain ⟨t',rfl⟩:=ry;exact PySem.EqMixed.ne_bool_str (fin_bl I q (by simp))
    | _=>exact absurd (show false=true from hs) Bool.false_ne_true
  | int i =>
    obtain ⟨t,rfl⟩:=rx
    cases y with
    | non=>cases ry;exact PySem.EqNone.ne_int_none (fin_bl I q (by simp))
    | int j=>obtain ⟨t',rfl⟩:=ry;exact ne_int (fin_bl I q (congrArg not dec_int))
    | str j=>obtain ⟨t',rfl⟩:=ry;exact PySem.EqMixed.ne_int_str (fin_bl I q (by simp))
    | _=>exact absurd (show false=true from hs) Bool.false_ne_true
  | str i =>
    obtain ⟨t,rfl⟩:=rx
    cases y with
    | non=>cases ry;exact PySem.EqNone.ne_str_none (fin_bl I q (by simp))
    | bl j=>cases ry;exact PySem.EqMixed.ne_str_bool (fin_bl I q (by simp))
    | int j=>obtain ⟨t',rfl⟩:=ry;exact PySem.EqMixed.ne_str_int (fin_bl I q (by simp))
    | str j=>obtain ⟨t',rfl⟩:=ry;exact ne_str (fin_bl I q (congrArg not dec_str))
    | _=>exact absurd (show false=true from hs) Bool.false_ne_true
  | byt i =>
    obtain ⟨t,rfl⟩:=rx
    cases y with
    | byt j=>obtain ⟨t',rfl⟩:=ry;exact PySem.W.ne_bytes (fin_bl I q (congrArg not dec_byt))
    | _=>exact absurd (show false=true from hs) Bool.false_ne_true
  | _=>cases y <;> exact absurd (show false=true from hs) Bool.false_ne_true
theorem op_lt:OpR X (compareOp .Lt) (rI0 fun i j=>.bl (decide (i<j))):=opB0 fun _ _ _ _ _ _ _ q=>lt_int q
theorem op_le:OpR X (compareOp .LtE) (rI0 fun i j=>.bl (decide (i≤j))):=opB0 fun _ _ _ _ _ _ _ q=>le_int q
theorem nomark (b:Expr) {op:CmpOp} (h:op≠.In:=by decide) (h2:op≠.NotIn:=by decide):behindInMarks op b=false:=by
  have e1:(op == CmpOp.In)=false:=by cases op <;> first | rfl | exact absurd rfl h
  have e2:(op == CmpOp.NotIn)=false:=by cases op <;> first | rfl | exact absurd rfl h2
  cases b <;> simp [behindInMarks,e1,e2]
theorem pe_cmpR {op:CmpOp} {r:R2} (ho:OpR X (compareOp op) r) (ha:PE X a ta) (hb:PE X b tb) (hm:behindInMarks op b=false):PE X (.Compare a [op] [b] pos) (tOp r ta tb):=by
  intro pins s σ H Q I h
  exact wpAny_Compare1 (binT ha hb I h fun v u s2 x y H2 I2 rx ry q=>ho pins s2 σ H2 x y v u Q I2 rx ry q) hm
def tTest (t:TE):TT:=fun σ H Q=>t σ H fun x H'=>∃k,x=.bl k∧Q k H'
theorem pt_cmpR {op:CmpOp} {r:R2} (ho:OpR X (compareOp op) r) (ha:PE X a ta) (hb:PE X b tb) (hm:behindInMarks op b=false):PT X (.Compare a [op] [b] pos) (tTest (tOp r ta tb)):=by
  intro pins s σ H Q I h
  refine wpAny_isTrue_Compare1 (thn (ha pins s σ H _ I h) fun v s1 ⟨x,H1,I1,r1,q1⟩=>thn (hb pins s1 σ H1 _ I1 q1) fun u s2 ⟨y,H2,I2,r2,q2⟩ =>
    thn (ho pins s2 σ H2 x y v u _ I2 r1 r2 q2) fun c s3 ⟨z,H3,I3,r3,k,e,q3⟩=>?_) hm
  subst e
  cases r3
  exact wpAny_truthy_bool ⟨H3,I3,q3⟩
theorem line63:(sizeLine:Nat)<2^63:=by rw [sizeLine_eq];decide
theorem vals1 {x:V} {us:List Value} (r:Vals [x] us):∃u,us=[u]∧RelV x u:=by
  cases r with
  | cons r1 r2=>cases r2;exact ⟨_,rfl,r1⟩
theorem vals2 {x y:V} {us:List Value} (r:Vals [x,y] us):∃u w',us=[u,w']∧RelV x u∧RelV y w':=by
  cases r with
  | cons r1 r2 =>
    cases r2 with
    | cons r3 r4=>cases r4;exact ⟨_,_,rfl,r1,r3⟩
theorem call_min2 (hc:X.calm=true):CallR X (.builtin "min") (fun xs H Q=>∃i j,xs=[.int i,.int j]∧Q (.int (if j<i then j else i)) H):=by
  intro pins s σ H xs us Q I r h
  obtain ⟨i,j,rfl,q⟩:=h
  obtain ⟨u,w',rfl,⟨t,rfl⟩,⟨t',rfl⟩⟩:=vals2 r
  refine min_two_ints (I.ok.hd hc) fun h' tk k=>⟨_,H,I.kept k,?_,q⟩
  by_cases hj:j<i
  · rw [if_pos hj,if_pos hj];exact ⟨_,rfl⟩
  · rw [if_neg hj,if_neg hj];exact ⟨_,rfl⟩
end
end L2
namespace L2
open PySem PySem.Spec PyProof.Rows
structure ObjM (h:Heap) (x dx C:Addr) (mA:Str→Option Value):Prop where
  obj:h.get? x=some (PySem.W.instObj C dx)
  ns:h.Ns1 dx mA
  ne:dx≠x
theorem lookIn_ns {h:Heap} {dx:Addr} {mA:Str→Option Value} (n:h.Ns1 dx mA):∃od,h.get? dx=some od∧∀name,PySem.W.lookIn name od=some (mA name):=by
  obtain ⟨o,es,ep,ho,hd,hk,_,hm⟩:=n
  refine ⟨o,ho,fun name=>?_⟩
  have e:=hm name
  unfold nsFind findBy at e
  rw [←Array.find?_toList] at e
  unfold PySem.W.lookIn
  rw [hd]
  dsimp only
  split
  · rename_i y q
    rw [q] at e
    exact congrArg some e
  · rename_i q
    rw [q] at e
    have a:es.toList.any (·.refKey)=false:=by
      rw [List.any_eq_false]
      intro y hy
      obtain ⟨z,t,hkey⟩:=hk y (Array.mem_toList_iff.mp hy)
      simp [DictEntry.refKey,hkey]
    have a':¬ es.toList.any (·.refKey)=true:=by rw [a];exact Bool.false_ne_true
    rw [if_neg a']
    exact congrArg some e
theorem ObjM.look {h:Heap} {x dx C:Addr} {mA:Str→Option Value} (I:ObjM h x dx C mA):∃od,PySem.W.InstAt h x (PySem.W.instObj C dx) C (some od)∧∀name,PySem.W.lookIn name od=some (mA name) :=
  let ⟨od,ho,hl⟩:=lookIn_ns I.ns
  ⟨od,⟨I.obj,rfl,rfl,ho⟩,hl⟩
section
variable {prog:Program} {w:World} {A:Around} {E:Value→Shared→Prop} {s:Shared} {K:PySem.W.Frag} {x dx C f:Addr} {mA:Str→Option Value} {name:Str} {v:Value}
theorem get_map {expr:Bool} {Q:Value→Shared→Prop} (X:K.In s.heap) (I:ObjM s.heap x dx C mA) (hg:PySem.W.plainGet K C name=true) (hh:PySem.W.hasDictIn K C=true)
    (ha:PySem.W.findIn K (.ref C) name=some none) (hv:mA name=some v) (hv':PySem.W.handedIn v=true) (h:Q v { s with toks:=s.toks+1 }) :
    wpAny (model prog w) A (getAttr (.ref x) name expr) Q E s:=by
  obtain ⟨od,J,hl⟩:=I.look
  exact PySem.W.get_value X J (PySem.W.plainGet_of hg).1 (PySem.W.findObj_own hh ha rfl (by rw [hl,hv])) hv' h
theorem get_meth {pl:Sem Bool} {Q:Value×List Value→Shared→Prop} (X:K.In s.heap) (I:ObjM s.heap x dx C mA) (hg:PySem.W.plainGet K C name=true)
    (hf:PySem.W.findIn K (.ref C) name=some (some (.ref f))) (ht:PySem.W.isFn K (.ref f)=true) (hv:mA name=none) (h:Q (.ref f,[.ref x]) s) :
    wpAny (model prog w) A (getMethod (.ref x) name pl) Q E s:=by
  obtain ⟨od,J,hl⟩:=I.look
  exact PySem.W.method_fn X J (PySem.W.plainGet_of hg).1 (PySem.W.plainGet_of hg).2 hf (beq_iff_eq.mp ht) (by show (PySem.W.lookIn name od).map (·.isSome)=some false;rw [hl,hv];rfl) h
theorem set_map {ns:List Str} {Q:Unit→Shared→Prop} (X:K.In s.heap) (I:ObjM s.heap x dx C mA)
    (hs:PySem.W.findIn K (.ref C) "__setattr__" = some (some (.builtin "object.__setattr__"))) (hp:PySem.W.plainOver K C=true) (ht:PySem.W.takerIn K C name=some none) (hh:PySem.W.hasDictIn K C=true)
    (hw:PySem.Within mA ns) (hsz:ns.length≤sizeLine)
    (h:∀h',ObjM h' x dx C (fun y=>if y=name then some v else mA y)→Heap.SameBut dx s.heap h'→Q () { s with heap:=h',toks:=s.toks+2 }) :
    wpAny (model prog w) A (setAttr (.ref x) name v) Q E s:=by
  obtain ⟨od,J,hl⟩:=I.look
  refine PySem.W.set_plain X J hs (PySem.W.osa_open (s:={ s with toks:=s.toks+1 }) (r:=none) X J hp ht fun b=>?_)
  obtain ⟨cd,hc,hd'⟩:=PySem.W.any_some hh
  have hx:s.heap.get? x=some ⟨.ref C,some dx,.plain,#[]⟩:=I.obj
  refine wpAny_bind (wpAny_pure (wpAny_bind (wpAny_bind (wpAny_loadPart hx (wpAny_bind (PySem.W.Looks.here (s:={ s with toks:=s.toks+1 }) (PySem.W.looks_clsIn X hc) ?_))))))
  rw [hd']
  refine wpAny_pure (a:=some dx) (wpAny_bind (wpAny_pure (wpAny_bind ?_)))
  refine wpAny_nsSet1 (s:={ s with toks:=s.toks+1 }) I.ns fun h' hn2 hs2=>?_
  obtain ⟨oD,esD,epD,hoD,hdD,hcD⟩:=hn2.count (PySem.Within.cons name v hw)
  refine wpAny_bind (wpAny_lookBehind hoD (by rw [hdD];exact pastItsLine_dict (Nat.le_trans hcD (by rw [List.length_cons];omega))) ?_)
  exact wpAny_pure (h _ ⟨(hs2.2 _ (Ne.symm I.ne)).trans I.obj,hn2,I.ne⟩ hs2)
theorem make_map {R:Result→Shared→Prop} {vs:List Value} {kw:List (Str×Value)} (X:K.In s.heap) (hm:PySem.W.makesIn K C=true)
    (hi:PySem.W.findIn K (.ref C) "__init__" = some (some (.ref f))) (hf:PySem.W.typeIn K (.ref f)=some (.type "function"))
    (h:codeAny (model prog w) (A.under (.builtin "type.__call__" ⟨.ref C::vs,kw⟩)) (.call (.ref f) ⟨.ref (s.heap.objs.size+1)::vs,kw⟩) (PySem.W.InitBack (s.heap.objs.size+1) R)
      { s with heap:=(s.heap.push PySem.W.emptyDict).push (PySem.W.instObj C s.heap.objs.size) }) :
    codeAny (model prog w) A (.call (.ref C) ⟨vs,kw⟩) R s:=by
  obtain ⟨hh,g,d,t,os⟩:=s
  exact PySem.W.make_core (PySem.W.makes_of X hm) (PySem.W.looks_findIn X hi) (fun self=>PySem.W.bind_fn X self hf) (.inl rfl) h
end
def putF (f:Str) (v:V):List (Str×V)→List (Str×V)
  | []=>[(f,v)]
  | (g,x)::r=>if g=f then (g,v)::r else (g,x)::putF f v r
theorem lookup_putF (f g:Str) (v:V):∀fs:List (Str×V),(putF f v fs).lookup g=if g=f then some v else fs.lookup g
  | []=>by
    show List.lookup g [(f,v)]=_
    by_cases h:g=f
    · have hb:(g == f)=true:=beq_iff_eq.mpr h
      simp only [List.lookup,hb,if_pos h]
    · have hb:(g == f)=false:=beq_eq_false_iff_ne.mpr h
      simp only [List.lookup,hb,if_neg h]
  | (k,x)::r=>by
    have ih:=lookup_putF f g v r
    rw [show putF f v ((k,x)::r)=(if k=f then (k,v)::r else (k,x)::putF f v r) from rfl]
    by_cases hk:k=f
    · rw [if_pos hk]
      by_cases h:g=k
      · have hb:(g == k)=true:=beq_iff_eq.mpr h
        simp only [List.lookup,hb,if_pos (h.trans hk)]
      · have hb:(g == k)=false:=beq_eq_false_iff_ne.mpr h
        simp only [List.lookup,hb,if_neg (fun e:g=f=>h (e.trans hk.symm))]
    · rw [if_neg hk]
      by_cases h:g=k
      · have hb:(g == k)=true:=beq_iff_eq.mpr h
        simp only [List.lookup,hb,if_neg (fun e:g=f=>hk (h.symm.trans e))]
      · have hb:(g == k)=false:=beq_eq_false_iff_ne.mpr h
        simp only [List.lookup,hb]
        exact ih
theorem keys_putF (f:Str) (v:V):∀fs:List (Str×V),f∈(putF f v fs).map (·.1)∧∀g,g∈fs.map (·.1)→g∈(putF f v fs).map (·.1)
  | []=>⟨by simp [putF],fun g h=>by simp at h⟩
  | (k,x)::r=>by
    obtain ⟨i1,i2⟩:=keys_putF f v r
    rw [show putF f v ((k,x)::r)=(if k=f then (k,v)::r else (k,x)::putF f v r) from rfl]
    by_cases hk:k=f
    · rw [if_pos hk]
      subst hk
      exact ⟨by simp,fun g h=>by simpa using h⟩
    · rw [if_neg hk]
      refine ⟨?_,fun g h=>?_⟩
      · rw [List.map_cons]
        exact List.mem_cons_of_mem _ i1
      · rw [List.map_cons] at h ⊢
        rcases List.mem_cons.mp h with e | e
        · exact List.mem_cons.mpr (.inl e)
        · exact List.mem_cons_of_mem _ (i2 g e)
theorem length_putF (f:Str) (v:V):∀fs:List (Str×V),(putF f v fs).length≤fs.length+1
  | []=>by simp [putF]
  | (k,x)::r=>by
    have ih:=length_putF f v r
    rw [show putF f v ((k,x)::r)=(if k=f then (k,v)::r else (k,x)::putF f v r) from rfl]
    by_cases hk:k=f
    · rw [if_pos hk,List.length_cons,List.length_cons];omega
    · rw [if_neg hk,List.length_cons,List.length_cons];omega
theorem RelO.some_of {v:V} {o:Option Value} (r:RelO (some v) o):∃u,o=some u∧RelV v u:=by
  cases o with
  | none=>exact (show False from r).elim
  | some u=>exact ⟨u,rfl,r⟩
theorem RelO.none_of {o:Option Value} (r:RelO none o):o=none:=by
  cases o with
  | none=>rfl
  | some u=>exact (show False from r).elim
theorem handed_of {v:V} {u:Value} (r:RelV v u):PySem.W.handedIn u=true:=by
  cases v with
  | non=>cases (show u=Value.none from r);rfl
  | bl b=>cases (show u=Value.bool b from r);rfl
  | int i=>obtain ⟨t,e⟩:=(show ∃t,u=Value.int i t from r);cases e;rfl
  | str x=>obtain ⟨t,e⟩:=(show ∃t,u=Value.str x t from r);cases e;rfl
  | byt b=>obtain ⟨t,e⟩:=(show ∃t,u=Value.bytes b t from r);cases e;rfl
  | flt b=>obtain ⟨t,e⟩:=(show ∃t,u=Value.float b t from r);cases e;rfl
  | ref a=>cases (show u=Value.ref a from r);rfl
  | ty n=>cases (show u=Value.type n from r);rfl
section
variable {P:Program} {w:World} {H H':Hp} {h h':Heap} {a C dx:Addr} {fs fs':List (Str×V)}
theorem ins_get (hok:HOk P w H h) (e:H a=some (.ins C dx fs)):∃mA,ObjM h a dx C mA∧(∀f,RelO (fs.lookup f) (mA f))∧PySem.Within mA (fs.map (·.1))∧fs.length≤1000∧H dx=some (.own a):=by
  obtain ⟨d,z,ne,ob,mA,n,r,q⟩:=(show ObjOk P w H h a (.ins C dx fs) from hok a _ e)
  exact ⟨mA,⟨ob,n,ne⟩,r,q,z,d⟩
end
structure Cls (K:PySem.W.Frag) (C:Addr):Prop where
  pg:PySem.W.plainGet K C Str.empty=true
  hd:PySem.W.hasDictIn K C=true
  po:PySem.W.plainOver K C=true
  sa:PySem.W.findIn K (.ref C) "__setattr__" = some (some (.builtin "object.__setattr__"))
theorem Cls.get {K:PySem.W.Frag} {C:Addr} (c:Cls K C) (f:Str):PySem.W.plainGet K C f=true:=c.pg
def NoAttr (K:PySem.W.Frag) (C:Addr) (f:Str):Prop:=PySem.W.findIn K (.ref C) f=some none
theorem NoAttr.taker {K:PySem.W.Frag} {C:Addr} {f:Str} (n:NoAttr K C f):PySem.W.takerIn K C f=some none:=by
  unfold PySem.W.takerIn
  rw [show PySem.W.findIn K (.ref C) f=some none from n]
  rfl
structure Con (K:PySem.W.Frag) (C:Addr) (f:Str) (v:V) (u:Value):Prop where
  at_:PySem.W.findIn K (.ref C) f=some (some u)
  rel:RelV v u
  get:PySem.W.specialIn K u "__get__" = some none
  cp:PySem.W.copiedNames.contains f=false
structure Meth (K:PySem.W.Frag) (C:Addr) (m:Str) (f:Addr):Prop where
  at_:PySem.W.findIn K (.ref C) m=some (some (.ref f))
  fn:PySem.W.isFn K (.ref f)=true
  kp:PySem.W.keepIn K (.ref f)=true
section
variable {X:Cx} {pins:List (Addr×Obj)} {σ:St} {H:Hp} {s:Shared} {a C dx:Addr} {fs:List (Str×V)} {f:Str} {v:V} {A:Around} {E:Value→Shared→Prop}
theorem getattr_ok {b:Bool} {Q:Value→Shared→Prop} (I:Inv X pins σ H s) (e:H a=some (.ins C dx fs)) (c:Cls X.K C) (n:NoAttr X.K C f) (l:fs.lookup f=some v)
    (h:∀u s',Inv X pins σ H s'→RelV v u→Q u s'):wpAny (model X.prog X.w) A (getAttr (.ref a) f b) Q E s:=by
  obtain ⟨mA,O,r,_,_,_⟩:=ins_get I.hok e
  obtain ⟨u,hu,ru⟩:=RelO.some_of (v:=v) (o:=mA f) (by rw [←l];exact r f)
  exact get_map I.kIn O (c.get f) c.hd n hu (handed_of ru) (h u _ (I.tok _) ru)
theorem getmeth_ok {m:Str} {g:Addr} {pl:Sem Bool} {Q:Value×List Value→Shared→Prop} (I:Inv X pins σ H s) (e:H a=some (.ins C dx fs)) (c:Cls X.K C) (k:Meth X.K C m g) (l:fs.lookup m=none)
    (h:Q (.ref g,[.ref a]) s):wpAny (model X.prog X.w) A (getMethod (.ref a) m pl) Q E s:=by
  obtain ⟨mA,O,r,_,_,_⟩:=ins_get I.hok e
  have hn:mA m=none:=RelO.none_of (by rw [←l];exact r m)
  exact get_meth I.kIn O (c.get m) k.at_ k.fn hn h
theorem setattr_ok {y:V} {u:Value} {Q:Unit→Shared→Prop} (I:Inv X pins σ H s) (e:H a=some (.ins C dx fs)) (c:Cls X.K C) (n:NoAttr X.K C f) (hl:fs.length<1000) (ry:RelV y u)
    (h:∀s',Inv X pins σ (upd H a (.ins C dx (putF f y fs))) s'→Q () s'):wpAny (model X.prog X.w) A (setAttr (.ref a) f u) Q E s:=by
  obtain ⟨mA,O,r,wi,_,ho⟩:=ins_get I.hok e
  have hz:(fs.map (·.1)).length≤sizeLine:=by rw [List.length_map,sizeLine_eq];omega
  refine set_map I.kIn O c.sa c.po n.taker c.hd wi hz fun h' O' sb=>h _ ?_
  have hd:∃o,h'.get? dx=some o:=let ⟨o,_,_,e',_⟩:=O'.ns;⟨o,e'⟩
  refine I.write (x:=a) (e:=dx) (by rw [e];exact True.intro) (.inr ho) (fun b q hb z=>(sb.2 b hb).trans z) hd ?_
  refine ⟨by rw [upd_ne O.ne];exact ho,?_,O.ne,O'.obj,_,O'.ns,fun g=>?_,fun g hg=>?_⟩
  · have:=length_putF f y fs;omega
  · show RelO ((putF f y fs).lookup g) (if g=f then some u else mA g)
    rw [lookup_putF]
    by_cases q:g=f
    · rw [if_pos q,if_pos q];exact ry
    · rw [if_neg q,if_neg q];exact r g
  · by_cases q:g=f
    · rw [q];exact (keys_putF f y fs).1
    · refine (keys_putF f y fs).2 g (wi g fun z=>hg ?_)
      show (if g=f then some u else mA g)=none
      rw [if_neg q];exact z
theorem Inv.made (I:Inv X pins σ H s):Inv X pins σ (upd (upd H s.heap.objs.size (.own (s.heap.objs.size+1))) (s.heap.objs.size+1) (.ins C s.heap.objs.size []))
    { s with heap:=(s.heap.push PySem.W.emptyDict).push (PySem.W.instObj C s.heap.objs.size) }:=by
  have e1:(s.heap.push PySem.W.emptyDict).get? s.heap.objs.size=some PySem.W.emptyDict:=Heap.get?_push_size s.heap rfl
  have e2:((s.heap.push PySem.W.emptyDict).push (PySem.W.instObj C s.heap.objs.size)).get? (s.heap.objs.size+1)=some (PySem.W.instObj C s.heap.objs.size):=by
    have:=Heap.get?_push_size (s.heap.push PySem.W.emptyDict) (o:=PySem.W.instObj C s.heap.objs.size) rfl
    rwa [Heap.size_push] at this
  have e3:(s.heap.push PySem.W.emptyDict).Ns s.heap.objs.size (fun _=>none):=⟨PySem.W.emptyDict,#[],_,e1,rfl,(fun e he=>absurd he (by simp)),fun _=>rfl⟩
  have I1:=I.laid (a:=s.heap.objs.size) (o:=.own (s.heap.objs.size+1)) (h':=s.heap.push PySem.W.emptyDict) (t':=s.toks) (fun b u q=>Heap.get?_push_of_some _ q) (Nat.le_refl _) ⟨_,e1⟩
  refine I1.laid (a:=s.heap.objs.size+1) (o:=.ins C s.heap.objs.size []) (t':=s.toks) (fun b u q=>Heap.get?_push_of_some _ q) (Nat.le_of_eq (Heap.size_push _ _)) ?_
  have ne:s.heap.objs.size≠s.heap.objs.size+1:=Nat.ne_of_lt (Nat.lt_succ_self _)
  refine ⟨by rw [upd_ne ne,upd_same],Nat.zero_le _,ne,e2,fun _=>none,(Heap.Ns1.of_empty e3).at fun o q=>Heap.get?_push_of_some _ q,fun _=>True.intro,fun y hy=>absurd rfl hy⟩
theorem attr_of {prog:Program} {w:World} {env:Env} {e:Expr} {f:Str} {pos:Pos} {s:Shared} {Q:Value→Shared→Prop} (hb:attributeBase e f env (eval e env)=eval e env)
    (h:wpAny (model prog w) A (eval e env) (fun o s₁=>wpAny (model prog w) A (getAttr o f true) Q E s₁) E s):wpAny (model prog w) A (eval (.Attribute e f pos) env) Q E s :=
  Attribute_any_ h (by rw [arm_eval_Attribute,hb])
end
def tFld (K:PySem.W.Frag) (ta:TE) (f:Str):TE:=fun σ H Q=>ta σ H fun x H1=>∃a C dx fs v,x=.ref a∧H1 a=some (.ins C dx fs)∧Cls K C∧NoAttr K C f∧fs.lookup f=some v∧Q v H1
def sFld (K:PySem.W.Frag) (ta tv:TE) (f:Str):TS:=fun D σ H=>tv σ H fun y H1=>ta σ H1 fun x H2=>∃a C dx fs,x=.ref a∧H2 a=some (.ins C dx fs)∧Cls K C∧NoAttr K C f∧fs.length<1000 ∧
  D.nx σ (upd H2 a (.ins C dx (putF f y fs)))
section
variable {X:Cx} {o e value:Expr} {f:Str} {pos pos' tpos:Pos} {ta tv:TE}
theorem pe_fld (he:PE X e ta) (hb:attributeBase e f X.env (eval e X.env)=eval e X.env):PE X (.Attribute e f pos) (tFld X.K ta f):=by
  intro pins s σ H Q I h
  refine attr_of hb (thn (he pins s σ H _ I h) fun u s1 ⟨x,H1,I1,rx,a,C,dx,fs,v,ex,ea,c,n,l,q⟩=>?_)
  subst ex
  obtain rfl:u=Value.ref a:=rx
  exact getattr_ok I1 ea c n l fun u' s2 I2 ru=>⟨v,H1,I2,ru,q⟩
theorem ps_fld (ha:PE X o ta) (hv:PE X value tv) (hs:swapsWith value (some (.Attribute o f pos')) pos.line X.env=pure false):PS X (.Assign [.Attribute o f pos'] value pos) (sFld X.K ta tv f):=by
  intro pins s σ H D I h
  refine plainObj_wpAny_Assign_Attribute (thn (hv pins s σ H _ I h) fun u s1 ⟨y,H1,I1,ry,q⟩=>thn (ha pins s1 σ H1 _ I1 q) fun ov s2 ⟨x,H2,I2,rx,a,C,dx,fs,ex,ea,c,n,l,q2⟩=>?_) hs
  subst ex
  obtain rfl:ov=Value.ref a:=rx
  exact setattr_ok I2 ea c n l ry fun s3 I3=>⟨σ,_,I3,q2⟩
theorem methcall_of {pl:Sem Bool} {m:Str} {apos:Pos} {args:List Expr} {pins:List (Addr×Obj)} {s:Shared} {σ:St} {H:Hp} {Q:Value→Shared→Prop} {te:TE} (he:PE X e te) (I:Inv X pins σ H s)
    (h:te σ H fun x H1=>∃a C dx fs g,x=.ref a∧H1 a=some (.ins C dx fs)∧Cls X.K C∧Meth X.K C m g∧fs.lookup m=none ∧
      ∀s1,Inv X pins σ H1 s1→wpAny (model X.prog X.w) X.A (callWith pos (.ref g) [.ref a] (backTo pos (starEach args X.env)) (backToKw pos (keywordEach [] X.env))) Q X.xe s1)
    (ht:eval (.Call (.Attribute e m apos) args [] pos) X.env=(do
      let ov ←eval e X.env
      standAt apos.atName
      let (f,first) ←holding [ov] (getMethod ov m pl)
      callWith pos f first (backTo pos (starEach args X.env)) (backToKw pos (keywordEach [] X.env)))) :
    wpAny (model X.prog X.w) X.A (eval (.Call (.Attribute e m apos) args [] pos) X.env) Q X.xe s:=by
  refine PySem.W.methodCall_KW (pl:=pl) (thn (he pins s σ H _ I h) fun u s1 ⟨x,H1,I1,rx,a,C,dx,fs,g,ex,ea,c,k,l,q⟩=>?_) ht
  subst ex
  obtain rfl:u=Value.ref a:=rx
  exact getmeth_ok I1 ea c k l (q s1 I1)
end
section
variable {X:Cx} {pins:List (Addr×Obj)} {σ:St} {H:Hp} {s:Shared} {A:Around} {E:Value→Shared→Prop} {Q:Value→Shared→Prop} {c:Value} {b:Bool}
inductive TyOf (K:PySem.W.Frag) (H:Hp):V→Value→Prop where
  | non:TyOf K H .non (.type "NoneType")
  | bl (x:Bool):TyOf K H (.bl x) (.type "bool")
  | int (i:Int):TyOf K H (.int i) (.type "int")
  | str (x:Str):TyOf K H (.str x) (.type "str")
  | flt (x:UInt64):TyOf K H (.flt x) (.type "float")
  | lst {a:Addr} {xs:List V} (e:H a=some (.lst xs)):TyOf K H (.ref a) (.type "list")
  | frz {a:Addr} {o:Obj} {xs:List V} (e:H a=some (.frz o (.lst xs))):TyOf K H (.ref a) (.type "list")
  | tup {a:Addr} {xs:List V} (e:H a=some (.tup xs)):TyOf K H (.ref a) (.type "tuple")
  | dK {a:Addr} {kvs:List (Key×V)} (e:H a=some (.dK kvs)):TyOf K H (.ref a) (.type "dict")
  | dT {a:Addr} {kvs:List (List Key×V)} (e:H a=some (.dT kvs)):TyOf K H (.ref a) (.type "dict")
  | ins {a C dx:Addr} {fs:List (Str×V)} (e:H a=some (.ins C dx fs)) (cl:Cls K C) (ha:PySem.W.findIn K (.ref C) "__class__" = some (some (.builtin "object.__class__")))
      (hn:PySem.W.specialIn K (.builtin "object.__class__") "__get__" = some (some (.builtin "getset_descriptor.__get__"))) (htk:PySem.W.takesIn K (.builtin "object.__class__")=some true)
      (hm:PySem.W.mroIn K C (.type "object")=some true):TyOf K H (.ref a) (.ref C)
theorem isinst_ok {x:V} {u t:Value} (I:Inv X pins σ H s) (rx:RelV x u) (ty:TyOf X.K H x t) (e:PySem.W.kitOne X.K t c=some b) (h:∀tk,Q (.bool b) { s with toks:=tk }) :
    wpAny (model X.prog X.w) A (call (.builtin "isinstance") [u,c]) Q E s:=by
  cases ty with
  | non=>cases (show u=Value.none from rx);exact PySem.W.kia_one PySem.W.kitx_none I.kIn True.intro e (fun z=>nomatch z) h
  | bl y=>cases (show u=Value.bool y from rx);exact PySem.W.kia_one PySem.W.kitx_bool I.kIn True.intro e (fun z=>nomatch z) h
  | int i=>obtain ⟨t,q⟩:=(show ∃t,u=Value.int i t from rx);cases q;exact PySem.W.kia_one PySem.W.kitx_int I.kIn True.intro e (fun z=>nomatch z) h
  | str y=>obtain ⟨t,q⟩:=(show ∃t,u=Value.str y t from rx);cases q;exact PySem.W.kia_one PySem.W.kitx_str I.kIn True.intro e (fun z=>nomatch z) h
  | flt y=>obtain ⟨t,q⟩:=(show ∃t,u=Value.float y t from rx);cases q;exact PySem.W.kia_one PySem.W.kitx_float I.kIn True.intro e (fun z=>nomatch z) h
  | @lst a xs ea =>
    cases (show u=Value.ref a from rx)
    obtain ⟨_,_,n,_,h1⟩:=(show ObjOk X.prog X.w H s.heap a (.lst xs) from I.hok a _ ea)
    exact PySem.W.kia_one PySem.W.kitx_list I.kIn ⟨_,h1,rfl⟩ e (fun z=>nomatch z) h
  | @frz a ob xs ea =>
    cases (show u=Value.ref a from rx)
    obtain ⟨_,_,_,n,_,h1⟩:=(show ObjOk X.prog X.w H s.heap a (.frz ob (.lst xs)) from I.hok a _ ea)
    exact PySem.W.kia_one PySem.W.kitx_list I.kIn ⟨_,h1,rfl⟩ e (fun z=>nomatch z) h
  | @tup a xs ea =>
    cases (show u=Value.ref a from rx)
    obtain ⟨_,_,_,p⟩:=(show ObjOk X.prog X.w H s.heap a (.tup xs) from I.hok a _ ea)
    obtain ⟨o,h1,h2,_⟩:=p
    exact PySem.W.kia_one PySem.W.kitx_tuple I.kIn ⟨o,h1,h2⟩ e (fun z=>nomatch z) h
  | @dK a kvs ea =>
    cases (show u=Value.ref a from rx)
    obtain ⟨_,_,vs,_,p⟩:=(show ObjOk X.prog X.w H s.heap a (.dK kvs) from I.hok a _ ea)
    obtain ⟨o,es,ep,h1,h2,_⟩:=p
    exact PySem.W.kia_one PySem.W.kitx_dict I.kIn ⟨o,h1,h2.1⟩ e (fun z=>nomatch z) h
  | @dT a kvs ea =>
    cases (show u=Value.ref a from rx)
    obtain ⟨_,_,xs,_,o,es,ep,h1,h2,_⟩:=(show ObjOk X.prog X.w H s.heap a (.dT kvs) from I.hok a _ ea)
    exact PySem.W.kia_one PySem.W.kitx_dict I.kIn ⟨o,h1,h2.1⟩ e (fun z=>nomatch z) h
  | @ins a C dx fs ea cl ha hn htk hm =>
    cases (show u=Value.ref a from rx)
    obtain ⟨mA,O,_⟩:=ins_get I.hok ea
    obtain ⟨od,J,_⟩:=O.look
    exact PySem.W.kia_one (PySem.W.kitx_own (cl.get _) cl.hd ha hn htk hm) I.kIn J e (fun z=>nomatch z) h
end
end L2
namespace L2
open PySem PySem.Spec PyProof.Rows
structure Room (k:Nat) (A:Around):Prop where
  hd:A.handled=none
  dp:A.depth+3*k+5<recursionLimit
  un:A.units+16*k+200<cLine
theorem Room.mono {j k:Nat} {A:Around} (r:Room k A) (h:j≤k):Room j A:=⟨r.hd,by have:=r.dp;omega,by have:=r.un;omega⟩
theorem Room.deeper {k:Nat} {A:Around} (r:Room (k+1) A) (env:Env):Room k (A.deeper env) :=
  ⟨r.hd,by have:=r.dp;show A.depth+1+3*k+5<_;omega,by have:=r.un;show A.units+3+16*k+200<_;omega⟩
theorem Room.in1 {k:Nat} {A:Around} (r:Room (k+1) A):Room k A.in1 :=
  ⟨r.hd,by have:=r.dp;show A.depth+3*k+5<_;omega,by have:=r.un;show A.units+1+16*k+200<_;omega⟩
theorem make_depth {A:Around} {C:Addr} {us:List Value} {kw:List (Str×Value)}:(A.under (.builtin "type.__call__" ⟨.ref C::us,kw⟩)).depth=A.depth+1:=by
  first | rfl | simp [Around.under,Code.weight,Code.isCreation,Code.isGuard,Code.isCaller,Code.frames,Code.isFrame,guardIds]
theorem make_units {A:Around} {C:Addr} {us:List Value} {kw:List (Str×Value)}:(A.under (.builtin "type.__call__" ⟨.ref C::us,kw⟩)).units=A.units+1:=by
  first | rfl | simp [Around.under,Code.cUnits,Code.frames,Code.isFrame]
theorem Room.make {k:Nat} {A:Around} (r:Room (k+1) A) (C:Addr) (us:List Value) (kw:List (Str×Value)):Room k (A.under (.builtin "type.__call__" ⟨.ref C::us,kw⟩)) :=
  ⟨r.hd,by have:=r.dp;rw [make_depth];omega,by have:=r.un;rw [make_units];omega⟩
theorem Room.depth {k:Nat} {A:Around} (r:Room k A):A.depth<recursionLimit:=by have:=r.dp;omega
theorem Room.units {k:Nat} {A:Around} (r:Room k A):A.units+64<cLine:=by have:=r.un;omega
def tNil:TA:=fun _ H Q=>Q [] H
def tCons (ta:TE) (tr:TA):TA:=fun σ H Q=>ta σ H fun x H1=>tr σ H1 fun xs H2=>Q (x::xs) H2
section
variable {X:Cx} {e:Expr} {es:List Expr} {te:TE} {t:TA} {pos:Pos}
theorem pa_nil:PA X [] tNil:=fun _ _ _ _ H Q I h=>Calls.spliced_nil ⟨[],H,I,.nil,h⟩
theorem pa_cons (ha:PE X e te) (hr:PA X es t) (hs:starEach (e::es) X.env=(false,eval e X.env)::starEach es X.env:=by rfl):PA X (e::es) (tCons te t):=by
  intro pos pins s σ H Q I h
  rw [hs]
  show wpAny _ _ (spliced ((false,eval e X.env)::backTo pos (starEach es X.env))) _ _ s
  refine Calls.spliced_cons (thn (ha pins s σ H _ I h) fun u s1 ⟨x,H1,I1,r1,q1⟩=>?_)
  exact thn (hr pos pins s1 σ H1 _ I1 q1) fun us s2 ⟨xs,H2,I2,r2,q2⟩=>⟨x::xs,H2,I2,.cons r1 r2,q2⟩
def tTup (t:TA):TE:=fun σ H Q=>t σ H fun xs H1=>xs.length≤sizeLine∧∀p,H1 p=none→Q (.ref p) (upd H1 p (.tup xs))
def tLst (t:TA):TE:=fun σ H Q=>t σ H fun xs H1=>xs.length≤sizeLine∧∀p,H1 p=none→Q (.ref p) (upd H1 p (.lst xs))
theorem pe_tup {x1} (h:PA X es t):PE X (.Tuple es x1 pos) (tTup t):=by
  intro pins s σ H Q I hq
  refine wpAny_Tuple_spliced (thn (h pos pins s σ H _ I hq) fun us s1 ⟨xs,H1,I1,r,z,q⟩=>⟨by rw [←r.length];exact z,?_⟩)
  have hf:H1 s1.heap.objs.size=none:=I1.hok.fresh (Nat.le_refl _)
  refine ⟨.ref s1.heap.objs.size,upd H1 s1.heap.objs.size (.tup xs),I1.laid (t':=s1.toks) (fun b u e=>Heap.get?_push_of_some _ e) (Nat.le_refl _) ?_,rfl,q _ hf⟩
  exact ⟨z,us,r,⟨_,Heap.get?_push_size _ rfl,rfl,_,rfl⟩⟩
theorem pe_lst (h:PA X es t):PE X (.List es pos) (tLst t):=by
  intro pins s σ H Q I hq
  refine wpAny_List_spliced (thn (h pos pins s σ H _ I hq) fun us s1 ⟨xs,H1,I1,r,z,q⟩=>⟨by rw [←r.length];exact z,?_⟩)
  have hf:H1 s1.heap.objs.size=none:=I1.hok.fresh (Nat.le_refl _)
  refine ⟨.ref s1.heap.objs.size,upd H1 s1.heap.objs.size (.lst xs),I1.laid (t':=s1.toks) (fun b u e=>Heap.get?_push_of_some _ e) (Nat.le_refl _) ?_,rfl,q _ hf⟩
  exact ⟨z,us,0,r,Heap.get?_push_size _ rfl⟩
end
abbrev Sp:=List V→Hp→VK→XK→Prop
abbrev CXT:=List Env→Hp→Shared→XK→Value→Shared→Prop
structure Env0 (P:Program) (w:World) (K:PySem.W.Frag) (mg:Str→Option Value) (base:Heap) (A:Around) (outer:List Env) (s:Shared) (H:Hp):Prop where
  frames:A.frames=some outer
  mod:Mod K mg base
  bs:∀b o,base.get? b=some o→s.heap.get? b=some o∧H b=none
  bsz:base.objs.size≤s.heap.objs.size
  funs:s.heap.FunFrames base outer
  frf:∀b∈frs outer,H b=none
  hok:HOk P w H s.heap
  bare:AllBare s.gens
def CE (outer:List Env) (P:Program) (w:World) (H:Hp) (s:Shared) (Q:VK) (u:Value) (s':Shared):Prop :=
  ∃v H',s'.os=s.os∧AllBare s'.gens∧Un (frs outer) [] H H' s.heap s'.heap∧HOk P w H' s'.heap∧RelV v u∧Q v H'
def CR (CX:CXT) (outer:List Env) (P:Program) (w:World) (H:Hp) (s:Shared) (Q:VK) (E:XK) (r:Result) (s':Shared):Prop :=
  match r with
  | .ok (.ret u)=>CE outer P w H s Q u s'
  | .ok _=>False
  | .error e=>CX outer H s E e s'
structure FnOk (P:Program) (w:World) (K:PySem.W.Frag) (mg:Str→Option Value) (base:Heap) (CX:CXT) (k:Nat) (f:Addr) (fd:FuncData) (ps:List Str) (sp:Sp):Prop where
  len:∀vs H Q E,sp vs H Q E→vs.length=ps.length
  run:∀(A:Around) (outer:List Env) (s:Shared) (H:Hp) (args:Args) (us:List Value) (vs:List V) (Q:VK) (E:XK),Room k A→Env0 P w K mg base A outer s H→BindsTo s fd args (ps.zip us)→Vals vs us→sp vs H Q E →
    codeAny (model P w) A (.call (.ref f) args) (CR CX outer P w H s Q E) s
theorem FnOk.mono {P:Program} {w:World} {K:PySem.W.Frag} {mg:Str→Option Value} {base:Heap} {CX:CXT} {j k:Nat} {f:Addr} {fd:FuncData} {ps:List Str} {sp:Sp} (F:FnOk P w K mg base CX j f fd ps sp) (h:j≤k) :
    FnOk P w K mg base CX k f fd ps sp:=⟨F.len,fun A outer s H args us vs Q E hr=>F.run A outer s H args us vs Q E (hr.mono h)⟩
theorem FnOk.imp {P:Program} {w:World} {K:PySem.W.Frag} {mg:Str→Option Value} {base:Heap} {CX:CXT} {k:Nat} {f:Addr} {fd:FuncData} {ps:List Str} {sp sp':Sp} (F:FnOk P w K mg base CX k f fd ps sp)
    (h:∀vs H Q E,sp' vs H Q E→sp vs H Q E):FnOk P w K mg base CX k f fd ps sp' :=
  ⟨fun vs H Q E q=>F.len vs H Q E (h _ _ _ _ q),fun A outer s H args us vs Q E hr he hb hv hs=>F.run A outer s H args us vs Q E hr he hb hv (h _ _ _ _ hs)⟩
theorem Env0.make {P:Program} {w:World} {K:PySem.W.Frag} {mg:Str→Option Value} {base:Heap} {A:Around} {outer:List Env} {s:Shared} {H:Hp} (e:Env0 P w K mg base A outer s H) (C:Addr) (us:List Value) (kw:List (Str×Value)) :
    Env0 P w K mg base (A.under (.builtin "type.__call__" ⟨.ref C::us,kw⟩)) outer s H:=⟨by first | exact e.frames | (simpa [Around.under,Code.envs,Code.isFrame,pushEnvs] using e.frames),e.mod,e.bs,e.bsz,e.funs,e.frf,e.hok,e.bare⟩
theorem Env0.in1 {P:Program} {w:World} {K:PySem.W.Frag} {mg:Str→Option Value} {base:Heap} {A:Around} {outer:List Env} {s:Shared} {H:Hp} (e:Env0 P w K mg base A outer s H) :
    Env0 P w K mg base A.in1 outer s H:=⟨e.frames,e.mod,e.bs,e.bsz,e.funs,e.frf,e.hok,e.bare⟩
section
variable {X:Cx} {pins:List (Addr×Obj)} {σ:St} {H:Hp} {s s':Shared}
theorem Inv.env0 (I:Inv X pins σ H s):Env0 X.prog X.w X.K X.mg X.base X.A X.stack s H :=
  ⟨I.ok.frames,I.ok.mod,I.bs,Nat.le_trans I.ok.bsz I.sz,I.stack,I.stkFree,I.hok,I.bare⟩
theorem Inv.after {Q:VK} {u:Value} (I:Inv X pins σ H s) (h:CE X.stack X.prog X.w H s Q u s'):EP X pins σ Q u s':=by
  obtain ⟨v,H',os,bare,un,hok,r,q⟩:=h
  obtain ⟨hh,g,d,t,os'⟩:=s'
  obtain rfl:os'=s.os:=os
  exact ⟨v,H',I.call (h':=hh) (g':=g) (d':=d) (t':=t) (ch:=[]) un hok bare (fun b z=>absurd z (by simp)),r,q⟩
end
def tCall (sp:Sp) (dvs:List V) (E:XK) (t:TA):TE:=fun σ H Q=>t σ H fun vs H1=>sp (vs++dvs) H1 Q E
def tMeth (C:Addr) (m:Str) (sp:Sp) (dvs:List V) (E:XK) (ta:TE) (t:TA):TE:=fun σ H Q=>ta σ H fun x H1=>∃a dx fs,x=.ref a∧H1 a=some (.ins C dx fs)∧fs.lookup m=none ∧
  t σ H1 fun vs H2=>sp (x::(vs++dvs)) H2 Q E
def tMake (C:Addr) (sp:Sp) (dvs:List V) (E:XK) (t:TA):TE:=fun σ H Q=>t σ H fun vs H1=>∀x dx,H1 x=none→H1 dx=none→dx≠x →
  sp (.ref x::(vs++dvs)) (upd (upd H1 dx (.own x)) x (.ins C dx [])) (fun v H2=>v=.non∧Q (.ref x) H2) E
def Binds (K:PySem.W.Frag) (fd:FuncData) (ps:List Str) (ds:List Value):Prop :=
  ∀(s:Shared) (us:List Value),K.In s.heap→(us++ds).length=ps.length→BindsTo s fd ⟨us,[]⟩ (ps.zip (us++ds))
theorem Binds.all {K:PySem.W.Frag} {fd:FuncData} {ps:List Str} (h:∀us:List Value,us.length=ps.length→bindArgs fd ⟨us,[]⟩=pure (ps.zip us)):Binds K fd ps []:=fun s us _ hl=>by
  rw [List.append_nil] at hl ⊢
  exact .of_eq (h us hl)
def Passes (CX:CXT) (X:Cx) (E:XK):Prop:=∀(pins:List (Addr×Obj)) (σ:St) (H:Hp) (s:Shared) (e:Value) (s':Shared),Inv X pins σ H s→CX X.stack H s E e s'→X.xe e s'
section
variable {X:Cx} {CX:CXT} {k:Nat} {f C:Addr} {fd:FuncData} {ps:List Str} {sp:Sp} {dvs:List V} {ds:List Value} {E:XK} {x m:Str} {p pos apos:Pos} {e o:Expr} {es:List Expr} {ta:TE} {t:TA}
theorem run_fn {pins:List (Addr×Obj)} {σ:St} {H:Hp} {s:Shared} {Q:VK} {us:List Value} {vs:List V} (F:FnOk X.prog X.w X.K X.mg X.base CX k f fd ps sp) (hr:Room k X.A) (hb:Binds X.K fd ps ds) (hd:Vals dvs ds) (hx:Passes CX X E)
    (I:Inv X pins σ H s) (r:Vals vs us) (h:sp (vs++dvs) H Q E):wpAny (model X.prog X.w) X.A (call (.ref f) us) (EP X pins σ Q) X.xe s:=by
  have r2:Vals (vs++dvs) (us++ds):=r.append hd
  have hl:(us++ds).length=ps.length:=by rw [←r2.length];exact F.len _ _ _ _ h
  refine wpAny_call (codeAny_mono (F.run X.A X.stack s H ⟨us,[]⟩ (us++ds) (vs++dvs) Q E hr I.env0 (hb s us I.kIn hl) r2 h) fun r s' hq=>?_)
  cases r with
  | error e=>exact hx pins σ H s e s' I hq
  | ok fl =>
    cases fl with
    | ret u=>exact I.after hq
    | next=>exact False.elim hq
    | brk=>exact False.elim hq
    | cont=>exact False.elim hq
theorem pe_call (F:FnOk X.prog X.w X.K X.mg X.base CX k f fd ps sp) (hr:Room k X.A) (hg:Gl X x) (hm:X.mg x=some (.ref f)) (hk:PySem.W.keepIn X.K (.ref f)=true) (hb:Binds X.K fd ps ds) (hd:Vals dvs ds) (hx:Passes CX X E)
    (ha:PA X (e::es) t) (hdb:(x == ("__debug__" : Str))=false:=by decide) (he:starEach (e::es) X.env=(false,eval e X.env)::starEach es X.env:=by rfl) (hpl:(backTo pos (starEach es X.env)).any (·.1)=false:=by rfl) :
    PE X (.Call (.Name x p) (e::es) [] pos) (tCall sp dvs E t):=by
  intro pins s σ H Q I h
  refine wpAny_Call_Name_kw (ld_glob I hg hm ?_ hdb)
  refine PySem.W.callWith_K (h₀:=X.base) I.ok.mod.kin hk (thn (ha pos pins s σ H _ I h) fun us s1 ⟨vs,H1,I1,r,q⟩=>⟨I1.kIn,?_⟩) he hpl
  exact run_fn F hr hb hd hx I1 r q
theorem pe_meth {pl:Sem Bool} (he:PE X o ta) (c:Cls X.K C) (hm:Meth X.K C m f) (F:FnOk X.prog X.w X.K X.mg X.base CX k f fd ps sp) (hr:Room k X.A) (hb:Binds X.K fd ps ds) (hd:Vals dvs ds) (hx:Passes CX X E) (ha:PA X (e::es) t)
    (hst:starEach (e::es) X.env=(false,eval e X.env)::starEach es X.env:=by rfl) (hpl:(backTo pos (starEach es X.env)).any (·.1)=false:=by rfl)
    (ht:eval (.Call (.Attribute o m apos) (e::es) [] pos) X.env=(do
      let ov ←eval o X.env
      standAt apos.atName
      let (f,first) ←holding [ov] (getMethod ov m pl)
      callWith pos f first (backTo pos (starEach (e::es) X.env)) (backToKw pos (keywordEach [] X.env))):=by rfl) :
    PE X (.Call (.Attribute o m apos) (e::es) [] pos) (tMeth C m sp dvs E ta t):=by
  intro pins s σ H Q I h
  refine PySem.W.methodCall_KW (pl:=pl) (thn (he pins s σ H _ I h) fun u s1 ⟨x,H1,I1,rx,a,dx,fs,ex,ea,l,q⟩=>?_) ht
  subst ex
  obtain rfl:u=Value.ref a:=rx
  refine getmeth_ok I1 ea c hm l ?_
  refine PySem.W.callWith_K (first:=[.ref a]) (h₀:=X.base) I.ok.mod.kin hm.kp (thn (ha pos pins s1 σ H1 _ I1 q) fun us s2 ⟨vs,H2,I2,r,q2⟩=>⟨I2.kIn,?_⟩) hst hpl
  exact run_fn (us:=.ref a::us) (vs:=.ref a::vs) F hr hb hd hx I2 (.cons rfl r) q2
theorem pe_meth0 {pl:Sem Bool} (he:PE X o ta) (c:Cls X.K C) (hm:Meth X.K C m f) (F:FnOk X.prog X.w X.K X.mg X.base CX k f fd ps sp) (hr:Room k X.A) (hb:Binds X.K fd ps ds) (hd:Vals dvs ds) (hx:Passes CX X E)
    (ht:eval (.Call (.Attribute o m apos) [] [] pos) X.env=(do
      let ov ←eval o X.env
      standAt apos.atName
      let (f,first) ←holding [ov] (getMethod ov m pl)
      callWith pos f first (backTo pos (starEach [] X.env)) (backToKw pos (keywordEach [] X.env))):=by rfl) :
    PE X (.Call (.Attribute o m apos) [] [] pos) (tMeth C m sp dvs E ta tNil):=by
  intro pins s σ H Q I h
  refine PySem.W.methodCall_KW (pl:=pl) (thn (he pins s σ H _ I h) fun u s1 ⟨x,H1,I1,rx,a,dx,fs,ex,ea,l,q⟩=>?_) ht
  subst ex
  obtain rfl:u=Value.ref a:=rx
  refine getmeth_ok I1 ea c hm l ?_
  exact PySem.W.callWith_K0 (first:=[.ref a]) I1.kIn hm.kp (run_fn (us:=[.ref a]) (vs:=[.ref a]) F hr hb hd hx I1 (.cons rfl .nil) q)
structure Mk (K:PySem.W.Frag) (C f:Addr):Prop where
  makes:PySem.W.makesIn K C=true
  init:PySem.W.findIn K (.ref C) "__init__" = some (some (.ref f))
  fn:PySem.W.isFn K (.ref f)=true
  kp:PySem.W.keepIn K (.ref C)=true
theorem run_make {pins:List (Addr×Obj)} {σ:St} {H:Hp} {s:Shared} {Q:VK} {us:List Value} {vs:List V} (M:Mk X.K C f) (F:FnOk X.prog X.w X.K X.mg X.base CX k f fd ps sp) (hr:Room (k+1) X.A) (hb:Binds X.K fd ps ds) (hd:Vals dvs ds)
    (hx:Passes CX X E) (I:Inv X pins σ H s) (r:Vals vs us)
    (h:∀x dx,H x=none→H dx=none→dx≠x→sp (.ref x::(vs++dvs)) (upd (upd H dx (.own x)) x (.ins C dx [])) (fun v H2=>v=.non∧Q (.ref x) H2) E) :
    wpAny (model X.prog X.w) X.A (call (.ref C) us) (EP X pins σ Q) X.xe s:=by
  have hq:=h (s.heap.objs.size+1) s.heap.objs.size (I.hok.fresh (Nat.le_succ _)) (I.hok.fresh (Nat.le_refl _)) (Nat.ne_of_lt (Nat.lt_succ_self _))
  have I2:=Inv.made (C:=C) I
  have r2:Vals (V.ref (s.heap.objs.size+1)::(vs++dvs)) (Value.ref (s.heap.objs.size+1)::(us++ds)):=.cons rfl (r.append hd)
  have hl:(Value.ref (s.heap.objs.size+1)::us++ds).length=ps.length:=by
    have e:=r2.length
    rw [F.len _ _ _ _ hq] at e
    exact e.symm
  refine wpAny_call (make_map (f:=f) I.kIn M.makes M.init (beq_iff_eq.mp M.fn) (codeAny_mono (F.run _ X.stack _ _ ⟨Value.ref (s.heap.objs.size+1)::us,[]⟩ (Value.ref (s.heap.objs.size+1)::(us++ds)) _ _ E (hr.make C us [])
    (I2.env0.make C us []) (hb _ (Value.ref (s.heap.objs.size+1)::us) I2.kIn hl) r2 hq) fun r s' hq'=>?_))
  cases r with
  | error e=>exact hx pins σ _ _ e s' I2 hq'
  | ok fl =>
    cases fl with
    | ret u =>
      obtain ⟨v,H',I3,rv,ev,q3⟩:=I2.after hq'
      subst ev
      exact ⟨rv,⟨V.ref (s.heap.objs.size+1),H',I3,rfl,q3⟩⟩
    | next=>exact False.elim hq'
    | brk=>exact False.elim hq'
    | cont=>exact False.elim hq'
theorem pe_make (M:Mk X.K C f) (F:FnOk X.prog X.w X.K X.mg X.base CX k f fd ps sp) (hr:Room (k+1) X.A) (hg:Gl X x) (hm:X.mg x=some (.ref C)) (hb:Binds X.K fd ps ds) (hd:Vals dvs ds) (hx:Passes CX X E)
    (ha:PA X (e::es) t) (hdb:(x == ("__debug__" : Str))=false:=by decide) (he:starEach (e::es) X.env=(false,eval e X.env)::starEach es X.env:=by rfl) (hpl:(backTo pos (starEach es X.env)).any (·.1)=false:=by rfl) :
    PE X (.Call (.Name x p) (e::es) [] pos) (tMake C sp dvs E t):=by
  intro pins s σ H Q I h
  refine wpAny_Call_Name_kw (ld_glob I hg hm ?_ hdb)
  refine PySem.W.callWith_K (h₀:=X.base) I.ok.mod.kin M.kp (thn (ha pos pins s σ H _ I h) fun us s1 ⟨vs,H1,I1,r,q⟩=>⟨I1.kIn,?_⟩) he hpl
  exact run_make M F hr hb hd hx I1 r q
end
def PK (X:Cx) (kws:List Keyword) (t:TA):Prop :=
  ∀(pos:Pos) (pins:List (Addr×Obj)) (s:Shared) (σ:St) (H:Hp) (Q:List V→Hp→Prop),Inv X pins σ H s→t σ H Q→wpAny (model X.prog X.w) X.A (evalAll ((backToKw pos (keywordEach kws X.env)).map (·.2))) (AP X pins σ Q) X.xe s
section
variable {X:Cx} {CX:CXT} {k:Nat} {f C:Addr} {fd:FuncData} {ps ks:List Str} {sp:Sp} {E:XK} {x m:Str} {p pos apos kpos:Pos} {e o:Expr} {es:List Expr} {kws:List Keyword} {te ta:TE} {t tk:TA} {nm:Option Str}
structure KBinds (K:PySem.W.Frag) (fd:FuncData) (ps ks:List Str) (g:List Value→List Value→List Value) (gV:List V→List V→List V):Prop where
  to:∀(s:Shared) (us ws:List Value),K.In s.heap→(g us ws).length=ps.length→BindsTo s fd ⟨us,ks.zip ws⟩ (ps.zip (g us ws))
  rel:∀{vs:List V} {us:List Value} {zs:List V} {ws:List Value},Vals vs us→Vals zs ws→Vals (gV vs zs) (g us ws)
variable {g:List Value→List Value→List Value} {gV:List V→List V→List V}
end
structure FnScope (N P:List Str) (sc:Scope):Prop where
  kind:sc.kind=.function
  co:sc.isCoroutine=false
  gen:sc.isGenerator=false
  nd:N.Nodup
  pre:N.take P.length=P
  par:∀x∈P,sc.names.lookup x=some .local∨sc.names.lookup x=some .cell
  nofree:∀y∈sc.names,y.2≠.free
theorem bindL_out {kindOf:Str→Option NameKind} {x:Str}:∀{binds:List (Str×Value)} {m:Str→Option Value},(∀v,(x,v)∉binds)→bindL kindOf binds m x=m x
  | [],_,_=>rfl
  | (n,v)::r,m,h=>by
    unfold bindL
    rw [bindL_out fun w hw=>h w (List.mem_cons_of_mem _ hw)]
    split
    · have:x≠n:=by rintro rfl;exact h v List.mem_cons_self
      simp [this]
    · rfl
theorem bindC_out {kindOf:Str→Option NameKind} {x:Str}:∀{binds:List (Str×Value)} {m:Str→Option Value},(∀v,(x,v)∉binds)→bindC kindOf binds m x=m x
  | [],_,_=>rfl
  | (n,v)::r,m,h=>by
    unfold bindC
    rw [bindC_out fun w hw=>h w (List.mem_cons_of_mem _ hw)]
    split
    · rfl
    · have:x≠n:=by rintro rfl;exact h v List.mem_cons_self
      simp [this]
theorem bindL_get {kindOf:Str→Option NameKind} {x:Str} {v:Value}:∀{P:List Str} {vs:List Value} {i:Nat} {m:Str→Option Value},P.Nodup→P[i]?=some x→vs[i]?=some v→kindOf x=some .local →
    bindL kindOf (P.zip vs) m x=some v
  | [],_,_,_,_,h,_,_=>by simp at h
  | _::_,[],_,_,_,_,h,_=>by simp at h
  | p::P,w::vs,0,m,nd,h1,h2,hk=>by
    simp at h1 h2;subst h1;subst h2
    show bindL kindOf ((p,w)::P.zip vs) m p=_
    unfold bindL
    rw [bindL_out fun v hv=>(List.nodup_cons.mp nd).1 (List.of_mem_zip hv).1,if_pos hk]
    simp
  | p::P,w::vs,i+1,m,nd,h1,h2,hk=>by
    show bindL kindOf ((p,w)::P.zip vs) m x=_
    unfold bindL
    exact bindL_get (i:=i) (List.nodup_cons.mp nd).2 (by simpa using h1) (by simpa using h2) hk
theorem bindC_get {kindOf:Str→Option NameKind} {x:Str} {v:Value}:∀{P:List Str} {vs:List Value} {i:Nat} {m:Str→Option Value},P.Nodup→P[i]?=some x→vs[i]?=some v→kindOf x≠some .local →
    bindC kindOf (P.zip vs) m x=some v
  | [],_,_,_,_,h,_,_=>by simp at h
  | _::_,[],_,_,_,_,h,_=>by simp at h
  | p::P,w::vs,0,m,nd,h1,h2,hk=>by
    simp at h1 h2;subst h1;subst h2
    show bindC kindOf ((p,w)::P.zip vs) m p=_
    unfold bindC
    rw [bindC_out fun v hv=>(List.nodup_cons.mp nd).1 (List.of_mem_zip hv).1,if_neg hk]
    simp
  | p::P,w::vs,i+1,m,nd,h1,h2,hk=>by
    show bindC kindOf ((p,w)::P.zip vs) m x=_
    unfold bindC
    exact bindC_get (i:=i) (List.nodup_cons.mp nd).2 (by simpa using h1) (by simpa using h2) hk
def start (N:List Str) (vs:List V):St:=vs.map some++List.replicate (N.length - vs.length) none
def cxOf (CX:CXT) (P:Program) (w:World) (K:PySem.W.Frag) (mg:Str→Option Value) (base:Heap) (N:List Str) (qual:Str) (scope:Scope) (f:Addr) (cd:Value) (A:Around) (outer:List Env) (s:Shared) (H:Hp) (E:XK):Cx where
  prog:=P
  w:=w
  K:=K
  mg:=mg
  base:=base
  A:=A.deeper (envOfC qual scope s.heap.objs.size f cd)
  N:=N
  s₀:=s
  H₀:=H
  env:=envOfC qual scope s.heap.objs.size f cd
  outer:=outer
  stack:=envOfC qual scope s.heap.objs.size f cd::outer
  ex:=[]
  calm:=true
  fn:=fun _=>true
  pn:=[]
  xe:=fun e s'=>wpAny (model P w) (A.deeper (envOfC qual scope s.heap.objs.size f cd)) (leaving (envOfC qual scope s.heap.objs.size f cd) e) (fun _ s''=>CX outer H s E e s'') (fun e' s''=>CX outer H s E e' s'') s'
theorem cell_has {sc:Scope} {n:Nat} {x:Str} (h:sc.names.lookup x=some .cell):∃c,(cellsFrom n sc.names []).lookup x=some c:=by
  have q:=PySem.W.cellsFrom_some sc.names n [] (.inl h)
  exact Option.isSome_iff_exists.mp q
theorem inv_start {CX:CXT} {P:Program} {w:World} {K:PySem.W.Frag} {mg:Str→Option Value} {base:Heap} {N ps:List Str} {qual:Str} {scope:Scope} {f:Addr} {cd:Value} {A:Around} {outer:List Env} {s s1:Shared} {H:Hp} {E:XK} {us:List Value} {vs:List V}
    (S:FnScope N ps scope) (hd:A.handled=none) (e0:Env0 P w K mg base A outer s H) (hl:vs.length=ps.length) (r:Vals vs us)
    (x:InCallC s s.heap.objs.size (bindL (envOfC qual scope s.heap.objs.size f cd).kindOf (ps.zip us) fun _=>none) (cellsFrom (s.heap.objs.size+1) scope.names []) (bindC (envOfC qual scope s.heap.objs.size f cd).kindOf (ps.zip us) fun _=>none) s1) :
    Inv (cxOf CX P w K mg base N qual scope f cd A outer s H E) [] (start N vs) H s1:=by
  have hpl:ps.length≤N.length:=by have:=congrArg List.length S.pre;rw [List.length_take] at this;omega
  obtain ⟨h1,tk,rfl,hk⟩:=x.done
  have noA:∀b:Addr,b∉(cxOf CX P w K mg base N qual scope f cd A outer s H E).ex:=fun b z=>absurd (show b∈([]:List Addr) from z) (by simp)
  refine ⟨⟨e0.mod,S.kind,rfl,rfl,Nat.le_refl _,fun y z c h1 h2=>?_,fun y hy=>?_,fun y c _ h=>?_,fun _=>hd,Around.frames_deeper e0.frames,.inr ⟨rfl,rfl⟩,fun b z=>absurd z (noA b),e0.bs,e0.bsz,fun b _ _=>noA b,fun b z=>absurd z (noA b),e0.funs,e0.frf⟩,
    rfl,e0.bare,Un.kept hk,⟨_,x.toInCall.ns,fun i y v h1 h2 h3=>?_⟩,fun y c h=>⟨_,x.cell y c h⟩,e0.hok.fresh (Nat.le_refl _),fun y c h=>?_,fun p hp=>absurd (show p∈([]:List (Addr×Obj)) from hp) (by simp),e0.hok.kept hk,?_⟩
  · exact name_of_addr x.apart (PySem.mem_of_lookup h1) (PySem.mem_of_lookup h2)
  · have hy:scope.names.lookup y=some .cell∨scope.names.lookup y=some .free:=hy
    rcases hy with hy | hy
    · exact cell_has hy
    · exact absurd rfl (S.nofree _ (PySem.mem_of_lookup hy))
  · exact Nat.le_of_lt (x.above y c (PySem.mem_of_lookup h))
  · have hi:i<vs.length:=by
      unfold start at h2
      by_cases hi:i<vs.length
      · exact hi
      · rw [List.getElem?_append_right (by simpa using hi)] at h2
        rw [List.getElem?_replicate] at h2
        split at h2 <;> cases h2
    have ha:vs[i]?=some v:=by
      unfold start at h2
      rw [List.getElem?_append_left (by simpa using hi),List.getElem?_map] at h2
      cases e:vs[i]? with
      | none=>rw [e] at h2;cases h2
      | some a=>rw [e] at h2;cases h2;rfl
    obtain ⟨u,hu,rv⟩:=r.get ha
    have hp:ps[i]?=some y:=by
      rw [←S.pre,List.getElem?_take_of_lt (by omega)];exact h1
    have ndP:ps.Nodup:=by rw [←S.pre];exact S.nd.sublist (List.take_sublist _ _)
    refine ⟨u,rv,?_⟩
    rcases S.par y (List.mem_of_getElem? hp) with k | k
    · exact .inl ⟨k,bindL_get ndP hp hu k⟩
    · obtain ⟨c,e⟩:=cell_has (n:=s.heap.objs.size+1) k
      refine .inr ⟨.inl k,c,e,?_⟩
      have q:=x.cell y c e
      rw [bindC_get ndP hp hu (by show scope.names.lookup y≠_;rw [k];decide)] at q
      exact q
  · exact e0.hok.fresh (Nat.le_of_lt (x.above y c (PySem.mem_of_lookup h)))
  · unfold start
    show _=N.length
    rw [List.length_append,List.length_map,List.length_replicate]
    omega
theorem fn_of {CX:CXT} {P:Program} {w:World} {K:PySem.W.Frag} {mg:Str→Option Value} {base:Heap} {k:Nat} {f:Addr} {name qual:Str} {params:Arguments} {body:List Stmt} {scope:Scope} {dV kV doc pm cdv ct oc:Value} {an od:Option Addr}
    {osl:Array (Option Value)} {N ps:List Str} {sp:Sp} (lk:K.lookup f=some ⟨oc,od,.func (PySem.W.fnOf name qual params body scope dV kV doc pm an cdv ct),osl⟩) (hcd:PySem.W.codeIn K cdv qual=true) (S:FnScope N ps scope)
    (len:∀vs H Q E,sp vs H Q E→vs.length=ps.length)
    (hbody:∀(A:Around) (outer:List Env) (s:Shared) (H:Hp) (vs:List V) (Q:VK) (E:XK),Room k (A.deeper (envOfC qual scope s.heap.objs.size f cdv))→sp vs H Q E →
      ∃t,PSs (cxOf CX P w K mg base N qual scope f cdv A outer s H E) body t∧t { nx:=fun _ H'=>Q .non H',rt:=Q } (start N vs) H) :
    FnOk P w K mg base CX (k+1) f (PySem.W.fnOf name qual params body scope dV kV doc pm an cdv ct) ps sp:=by
  refine ⟨len,fun A outer s H args us vs Q E hr e0 hb r hsp=>?_⟩
  have hl:=len _ _ _ _ hsp
  have KX:K.In s.heap:=e0.mod.kin.keeps fun b o e=>(e0.bs b o e).1
  have lim:s.heap.NoLimit:=e0.mod.nolimit.keeps fun b o e=>(e0.bs b o e).1
  have hkind:∀y∈ps.zip us,scope.names.lookup y.1=some .local∨(scope.names.lookup y.1=some .cell∧((cellsFrom (s.heap.objs.size+1) scope.names []).lookup y.1).isSome=true):=fun ⟨n,v⟩ hy=>by
    rcases S.par n (List.of_mem_zip hy).1 with q | q
    · exact .inl q
    · exact .inr ⟨q,PySem.W.cellsFrom_some _ _ _ (.inl q)⟩
  refine codeAny_call_function hr.depth (KX _ _ lk) rfl S.co S.gen rfl (PySem.W.codeRec_of KX hcd) (hb _ _ _ _ ?_)
  refine wpAny_newFunctionEnv_cells S.kind hkind fun env he s1 x=>?_
  subst he
  refine ⟨lim.keeps x.toInCall.keep,codeAny_func ?_⟩
  obtain ⟨t,ht,hq⟩:=hbody A outer s H vs Q E (hr.deeper _) hsp
  have I:Inv (cxOf CX P w K mg base N qual scope f cdv A outer s H E) [] (start N vs) H s1:=inv_start S hr.hd e0 hl r x
  refine wpAny_mono (ht [] s1 (start N vs) H _ I hq) (fun fl s' hs=>?_) fun e s' hs=>hs
  have fin:∀{σ':St} {H':Hp} {v:V} {u:Value},Inv (cxOf CX P w K mg base N qual scope f cdv A outer s H E) [] σ' H' s'→RelV v u→Q v H'→CE outer P w H s Q u s' :=
    fun {σ' H' v u} J rv q=>⟨v,H',J.os,J.bare,J.base,J.hok,rv,q⟩
  cases fl with
  | ret u =>
    obtain ⟨v,σ',H',J,rv,q⟩:=hs
    exact fin J rv q
  | next =>
    obtain ⟨σ',H',J,q⟩:=hs
    exact fin (v:=V.non) (u:=Value.none) J rfl q
  | brk =>
    obtain ⟨_,_,_,q⟩:=hs
    exact False.elim q
  | cont =>
    obtain ⟨_,_,_,q⟩:=hs
    exact False.elim q
end L2
namespace L2
open PySem PySem.Spec PyProof.Rows
section
variable {X:Cx} {x:Str} {p pos:Pos} {e:Expr} {es:List Expr} {t:TA} {id T:String} {r:List V→Hp→VK→Prop}
def tCB (r:List V→Hp→VK→Prop) (t:TA):TE:=fun σ H Q=>t σ H fun vs H1=>r vs H1 Q
theorem pe_callB (hc:CallR X (.builtin id) r) (hg:Gl X x) (hm:X.mg x=none) (hv:bootBuiltins x=some (.builtin id)) (ha:PA X (e::es) t) (hn:x ≠ "__name__" := by decide) (hdb:(x == ("__debug__" : Str))=false:=by decide)
    (he:starEach (e::es) X.env=(false,eval e X.env)::starEach es X.env:=by rfl) (hpl:(backTo pos (starEach es X.env)).any (·.1)=false:=by rfl):PE X (.Call (.Name x p) (e::es) [] pos) (tCB r t):=by
  intro pins s σ H Q I h
  refine wpAny_Call_Name_kw (ld_blt I hg hm hv ?_ hn hdb)
  exact PyProof.Rows.callWith_builtin1 (thn (ha pos pins s σ H _ I h) fun us s1 ⟨vs,H1,I1,r1,q1⟩=>hc pins s1 σ H1 vs us Q I1 r1 q1) he hpl
theorem pe_callTy (hc:CallR X (.type T) r) (hg:Gl X x) (hm:X.mg x=none) (hv:bootBuiltins x=some (.type T)) (ha:PA X (e::es) t) (hn:x ≠ "__name__" := by decide) (hdb:(x == ("__debug__" : Str))=false:=by decide)
    (he:starEach (e::es) X.env=(false,eval e X.env)::starEach es X.env:=by rfl) (hpl:(backTo pos (starEach es X.env)).any (·.1)=false:=by rfl):PE X (.Call (.Name x p) (e::es) [] pos) (tCB r t):=by
  intro pins s σ H Q I h
  refine wpAny_Call_Name_kw (ld_blt I hg hm hv ?_ hn hdb)
  exact PyProof.Rows.callWith_type1 (thn (ha pos pins s σ H _ I h) fun us s1 ⟨vs,H1,I1,r1,q1⟩=>hc pins s1 σ H1 vs us Q I1 r1 q1) he hpl
end
end L2
namespace HT
open PySem PyProof.Rows
section
open PySem.SeqAt
open PySem.AutoSeq1 (wpAny_loadPart')
open PySem.MeetsSeq PySem.MeetsSeq2 PySem.MeetsSeq3
end
section
variable {prog:Program} {w:World} {A:Around} {E:Value→Shared→Prop} {s:Shared}
def sIx (n d:Nat):Option Int→Nat
  | none=>d
  | some v=>if v<0 then (v+(n:Int)).toNat else min v.toNat n
theorem sIx_none (n d:Nat):sIx n d none=d:=rfl
theorem sIx_nat (n d k:Nat):sIx n d (some (k:Int))=min k n:=by
  show (if (k:Int)<0 then ((k:Int)+(n:Int)).toNat else min (k:Int).toNat n)=min k n
  rw [if_neg (by omega),Int.toNat_natCast]
end
end HT
namespace L2
open PySem PySem.Spec PyProof.Rows
abbrev TO:=St→Hp→(Option Int→Hp→Prop)→Prop
def PO (X:Cx) (e:Option Expr) (t:TO):Prop :=
  ∀(pins:List (Addr×Obj)) (s:Shared) (σ:St) (H:Hp) (Q:Option Int→Hp→Prop),Inv X pins σ H s→t σ H Q →
    wpAny (model X.prog X.w) X.A (evalPart e X.env) (fun u s'=>∃o H',Inv X pins σ H' s'∧IsPart u o∧Q o H') X.xe s
def tNoPart:TO:=fun _ H Q=>Q none H
def tPart (t:TE):TO:=fun σ H Q=>t σ H fun x H1=>∃i,x=.int i∧Q (some i) H1
theorem intsAre_of {ns:List Int}:∀{us:List Value},Vals (ns.map V.int) us→IntsAre us ns:=by
  induction ns with
  | nil=>intro us r;rw [List.map_nil] at r;cases r;exact .nil
  | cons n ns ih =>
    intro us r
    rw [List.map_cons] at r
    cases r with
    | cons r1 r2 =>
      obtain ⟨t,e⟩:=r1
      subst e
      exact .cons n t (ih r2)
section
variable {X:Cx} {e:Expr} {te:TE} {lo hi:Option Expr} {tl th:TO} {pos p2:Pos}
theorem po_none:PO X none tNoPart:=by
  intro pins s σ H Q I h
  rw [evalPart_none]
  exact wpAny_pure ⟨none,H,I,.none,h⟩
theorem po_some (h:PE X e te):PO X (some e) (tPart te):=by
  intro pins s σ H Q I hw
  rw [evalPart_some]
  refine thn (h pins s σ H _ I hw) fun u s1 ⟨x,H1,I1,r1,q1⟩=>?_
  obtain ⟨i,rfl,q⟩:=q1
  obtain ⟨t,rfl⟩:=r1
  exact ⟨some i,H1,I1,.int i t,q⟩
def SlR (X:Cx) (r:V→Option Int→Option Int→Hp→VK→Prop):Prop :=
  ∀(pins:List (Addr×Obj)) (s:Shared) (σ:St) (H:Hp) (x:V) (v vl vu:Value) (lo hi:Option Int) (sl:Addr) (Q:VK),Inv X pins σ H s→RelV x v→s.heap.IsSliceOf sl vl vu .none→IsPart vl lo→IsPart vu hi→r x lo hi H Q →
    ∃T id,typeLookup (.type T) "__getitem__" = pure (some (.builtin id))∧s.TypeIs v T∧wpAny (model X.prog X.w) X.A (getItem v (.ref sl)) (EP X pins σ Q) X.xe s
def tSl (r:V→Option Int→Option Int→Hp→VK→Prop) (te:TE) (tl th:TO):TE:=fun σ H Q=>te σ H fun x H1=>tl σ H1 fun l H2=>th σ H2 fun u H3=>r x l u H3 Q
theorem pe_slice {r:V→Option Int→Option Int→Hp→VK→Prop} (hr:SlR X r) (he:PE X e te) (hl:PO X lo tl) (hu:PO X hi th):PE X (.Subscript e (.Slice lo hi none p2) pos) (tSl r te tl th):=by
  intro pins s σ H Q I h
  refine Subscript_ (thn (he pins s σ H _ I h) fun v s1 ⟨x,H1,I1,r1,q1⟩=>?_)
  refine wpAny_Slice (thn (hl pins s1 σ H1 _ I1 q1) fun vl s2 ⟨l,H2,I2,pl,q2⟩=>thn (hu pins s2 σ H2 _ I2 q2) fun vu s3 ⟨u,H3,I3,pu,q3⟩=>?_)
  rw [evalPart_none]
  refine wpAny_pure ?_
  have I4:Inv X pins σ H3 { s3 with heap:=s3.heap.push { cls:=.type "slice",data:=.fields #[vl,vu,.none] } }:=I3.kept (t':=s3.toks) fun b ob q=>Heap.get?_push_of_some _ q
  obtain ⟨T,id,hT,ht,hg⟩:=hr pins { s3 with heap:=s3.heap.push { cls:=.type "slice",data:=.fields #[vl,vu,.none] } } σ H3 x v vl vu l u s3.heap.objs.size Q I4 r1 (Heap.IsSliceOf.new ..) pl pu q3
  show wpAny (model X.prog X.w) X.A (subscriptTail e (.Slice lo hi none p2) v (.ref s3.heap.objs.size)) (EP X pins σ Q) X.xe { s3 with heap:=s3.heap.push { cls:=.type "slice",data:=.fields #[vl,vu,.none] } }
  exact tail_any (ops:=[.ref s3.heap.objs.size,v]) ht hT hg (by with_unfolding_all rfl)
def cutV (xs:List V) (lo hi:Option Int):List V:=(xs.drop (HT.sIx xs.length 0 lo)).take (HT.sIx xs.length xs.length hi - HT.sIx xs.length 0 lo)
theorem cutV_length (xs:List V) (lo hi:Option Int):(cutV xs lo hi).length≤xs.length:=by
  unfold cutV
  rw [List.length_take,List.length_drop]
  omega
end
end L2
namespace L2
open PySem PySem.Spec PyProof.Rows
def ixN (n:Nat) (i:Int):Option Nat:=if 0≤i then (if i<n then some i.toNat else none) else if -(n:Int)≤i then some (i+n).toNat else none
def atI {α:Type} (xs:List α) (i:Int):Option α:=(ixN xs.length i).bind fun j=>xs[j]?
theorem ixN_seq {n:Nat} {i:Int} {j:Nat} (h:ixN n i=some j):seqIndex? i n=some j∧j<n∧-(n:Int)≤i∧i<n:=by
  unfold ixN at h
  by_cases h0:0≤i
  · rw [if_pos h0] at h
    by_cases h1:i<n
    · rw [if_pos h1] at h
      have e:i.toNat=j:=Option.some.inj h
      exact ⟨by rw [seqIndex_of h0 h1,e],by omega,by omega,h1⟩
    · rw [if_neg h1] at h;cases h
  · rw [if_neg h0] at h
    by_cases h1:-(n:Int)≤i
    · rw [if_pos h1] at h
      have e:(i+n).toNat=j:=Option.some.inj h
      exact ⟨by rw [seqIndex_neg (by omega) h1,e],by omega,h1,by omega⟩
    · rw [if_neg h1] at h;cases h
theorem atI_get {α:Type} {xs:List α} {i:Int} {v:α} (h:atI xs i=some v):∃j,seqIndex? i xs.length=some j∧xs[j]?=some v∧j<xs.length∧-(xs.length:Int)≤i∧i<xs.length:=by
  unfold atI at h
  cases e:ixN xs.length i with
  | none=>rw [e] at h;cases h
  | some j =>
    rw [e] at h
    obtain ⟨h1,h2,h3,h4⟩:=ixN_seq e
    exact ⟨j,h1,h,h2,h3,h4⟩
theorem atI_nat {α:Type} {xs:List α} {j:Nat} {v:α} (h:xs[j]?=some v):atI xs (j:Int)=some v:=by
  have hj:j<xs.length:=(List.getElem?_eq_some_iff.mp h).1
  have e:ixN xs.length (j:Int)=some j:=by
    unfold ixN
    rw [if_pos (by omega),if_pos (by omega)];simp
  unfold atI;rw [e];exact h
def PlainIx (b:Expr):Prop:=∀o i,subscripted b false o i=operate [o,i] (getItem o i)
def IxR (X:Cx) (r:R2):Prop :=
  ∀(value slice:Expr) (pins:List (Addr×Obj)) (s:Shared) (σ:St) (H:Hp) (x y:V) (v u:Value) (Q:VK),Inv X pins σ H s→RelV x v→RelV y u→r x y H Q →
    subscripted slice false v u=operate [v,u] (getItem v u)→wpAny (model X.prog X.w) X.A (subscriptTail value slice v u) (EP X pins σ Q) X.xe s
def MtR (X:Cx) (id:String) (r:V→List V→Hp→VK→Prop):Prop :=
  ∀(pins:List (Addr×Obj)) (s:Shared) (σ:St) (H:Hp) (x:V) (xs:List V) (v:Value) (us:List Value) (Q:VK),Inv X pins σ H s→RelV x v→Vals xs us→r x xs H Q →
    wpAny (model X.prog X.w) X.A (call (.builtin id) (v::us)) (EP X pins σ Q) X.xe s
section
variable {X:Cx} {a b:Expr} {ta tb:TE} {pos:Pos}
theorem pe_ix {r:R2} (hr:IxR X r) (ha:PE X a ta) (hb:PE X b tb) (hs:PlainIx b):PE X (.Subscript a b pos) (tOp r ta tb):=by
  intro pins s σ H Q I h
  exact Subscript_ (binT ha hb I h fun v u s2 x y H2 I2 rx ry q=>hr a b pins s2 σ H2 x y v u Q I2 rx ry q (hs _ _))
def rIxL (K:PySem.W.Frag):R2:=fun x y H Q=>∃p xs i v,x=.ref p∧y=.int i∧SqL K H p xs∧atI xs i=some v∧Q v H
def rIxT (K:PySem.W.Frag):R2:=fun x y H Q=>∃p xs i v,x=.ref p∧y=.int i∧SqT K H p xs∧atI xs i=some v∧Q v H
theorem ix_list:IxR X (rIxL X.K):=by
  intro value slice pins s σ H x y v u Q I rx ry h hs
  obtain ⟨p,xs,i,z,rfl,rfl,hq,he,q⟩:=h
  cases rx
  obtain ⟨t,rfl⟩:=ry
  obtain ⟨its,r,pl,hz⟩:=I.list hq
  obtain ⟨j,h1,h2,h3,h4,h5⟩:=atI_get he
  obtain ⟨w,ew,rw'⟩:=r.get h2
  have hl:=r.length
  have hn:=line63
  have fin:EP X pins σ Q w s:=⟨z,H,I,rw',q⟩
  by_cases h0:0≤i
  · have hj:i.toNat=j:=by
      rw [seqIndex_of h0 h5] at h1
      exact Option.some.inj h1
    exact item_listR pl.isList h0 (by omega) (by rw [hj];simpa using ew) fin hs
  · have hj:(i+(its.toArray.size:Int)).toNat=j:=by
      rw [seqIndex_neg (by omega) h4] at h1
      rw [List.size_toArray,←hl]
      exact Option.some.inj h1
    exact subscriptTail_builtinR (x:=w) pl.isList.typeIs slot_list_getitem.lookup
      (wpAny_getItem_list_neg (Q:=fun r s'=>r=w∧EP X pins σ Q r s') pl.isList (by omega) (by rw [List.size_toArray] <;> omega) (by omega) (by rw [hj];simpa using ew) ⟨rfl,fin⟩) hs
theorem ix_tup:IxR X (rIxT X.K):=by
  intro value slice pins s σ H x y v u Q I rx ry h hs
  obtain ⟨p,xs,i,z,rfl,rfl,hq,he,q⟩:=h
  cases rx
  obtain ⟨t,rfl⟩:=ry
  obtain ⟨its,r,pl,hz⟩:=I.tuple hq
  obtain ⟨j,h1,h2,h3,h4,h5⟩:=atI_get he
  obtain ⟨w,ew,rw'⟩:=r.get h2
  have hl:=r.length
  have hn:=line63
  have fin:EP X pins σ Q w s:=⟨z,H,I,rw',q⟩
  exact subscriptTail_builtinR (x:=w) pl.typeIs slot_tuple_getitem.lookup
    (getItem_tuple (j:=j) (Q:=fun r s'=>r=w∧EP X pins σ Q r s') pl (by omega) (by omega) (by rw [List.size_toArray,←hl];exact h1) (by simpa using ew) ⟨rfl,fin⟩) hs
theorem mapSeq_set (its:List Value) (n j:Nat) (u:Value):Obj.mapSeq (·.setIfInBounds j u) { cls:=.type "list",data:=.seq its.toArray n }={ cls:=.type "list",data:=.seq (its.set j u).toArray n }:=by
  simp [Obj.mapSeq]
theorem Inv.lst {pins:List (Addr×Obj)} {σ:St} {H:Hp} {s:Shared} {p:Addr} {xs:List V} (I:Inv X pins σ H s) (h:H p=some (.lst xs)) :
    ∃(its:List Value) (n:Nat),Vals xs its∧s.heap.get? p=some { cls:=.type "list",data:=.seq its.toArray n }∧xs.length≤sizeLine:=by
  obtain ⟨z,its,n,r,e⟩:=I.hok p _ h
  exact ⟨its,n,r,e,z⟩
theorem Inv.lstUpd {pins:List (Addr×Obj)} {σ:St} {H:Hp} {s:Shared} {p:Addr} {xs ys:List V} {its its':List Value} {n n':Nat} {f:Obj→Obj} (I:Inv X pins σ H s) (h:H p=some (.lst xs))
    (ho:s.heap.get? p=some { cls:=.type "list",data:=.seq its.toArray n }) (hf:f { cls:=.type "list",data:=.seq its.toArray n }={ cls:=.type "list",data:=.seq its'.toArray n' }) (r:Vals ys its') (hz:ys.length≤sizeLine) (t:Nat) :
    Inv X pins σ (upd H p (.lst ys)) { s with heap:=s.heap.update p f,toks:=t }:=by
  have e:(s.heap.update p f).get? p=some { cls:=.type "list",data:=.seq its'.toArray n' }:=by
    rw [Heap.get?_update_self f ho (by rw [hf] <;> rfl),hf]
  refine I.write (x:=p) (e:=p) (by rw [h];trivial) (.inl rfl) (fun b u hb q=>(Heap.get?_update_other _ _ (Ne.symm hb)).trans q) ⟨_,e⟩ ?_
  exact ⟨hz,its',n',r,e⟩
def rSetL:V→V→V→Hp→(Hp→Prop)→Prop:=fun o i v H Q=>∃p xs k j,o=.ref p∧i=.int k∧H p=some (.lst xs)∧ixN xs.length k=some j∧Q (upd H p (.lst (xs.set j v)))
theorem set_list:PSet X rSetL:=by
  intro pins s σ H o i v ov iv u Q I ro ri rv h
  obtain ⟨p,xs,k,j,rfl,rfl,hp,hj,q⟩:=h
  cases ro
  obtain ⟨t,rfl⟩:=ri
  obtain ⟨its,n,r,ho,hz⟩:=I.lst hp
  obtain ⟨h1,h2,h3,h4⟩:=ixN_seq hj
  have hl:=r.length
  have hn:=line63
  have I':Inv X pins σ (upd H p (.lst (xs.set j v))) { s with heap:=s.heap.update p (Obj.mapSeq (·.setIfInBounds j u)) } :=
    I.lstUpd hp ho (mapSeq_set its n j u) (r.set rv j) (by rw [List.length_set];exact hz) s.toks
  by_cases h0:0≤k
  · have hk:k.toNat=j:=by
      rw [seqIndex_of h0 h4] at h1
      exact Option.some.inj h1
    exact PySem.W.ki_setAt ho h0 (by omega) (by rw [List.size_toArray,←hl];exact h4) (by rw [hk];exact ⟨_,I',q⟩)
  · have hk:(k+(its.toArray.size:Int)).toNat=j:=by
      rw [seqIndex_neg (by omega) h3] at h1
      rw [List.size_toArray,←hl]
      exact Option.some.inj h1
    exact PySem.W.ki_setBack ho (by omega) (by rw [List.size_toArray,←hl];exact h3) (by omega) (by rw [hk];exact ⟨_,I',q⟩)
theorem slice_bounds (lo hi:Option Int) (n:Nat):(sliceBounds lo hi none n).1=((HT.sIx n 0 lo:Nat):Int)∧(sliceBounds lo hi none n).2.1=((HT.sIx n n hi:Nat):Int)∧(sliceBounds lo hi none n).2.2=1:=by
  refine ⟨?_,?_,rfl⟩
  · cases lo with
    | none=>simp [sliceBounds,HT.sIx]
    | some i =>
      simp only [sliceBounds,HT.sIx,Option.getD_none,show (1:Int) > 0 by decide,if_true]
      by_cases h:i<0
      · simp only [h,if_true] <;> omega
      · simp only [h,if_false] <;> omega
  · cases hi with
    | none=>simp [sliceBounds,HT.sIx]
    | some i =>
      simp only [sliceBounds,HT.sIx,Option.getD_none,show (1:Int) > 0 by decide,if_true]
      by_cases h:i<0
      · simp only [h,if_true] <;> omega
      · simp only [h,if_false] <;> omega
theorem slicePick_cut (its:List Value) (lo hi:Option Int):slicePick its.toArray lo hi none=((its.drop (HT.sIx its.length 0 lo)).take (HT.sIx its.length its.length hi - HT.sIx its.length 0 lo)).toArray:=by
  obtain ⟨h1,h2,h3⟩:=slice_bounds lo hi its.toArray.size
  unfold slicePick
  rw [h1,h2,h3]
  simp only [sliceRange_one,pick_run,List.size_toArray] <;> rfl
def rSlL (K:PySem.W.Frag):V→Option Int→Option Int→Hp→VK→Prop:=fun x lo hi H Q=>∃a xs,x=.ref a∧SqL K H a xs∧∀p,H p=none→Q (.ref p) (upd H p (.lst (cutV xs lo hi)))
theorem sl_list:SlR X (rSlL X.K):=by
  intro pins s σ H x v vl vu lo hi sl Q I rx hs pl pu h
  obtain ⟨a,xs,rfl,hx,q⟩:=h
  cases rx
  obtain ⟨its,r,ht,hz⟩:=I.list hx
  have hlen:=r.length
  refine ⟨"list",_,slot_list_getitem.lookup,ht.isList.typeIs,?_⟩
  refine wpAny_getItem_list_slice ht.isList hs pl pu .none (by simp) ?_ (by rw [List.size_toArray] <;> omega)
  rw [slicePick_cut,←hlen]
  refine ⟨.ref s.heap.objs.size,_,I.laid (t':=s.toks) (o:=.lst (cutV xs lo hi)) (fun b ob q=>Heap.get?_push_of_some _ q) (Nat.le_refl _) ?_,rfl,q _ (I.hok.fresh (Nat.le_refl _))⟩
  exact ⟨Nat.le_trans (cutV_length xs lo hi) hz,_,0,(r.drop (HT.sIx xs.length 0 lo)).take (HT.sIx xs.length xs.length hi - HT.sIx xs.length 0 lo),Heap.get?_push_size _ rfl⟩
theorem call_len_seq:CallR X (.builtin "len") (fun xs H Q=>∃p ys,xs=[.ref p]∧(SqL X.K H p ys∨SqT X.K H p ys)∧Q (.int ys.length) H):=by
  intro pins s σ H xs us Q I r h
  obtain ⟨p,ys,rfl,hq,q⟩:=h
  obtain ⟨u,rfl,rx⟩:=vals1 r
  cases rx
  have hn:=line63
  rcases hq with hq | hq
  · obtain ⟨its,r',pl,hz⟩:=I.list hq
    have hlen:=r'.length
    exact Calls.call_len_list pl.isList (by simp only [List.size_toArray] <;> omega) ⟨.int ys.length,H,I.tok _,⟨s.toks+1,by rw [List.size_toArray,hlen]⟩,q⟩
  · obtain ⟨its,r',pl,hz⟩:=I.tuple hq
    have hlen:=r'.length
    exact len_tuple pl (by simp only [List.size_toArray] <;> omega) ⟨.int ys.length,H,I.tok _,⟨s.toks+1,by rw [List.size_toArray,hlen]⟩,q⟩
theorem call_list_of:CallR X (.type "list") (fun xs H Q=>∃p ys,xs=[.ref p]∧(SqL X.K H p ys∨SqT X.K H p ys)∧∀l,H l=none→Q (.ref l) (upd H l (.lst ys))):=by
  intro pins s σ H xs us Q I r h
  obtain ⟨p,ys,rfl,hq,q⟩:=h
  obtain ⟨u,rfl,rx⟩:=vals1 r
  cases rx
  have fin:∀(its:List Value),Vals ys its→ys.length≤sizeLine→∀(h':Heap) (c':Nat),(∀b o',s.heap.get? b=some o'→h'.get? b=some o') →
      h'.get? s.heap.objs.size=some { cls:=.type "list",dict:=none,data:=.seq its.toArray c',slots:=#[] }→EP X pins σ Q (.ref s.heap.objs.size) { s with heap:=h' }:=fun its r' hz h' c' kp e =>
    ⟨.ref s.heap.objs.size,_,I.laid (t':=s.toks) kp (Nat.le_refl _) (show ObjOk X.prog X.w _ h' _ (.lst ys) from ⟨hz,its,c',r',e⟩),rfl,q _ (I.hok.fresh (Nat.le_refl _))⟩
  rcases hq with hq | hq
  · obtain ⟨its,r',pl,hz⟩:=I.list hq
    have hlen:=r'.length
    obtain ⟨o,ho,hc,n,hd⟩:=pl.isList
    exact call_list_seq p (.inl rfl) ho hc hd (fun h' c' kp e=>fin its r' hz h' c' kp e) (by simp only [List.size_toArray] <;> omega)
  · obtain ⟨its,r',pl,hz⟩:=I.tuple hq
    have hlen:=r'.length
    obtain ⟨o,ho,hc,n,hd⟩:=pl
    exact call_list_seq p (.inr rfl) ho hc hd (fun h' c' kp e=>fin its r' hz h' c' kp e) (by simp only [List.size_toArray] <;> omega)
theorem call_tuple_of:CallR X (.type "tuple") (fun xs H Q=>∃p ys,xs=[.ref p]∧((SqL X.K H p ys∧∀l,H l=none→Q (.ref l) (upd H l (.tup ys)))∨(SqT X.K H p ys∧Q (.ref p) H))):=by
  intro pins s σ H xs us Q I r h
  obtain ⟨p,ys,rfl,h⟩:=h
  obtain ⟨u,rfl,rx⟩:=vals1 r
  cases rx
  rcases h with ⟨hq,q⟩ | ⟨hq,q⟩
  · obtain ⟨its,r',pl,hz⟩:=I.list hq
    have hlen:=r'.length
    refine call_tuple_list pl.isList (fun h' kp=>?_) (by simp only [List.size_toArray] <;> omega)
    have I1:Inv X pins σ H { s with heap:=h' }:=I.kept (t':=s.toks) kp
    have I2:Inv X pins σ (upd H h'.objs.size (.tup ys)) { s with heap:=h'.push { cls:=.type "tuple",data:=.seq its.toArray } } :=
      I1.laid (t':=s.toks) (fun b o e=>Heap.get?_push_of_some _ e) (Nat.le_refl _) (show ObjOk X.prog X.w _ _ _ (.tup ys) from ⟨hz,its,r',IsTup.new _ _⟩)
    exact ⟨.ref h'.objs.size,_,I2,rfl,q _ (I1.hok.fresh (Nat.le_refl _))⟩
  · obtain ⟨its,r',pl,hz⟩:=I.tuple hq
    exact call_tuple_same pl ⟨.ref p,H,I,rfl,q⟩
def tyV (K:PySem.W.Frag) (T:String) (x:V) (H:Hp):Prop:=match x with
  | .str _=>T = "str"
  | .int _=>T = "int"
  | .ref p=>(T = "list" ∧ ∃xs,SqL K H p xs)∨(T = "tuple" ∧ ∃o,K.lookup p=some o∧o.cls=.type "tuple" ∧ o.dict=none) ∨
      (T = "dict" ∧ ((∃kvs,H p=some (.dK kvs))∨∃kvs,H p=some (.dT kvs)))∨(T = "set" ∧ ∃S n,H p=some (.set S n))
  | _=>False
theorem tyV_is {pins:List (Addr×Obj)} {σ:St} {H:Hp} {s:Shared} {T:String} {x:V} {v:Value} (I:Inv X pins σ H s) (r:RelV x v) (ty:tyV X.K T x H) :
    s.TypeIs v T∧∀a,v=.ref a→∃ob,s.heap.get? a=some ob∧ob.dict=none:=by
  cases x with
  | str z =>
    obtain ⟨t,rfl⟩:=r
    cases (show T = "str" from ty)
    exact ⟨typeIs_str s z t,fun _ e=>nomatch e⟩
  | int i =>
    obtain ⟨t,rfl⟩:=r
    cases (show T = "int" from ty)
    exact ⟨typeIs_int s i t,fun _ e=>nomatch e⟩
  | ref p =>
    cases r
    rcases ty with ⟨rfl,xs,hq⟩ | ⟨rfl,o,hk,hc,hd⟩ | ⟨rfl,hk⟩ | ⟨rfl,S,n,hk⟩
    · obtain ⟨its,_,pl,_⟩:=I.list hq
      refine ⟨pl.isList.typeIs,fun a e=>?_⟩
      cases e
      obtain ⟨o,n,e,c,hd,_⟩:=pl
      exact ⟨o,e,hd⟩
    · refine ⟨⟨o,I.kIn p o hk,hc⟩,fun a e=>?_⟩
      cases e
      exact ⟨o,I.kIn _ o hk,hd⟩
    · have z:∃o,s.heap.get? p=some o∧o.ExactDict:=by
        rcases hk with ⟨kvs,hk⟩ | ⟨kvs,hk⟩
        · obtain ⟨_,_,_,_,o,_,_,e,ex,_⟩:=I.hok p _ hk
          exact ⟨o,e,ex⟩
        · obtain ⟨_,_,_,_,o,_,_,e,ex,_⟩:=I.hok p _ hk
          exact ⟨o,e,ex⟩
      obtain ⟨o,e,ex⟩:=z
      refine ⟨⟨o,e,ex.1⟩,fun a e2=>?_⟩
      cases e2
      exact ⟨o,e,ex.2.1⟩
    · obtain ⟨o,_,_,_,e,ex,_⟩:=I.hok p _ hk
      refine ⟨⟨o,e,ex.1⟩,fun a e2=>?_⟩
      cases e2
      exact ⟨o,e,ex.2.1⟩
  | _=>exact False.elim ty
def tBM (K:PySem.W.Frag) (T:String) (r:V→List V→Hp→VK→Prop) (to:TE) (t:TA):TE:=fun σ H Q=>to σ H fun x H1=>tyV K T x H1∧t σ H1 fun xs H2=>r x xs H2 Q
variable {o e:Expr} {es:List Expr} {to:TE} {t:TA} {name:Str} {apos cpos:Pos} {T id:String} {r:V→List V→Hp→VK→Prop}
theorem pe_bm (pa:PlainAttrs T) (slot:Slot T name id) (hty:typeOf (.builtin id)=pure (.type "method_descriptor")) (hm:MtR X id r) (ho:PE X o to) (ha:PA X (e::es) t)
    (hbase:attributeBase o name X.env (eval o X.env)=eval o X.env:=by rfl)
    (hfew:((backTo cpos (starEach (e::es) X.env)).all (fun x=>!x.1)&&(backToKw cpos (keywordEach [] X.env)).all (fun x=>x.1.isSome)
      && decide ((e::es).length+([]:List Keyword).length+(if ([]:List Keyword).isEmpty then 0 else 1)<30))=true:=by rfl)
    (hline:(apos.endLine == cpos.line)=true:=by rfl) (hs:starEach (e::es) X.env=(false,eval e X.env)::starEach es X.env:=by rfl) (hplain:(backTo cpos (starEach es X.env)).any (·.1)=false:=by rfl) :
    PE X (.Call (.Attribute o name apos) (e::es) [] cpos) (tBM X.K T r to t):=by
  intro pins s σ H Q I h
  refine wpAny_Call_method_late hbase hfew hline rfl (thn (ho pins s σ H _ I h) fun v s1 ⟨x,H1,I1,r1,ty,q1⟩=>?_)
  obtain ⟨h1,h2⟩:=tyV_is I1 r1 ty
  refine ⟨T,id,pa,slot,hty,h1,h2,?_⟩
  have hA:=ha cpos pins s1 σ H1 _ I1 q1
  rw [hs] at hA ⊢
  refine Calls.callWith_builtin (by show (false||(backTo cpos (starEach es X.env)).any (·.1))=false;rw [hplain] <;> rfl) (Calls.evalArgs_plain ?_)
  exact thn hA fun us s2 ⟨vs,H2,I2,r2,q2⟩=>hm pins s2 σ H2 x vs v us Q I2 r1 r2 q2
end
end L2
namespace L2
open PySem PySem.Spec PyProof.Rows
def MtM (X:Cx) (id:String) (r:V→List V→Hp→VK→Prop):Prop :=
  ∀(pins:List (Addr×Obj)) (s:Shared) (σ:St) (H:Hp) (x:V) (xs:List V) (v:Value) (us:List Value) (Q:VK),Inv X pins σ H s→RelV x v→Vals xs us→r x xs H Q →
    wpAny (model X.prog X.w) X.A (call (.builtin id) (v::us)) (EP X pins σ Q) X.xe s
theorem Vals.one:∀{x:V} {us:List Value},Vals [x] us→∃u,us=[u]∧RelV x u
  | _,_,.cons r .nil=>⟨_,rfl,r⟩
theorem Vals.zero:∀{us:List Value},Vals [] us→us=[]
  | _,.nil=>rfl
theorem Vals.dropLast {xs:List V} {us:List Value} (h:Vals xs us):Vals xs.dropLast us.dropLast:=by
  induction h with
  | nil=>exact .nil
  | cons r t ih =>
    cases t with
    | nil=>exact .nil
    | cons q t'=>exact .cons r ih
theorem Vals.rep {xs:List V} {us:List Value} (h:Vals xs us):∀k:Nat,Vals (List.replicate k xs).flatten (List.replicate k us).flatten
  | 0=>.nil
  | k+1=>by
    rw [List.replicate_succ,List.replicate_succ,List.flatten_cons,List.flatten_cons]
    exact Vals.append h (Vals.rep h k)
theorem foldl_rep (its:List Value):∀(k:Nat) (acc:List Value),
    List.foldl (fun x1 x2=>x1++x2) acc.toArray (List.replicate k its.toArray)=(acc++(List.replicate k its).flatten).toArray
  | 0,acc=>by simp
  | k+1,acc=>by
    have e:acc.toArray++its.toArray=(acc++its).toArray:=by simp
    have e2:(acc++its)++(List.replicate k its).flatten=acc++(List.replicate (k+1) its).flatten:=by
      rw [List.replicate_succ,List.flatten_cons,List.append_assoc]
    rw [←e2,←foldl_rep its k (acc++its),←e,List.replicate_succ,List.foldl_cons]
section
variable {X:Cx} {pins:List (Addr×Obj)} {σ:St} {H:Hp} {s:Shared} {l b:Addr} {xs ys zs:List V}
theorem Inv.lset {its its':List Value} {n:Nat} {f:Array Value→Array Value} {t':Nat} (I:Inv X pins σ H s) (hH:H l=some (.lst xs))
    (e:s.heap.get? l=some { cls:=.type "list",data:=.seq its.toArray n }) (hf:f its.toArray=its'.toArray) (hv:Vals ys its') (hz:ys.length≤sizeLine) :
    Inv X pins σ (upd H l (.lst ys)) { s with heap:=s.heap.update l (Obj.mapSeq f),toks:=t' }:=by
  have q:=PySem.IsL.update e f
  rw [hf] at q
  refine I.write (x:=l) (e:=l) (by rw [hH];exact trivial) (.inl rfl) (fun b' u hb hu=>(Heap.get?_update_other s.heap (Obj.mapSeq f) (Ne.symm hb)).trans hu) ⟨_,q⟩ ?_
  exact ⟨hz,its',_,hv,q⟩
theorem Inv.lnew {its:List Value} {t':Nat} (I:Inv X pins σ H s) (hv:Vals ys its) (hz:ys.length≤sizeLine) :
    Inv X pins σ (upd H s.heap.objs.size (.lst ys)) { s with heap:=s.heap.push { cls:=.type "list",data:=.seq its.toArray },toks:=t' } :=
  I.laid (fun _ _ q=>Heap.get?_push_of_some _ q) (Nat.le_refl _) ⟨hz,its,0,hv,Heap.get?_push_size _ rfl⟩
theorem Inv.fresh (I:Inv X pins σ H s):H s.heap.objs.size=none:=I.hok.fresh (Nat.le_refl _)
theorem Inv.lstM (I:Inv X pins σ H s) (hH:H l=some (.lst xs)):xs.length≤sizeLine∧∃(its:List Value) (n:Nat),Vals xs its∧xs.length=its.length∧s.heap.get? l=some { cls:=.type "list",data:=.seq its.toArray n }:=by
  obtain ⟨z,its,n,r,e⟩:=I.hok l _ hH
  exact ⟨z,its,n,r,r.length,e⟩
theorem notLongL {n:Nat} (h:n≤sizeLine):Builtin.List.listTooLong n=false:=by
  unfold Builtin.List.listTooLong
  exact decide_eq_false (by omega)
end
section
variable {X:Cx}
def rAppend:V→List V→Hp→VK→Prop:=fun x vs H Q=>∃l xs y,x=.ref l∧vs=[y]∧H l=some (.lst xs)∧xs.length<sizeLine∧Q .non (upd H l (.lst (xs++[y])))
theorem mt_append:MtM X "list.append" rAppend:=by
  intro pins s σ H x vs v us Q I rx rv h
  obtain ⟨l,xs,y,rfl,rfl,hH,hz,q⟩:=h
  cases rx
  obtain ⟨u,rfl,ru⟩:=rv.one
  obtain ⟨z,its,n,r,hl,e⟩:=I.lstM hH
  refine call_meets F.slot_list_append ⟨_,e,rfl⟩ F.entry_list_append (F.args_list_append_2 _ _) (PySem.list_append l its.toArray n u (by rw [List.size_toArray];omega)) ⟨e,?_⟩
  refine ⟨.non,_,I.lset (its':=its++[u]) hH e (by simp) (r.append (.cons ru .nil)) ?_,rfl,q⟩
  rw [List.length_append,List.length_singleton]
  omega
def rRep:R2:=fun x y H Q=>∃l k xs,x=.ref l∧y=.int k∧H l=some (.lst xs)∧-(2^63)≤k∧k<2^63∧xs.length*k.toNat≤sizeLine ∧
  ∀p,H p=none→Q (.ref p) (upd H p (.lst (List.replicate k.toNat xs).flatten))
theorem len_rep {α:Type} (xs:List α) (k:Nat):(List.replicate k xs).flatten.length=k*xs.length:=by
  induction k with
  | zero=>simp
  | succ k ih=>rw [List.replicate_succ,List.flatten_cons,List.length_append,ih,Nat.succ_mul,Nat.add_comm]
theorem op_rep:OpR X (binaryOp .Mult) rRep:=by
  intro pins s σ H x y v u Q I rx ry h
  obtain ⟨l,k,xs,rfl,rfl,hH,h1,h2,hz,q⟩:=h
  cases rx
  obtain ⟨t,rfl⟩:=ry
  obtain ⟨z,its,n,r,hl,e⟩:=I.lstM hH
  have hlen:its.toArray.size*k.toNat≤sizeLine:=by rw [List.size_toArray,←hl];exact hz
  have hcap:¬ its.toArray.size*k.toNat > (2^63 - 1) / 8:=by
    have:(sizeLine:Nat)≤(2^63 - 1) / 8:=by decide
    omega
  have hfit:¬ (!Builtin.List.listFitsIndex k)=true:=by
    rw [fitsIndex_both h1 h2]
    exact Bool.false_ne_true
  have hlong:¬ Builtin.List.listTooLong (its.toArray.size*k.toNat)=true:=by
    rw [notLongL hlen]
    exact Bool.false_ne_true
  have hnew:List.foldl (fun x1 x2=>x1++x2) #[] (List.replicate (if its.toArray.isEmpty=true then 0 else k.toNat) its.toArray)=(List.replicate k.toNat its).flatten.toArray:=by
    have f0:∀m:Nat,List.foldl (fun x1 x2=>x1++x2) #[] (List.replicate m its.toArray)=(List.replicate m its).flatten.toArray:=fun m=>by
      have:=foldl_rep its m []
      rw [List.nil_append] at this
      exact this
    rw [f0]
    cases its with
    | nil=>simp
    | cons a r'=>rw [if_neg (by simp)]
  refine wpAny_binaryOp_repeat_ref (T := "list") (U := "int") (by decide) ⟨_,e,rfl⟩ (fun s'=>typeIs_int s' k t) noFill_list_mul F.fills_int_mul F.slot_int_rmul repeat_list F.slot_int_index.lookup
    (call_meets F.slot_int_rmul (typeIs_int s k t) F.entry_int_rmul (F.args_int_rmul_2 _ _) (int___rmul___int_list k t l its.toArray n)
      ⟨e,rfl,⟨_,e,rfl⟩,call_meets F.slot_list_mul ⟨_,e,rfl⟩ F.entry_list_mul (F.args_list_mul_2 _ _) (AutoListH.list___mul___list_int_3 l its.toArray n k t hfit hcap hlong) ⟨e,?_⟩⟩)
  rw [hnew]
  exact ⟨.ref _,_,I.lnew (t':=s.toks) (r.rep k.toNat) (by rw [len_rep,Nat.mul_comm];exact hz),rfl,q _ I.fresh⟩
end
section
variable {prog:Program} {w:World} {A:Around} {E:Value→Shared→Prop} {s:Shared}
set_option maxRecDepth 100000 in
end
section
variable {X:Cx}
end
end L2
namespace Att
open PySem PySem.W PySem.Calls PyProof.Rows
theorem ints_of_wellAll {P:Params} {h:Heap}:∀(ns:List Int) (vs:List Value),WellAll P h vs (ns.map WData.int)→IntsAre vs ns:=by
  intro ns
  induction ns with
  | nil =>
    intro vs w
    rw [List.map_nil] at w
    cases w
    exact .nil
  | cons n ns ih =>
    intro vs w
    rw [List.map_cons] at w
    cases w with
    | cons a b =>
      cases a
      exact .cons _ _ (ih _ b)
theorem script_of {l:OpenLaw} {n:Nat} (hn:l.most=some n) {P:Params} {h:Heap} {args:List WData} {vals:List Value}
    (hpre:l.row.toRowW.claim.pre args=true) (hwl:WellAll P h vals args) :
    ∃a vs ns,vals=[Value.ref a]∧args=[WData.list (ns.map WData.int)]∧h.get? a=some { cls:=.type "list",data:=.seq vs.toArray }∧IntsAre vs ns∧ns.length≤n:=by
  have hsh:WShape.hasAll [] args [.list .int]=true:=(pre_splitW hpre).1
  have hc:l.pre.holds [] { args:=args }=true:=(pre_splitW hpre).2
  obtain ⟨d,r,rfl,h1,h2⟩:=hasAllW_cons hsh
  obtain rfl:=hasAllW_nil h2
  obtain ⟨xs,rfl,h3⟩:=hasW_list h1
  obtain ⟨ns,rfl⟩:=items_int h3
  have hlen:ns.length≤n:=by
    unfold OpenLaw.pre at hc
    have h4:(WTm.not (.lt (.lit (.int (n:Int))) (.len (.arg 0)))).holds [] { args:=[.list (ns.map .int)] }=true:=by
      have h4:=(holds_andW hc).1
      rw [hn] at h4
      exact h4
    have h5:=condW_of h4 (w_not (w_lt w_lit (w_len_list (w_arg rfl))))
    rw [List.length_map] at h5
    refine Nat.le_of_not_lt fun q=>?_
    have q':(n:Int)<((ns.length:Nat):Int):=by omega
    first
      | (rw [decide_eq_true q'] at h5;exact absurd h5 (by decide))
      | (simp at h5;omega)
  cases hwl with
  | cons w1 w2 =>
    cases w2
    cases w1 with
    | list ho hall=>exact ⟨_,_,ns,rfl,rfl,ho,ints_of_wellAll ns _ hall,hlen⟩
theorem post_true (l:OpenLaw) (args:List WData):l.row.toRowW.claim.post args (.bool true) args=true :=
  postW_of (r:=l.row.toRowW) (X:=(true == true))
    (show WShape.has [] (.bool true) .bool=true by first | rfl | decide | simp [WShape.has,WShape.arms,WShape.armsAll])
    (show (WTm.eq .res (.lit (.bool true))).value [] { args:=args,res:=some (.bool true),after:=args }=some (.bool (true == true)) from w_eq_bool (w_res rfl) w_lit) rfl
theorem attach_call {l:OpenLaw} {n:Nat} {q:Program} {loose:List Str} {XP:(Str→Option Value)→Heap→Prop} {YP:World→Heap→Prop} {d:DefRec}
    (hn:l.most=some n) (hdf:d.params.defaults=[])
    (call:∀(w:World) (s₀ s₁:Shared) (mg mb:Str→Option Value) (fa:Addr) (o:Obj) (pm cd doc:Value) (a:Addr) (vs:List Value) (ns:List Int),
      Ground q loose [] XP w s₀ mg mb s₁.heap→YP w s₁.heap →
      s₁.heap.get? fa=some o→o.data=.func (docDef d.name d.params d.body d.scope pm cd doc)→s₁.heap.CodeRec cd d.name→mg d.name=some (.ref fa) →
      s₁.heap.get? a=some { cls:=.type "list",data:=.seq vs.toArray }→IntsAre vs ns→ns.length≤n→s₁.gens=#[] →
      codeAny (model l.prog w) callerA (.call (.ref fa) ⟨[.ref a],[]⟩) (fun r s'=>r=.ok (.ret (.bool true))∧OldK s₁.heap s'.heap∧s'.os=s₁.os∧AllBare s'.gens) s₁) :
    WalkO q loose XP YP l.row.toRowW d [] (fun f vs=>PySem.call f vs):=by
  intro w s₀ s₁ mg mb G Y fa o pm cd doc dV kV ho hd hcd hD hmg hg args vals as hpre hlay hrd hwl hlo
  obtain rfl:dV=.none:=Dflts.none hD hdf
  obtain rfl:kV=.none:=Dflts.noKw hD
  obtain ⟨a,vs,ns,rfl,rfl,hobj,hints,hlen⟩:=script_of hn hpre hwl
  refine enter_call (codeAny_mono (call w s₀ s₁ mg mb fa o pm cd doc a vs ns G Y ho (fd_plain hd) hcd hmg hobj hints hlen hg) fun r s' hq=>?_)
  obtain ⟨rfl,h2,h3,h4⟩:=hq
  exact ⟨.inl ⟨.bool true,.bool true,[],rfl,fun _=>rfl,.bool true,post_true l _,fun _=>⟨List.Pairwise.nil,fun _ hm=>(nomatch hm)⟩⟩,h2,h3,h4⟩
section
variable {prog:Program} {w:World} {A:Around} {E:Value→Shared→Prop} {s:Shared} {K:Frag}
end
end Att
namespace L2
open PySem PySem.Spec PyProof.Rows
theorem vals_ints:∀{vs:List Value} {ns:List Int},IntsAre vs ns→Vals (ns.map V.int) vs
  | _,_,.nil=>.nil
  | _,_,.cons n t h=>.cons ⟨t,rfl⟩ (vals_ints h)
def Only (H:Hp):Prop:=∀b,H b=none∨∃o xs,H b=some (.frz o (.lst xs))
end L2
namespace L2
open PySem PySem.Spec PyProof.Rows
end L2
namespace L2
open PySem PySem.Spec PyProof.Rows
abbrev CX0:CXT:=fun _ _ _ _ _ _=>False
abbrev E0:XK:=fun _ _ _=>False
theorem pass0 {X:Cx}:Passes CX0 X E0:=fun _ _ _ _ _ _ _ h=>h.elim
structure Fun (K:PySem.W.Frag) (x qual:Str) (st:Stmt) (f:Addr) (fd:FuncData):Prop where
  ex:∃(oc:Value) (od:Option Addr) (kV doc pm:Value) (an:Option Addr) (cdv ct:Value) (osl:Array (Option Value)),
    fd=PySem.W.fnOf x qual (defArgs st) (defBody st) (defScope st) .none kV doc pm an cdv ct∧K.lookup f=some ⟨oc,od,.func fd,osl⟩∧PySem.W.codeIn K cdv qual=true
  kp:PySem.W.keepIn K (.ref f)=true
section
variable {P:Program} {w:World} {K:PySem.W.Frag} {mg:Str→Option Value} {base:Heap}
theorem Fun.ok {x qual:Str} {st:Stmt} {f:Addr} {fd:FuncData} {N ps:List Str} {k:Nat} {sp:Sp} (F:Fun K x qual st f fd) (S:FnScope N ps (defScope st)) (len:∀vs H Q E,sp vs H Q E→vs.length=ps.length)
    (hbody:∀(cdv:Value) (A:Around) (outer:List Env) (s:Shared) (H:Hp) (vs:List V) (Q:VK) (E:XK),Room k (A.deeper (envOfC qual (defScope st) s.heap.objs.size f cdv))→sp vs H Q E →
      ∃t,PSs (cxOf CX0 P w K mg base N qual (defScope st) f cdv A outer s H E).nox (defBody st) t∧t { nx:=fun _ H'=>Q .non H',rt:=Q } (start N vs) H):FnOk P w K mg base CX0 (k+1) f fd ps sp:=by
  obtain ⟨oc,od,kV,doc,pm,an,cdv,ct,osl,rfl,lk,hcd⟩:=F.ex
  refine fn_of lk hcd S len fun A outer s H vs Q E hr hsp=>?_
  obtain ⟨t,h,q⟩:=hbody cdv A outer s H vs Q E hr hsp
  exact ⟨t,h.nox,q⟩
theorem Fun.binds {x qual:Str} {st:Stmt} {f:Addr} {fd:FuncData} {ps:List Str} (F:Fun K x qual st f fd)
    (h:∀(kV doc pm:Value) (an:Option Addr) (cdv ct:Value) (us:List Value),us.length=ps.length→bindArgs (PySem.W.fnOf x qual (defArgs st) (defBody st) (defScope st) .none kV doc pm an cdv ct) ⟨us,[]⟩=pure (ps.zip us)):Binds K fd ps []:=by
  obtain ⟨oc,od,kV,doc,pm,an,cdv,ct,osl,rfl,lk,hcd⟩:=F.ex
  exact .all (h kV doc pm an cdv ct)
theorem fun_mk {x qual:Str} {st:Stmt} {f:Addr} {oc:Value} {od an:Option Addr} {osl:Array (Option Value)} {kV doc pm cdv ct:Value} (l:K.lookup f=some ⟨oc,od,.func (PySem.W.fnOf x qual (defArgs st) (defBody st) (defScope st) .none kV doc pm an cdv ct),osl⟩)
    (c:PySem.W.codeIn K cdv qual=true) (k:PySem.W.keepIn K (.ref f)=true):Fun K x qual st f (PySem.W.fnOf x qual (defArgs st) (defBody st) (defScope st) .none kV doc pm an cdv ct):=⟨⟨oc,od,kV,doc,pm,an,cdv,ct,osl,rfl,l,c⟩,k⟩
end
section
variable {X:Cx}
theorem pv (i:Nat) {x:Str} {pos:Pos} (hN:X.N[i]?=some x:=by rfl) (hv:Vis X.env.scope x:=by first | exact Or.inl rfl | exact Or.inr (Or.inl rfl) | exact Or.inr (Or.inr rfl)) (hd:(x == ("__debug__" : Str))=false:=by decide)
    (hcd:(x == ("__classdict__" : Str))=false:=by decide):PE X (.Name x pos) (tVar i):=pe_var hN hv hd hcd
end
theorem iteF {A B:Prop} (h:B):if false=true then A else B:=by
  rw [if_neg Bool.false_ne_true]
  exact h
theorem iteT {A B:Prop} (h:A):if true=true then A else B:=by
  rw [if_pos rfl]
  exact h
theorem iteNS {c A B:Prop} [Decidable c] (hc:c) (h:B):if (!decide c)=true then A else B:=by
  rw [decide_eq_true hc]
  exact iteF h
def Same (H H':Hp):Prop:=∀b o,H b=some o→H' b=some o
theorem Same.refl (H:Hp):Same H H:=fun _ _ h=>h
theorem Same.trans {H H1 H2:Hp} (a:Same H H1) (b:Same H1 H2):Same H H2:=fun c o h=>b c o (a c o h)
theorem Same.free {H H':Hp} (e:Same H H') {l:Addr} (h:H' l=Option.none):H l=Option.none:=by
  cases q:H l with
  | none=>rfl
  | some o =>
    rw [e l o q] at h
    cases h
theorem Same.seq {K:PySem.W.Frag} {H H':Hp} {a:Addr} {xs:List V} (e:Same H H') (h:SqL K H a xs):SqL K H' a xs:=by
  rcases h with (h | ⟨o,h⟩) | h
  · exact .inl (.inl (e _ _ h))
  · exact .inl (.inr ⟨o,e _ _ h⟩)
  · exact .inr h
end L2
namespace RV
open PySem
open Sem (wp)
section
variable {prog:Program} {w:World} {A:Around} {E:Value→Shared→Prop} {s:Shared}
end
end RV
namespace L2
open PySem PySem.Spec PyProof.Rows
def clOf (env:Env):List (Str×NameKind)→List (Str×Addr)→List (Str×Addr)
  | [],acc=>acc
  | (n,k)::r,acc=>clOf env r (if k == .free then (match env.cells.lookup n with | some c=>(n,c)::acc | none=>acc) else acc)
theorem closureFor_eq {env:Env} {scope:Scope} (h:∀x∈scope.names,x.2=.free→∃c,env.cells.lookup x.1=some c):closureFor scope env=pure (clOf env scope.names []):=by
  have gen:∀(l:List (Str×NameKind)) (acc:List (Str×Addr)),(∀x∈l,x.2=.free→∃c,env.cells.lookup x.1=some c) →
      (forIn l acc (fun x r=>if (x.2 == NameKind.free)=true then (cellOf env x.1 >>= fun c=>pure (ForInStep.yield ((x.1,c)::r))) else pure (ForInStep.yield r)):Sem _)=pure (clOf env l acc):=by
    intro l
    induction l with
    | nil=>intro acc _;rfl
    | cons x r ih =>
      intro acc hx
      obtain ⟨n,k⟩:=x
      rw [List.forIn_cons]
      by_cases hk:k=.free
      · subst hk
        obtain ⟨c,hc⟩:=hx _ List.mem_cons_self rfl
        have hc':cellOf env n=pure c:=by unfold cellOf;simp at hc;rw [hc]
        simp at hc
        simp only [clOf,hc',hc]
        have:=ih ((n,c)::acc) fun y hy=>hx y (List.mem_cons_of_mem _ hy)
        exact this
      · have hb:(k == NameKind.free)=false:=by simpa using hk
        simp only [clOf,hb]
        exact ih acc fun y hy=>hx y (List.mem_cons_of_mem _ hy)
  have:=gen scope.names [] h
  simp only [closureFor]
  rw [this]
  rfl
theorem clOf_sub {env:Env}:∀(l:List (Str×NameKind)) (acc:List (Str×Addr)),(∀p∈acc,env.cells.lookup p.1=some p.2)→∀p∈clOf env l acc,env.cells.lookup p.1=some p.2
  | [],_,h=>h
  | (n,k)::r,acc,h=>by
    unfold clOf
    refine clOf_sub r _ ?_
    split
    · split
      · rename_i c hc
        intro p hp
        rcases List.mem_cons.mp hp with rfl | hp
        · exact hc
        · exact h p hp
      · exact h
    · exact h
theorem clOf_keeps {env:Env}:∀(l:List (Str×NameKind)) (acc:List (Str×Addr)),∀p∈acc,p∈clOf env l acc
  | [],_,_,h=>h
  | (n,k)::r,acc,p,h=>by
    unfold clOf
    refine clOf_keeps r _ p ?_
    split
    · split
      · exact List.mem_cons_of_mem _ h
      · exact h
    · exact h
theorem clOf_has {env:Env} {x:Str} {c:Addr} (hc:env.cells.lookup x=some c):∀(l:List (Str×NameKind)) (acc:List (Str×Addr)),(x,NameKind.free)∈l→(x,c)∈clOf env l acc
  | [],_,h=>nomatch h
  | (n,k)::r,acc,h=>by
    unfold clOf
    rcases List.mem_cons.mp h with e | h
    · cases e
      refine clOf_keeps r _ _ ?_
      rw [hc]
      simp
    · exact clOf_has hc r _ h
theorem lookup_of_mem {κ β:Type} [BEq κ] [LawfulBEq κ] {x:κ} {b:β}:∀{l:List (κ×β)},(x,b)∈l→∃c,l.lookup x=some c
  | [],h=>nomatch h
  | (n,k)::r,h=>by
    rw [List.lookup_cons]
    cases e:x == n with
    | true=>exact ⟨_,rfl⟩
    | false =>
      rcases List.mem_cons.mp h with q | q
      · cases q;simp at e
      · exact lookup_of_mem q
theorem relabel_free {env:Env} {x:Str}:∀{l:List (Str×NameKind)},l.lookup x=some .free →
    (l.map fun (n,k)=>if (k == NameKind.free&&env.scope.kind == .function&&env.kindOf n == some .cell) then (n,NameKind.cell) else (n,k)).lookup x=some .cell ∨
    (l.map fun (n,k)=>if (k == NameKind.free&&env.scope.kind == .function&&env.kindOf n == some .cell) then (n,NameKind.cell) else (n,k)).lookup x=some .free
  | [],h=>by simp at h
  | (n,k)::r,h=>by
    have ih:=@relabel_free env x r
    rw [List.map_cons]
    cases hx:x == n with
    | true =>
      simp only [List.lookup_cons,hx] at h
      cases h
      by_cases hc:(NameKind.free == NameKind.free&&env.scope.kind == .function&&env.kindOf n == some .cell)=true
      · left;simp only [hc,if_true,List.lookup_cons,hx]
      · right;simp only [hc,List.lookup_cons,hx];simp only [Bool.not_eq_true] at hc;simp only [hc,Bool.false_eq_true,if_false,List.lookup_cons,hx]
    | false =>
      simp only [List.lookup_cons,hx] at h
      by_cases hc:(k == NameKind.free&&env.scope.kind == .function&&env.kindOf n == some .cell)=true
      · simp only [hc,if_true,List.lookup_cons,hx];exact ih h
      · simp only [Bool.not_eq_true] at hc;simp only [hc,Bool.false_eq_true,if_false,List.lookup_cons,hx];exact ih h
theorem relabel_back {env:Env} {x:Str}:∀{l:List (Str×NameKind)},(∀y∈l,y.2≠.cell) →
    ((l.map fun (n,k)=>if (k == NameKind.free&&env.scope.kind == .function&&env.kindOf n == some .cell) then (n,NameKind.cell) else (n,k)).lookup x=some .cell ∨
    (l.map fun (n,k)=>if (k == NameKind.free&&env.scope.kind == .function&&env.kindOf n == some .cell) then (n,NameKind.cell) else (n,k)).lookup x=some .free)→(x,NameKind.free)∈l
  | [],_,h=>by simp at h
  | (n,k)::r,hn,h=>by
    have ih:=@relabel_back env x r fun y hy=>hn y (List.mem_cons_of_mem _ hy)
    rw [List.map_cons] at h
    cases hx:x == n with
    | true =>
      have e:x=n:=by simpa using hx
      subst e
      by_cases hk:k=.free
      · subst hk;exact List.mem_cons_self
      · have hb:(k == NameKind.free)=false:=by simpa using hk
        simp only [hb,Bool.false_and,Bool.false_eq_true,if_false,List.lookup_cons,hx] at h
        rcases h with h | h
        · cases h;exact absurd rfl (hn _ List.mem_cons_self)
        · cases h;exact absurd rfl hk
    | false =>
      refine List.mem_cons_of_mem _ (ih ?_)
      by_cases hc:(k == NameKind.free&&env.scope.kind == .function&&env.kindOf n == some .cell)=true
      · simp only [hc,if_true,List.lookup_cons,hx] at h;exact h
      · simp only [Bool.not_eq_true] at hc;simp only [hc,Bool.false_eq_true,if_false,List.lookup_cons,hx] at h;exact h
def cxComp (X:Cx) (scope:Scope) (N:List Str) (C:Addr) (s₀:Shared) (H₀:Hp) (ex:List Addr):Cx where
  prog:=X.prog
  w:=X.w
  K:=X.K
  mg:=X.mg
  base:=X.base
  A:=X.A
  N:=N
  s₀:=s₀
  H₀:=H₀
  env:=compEnvC scope (clOf X.env scope.names []) C X.env
  outer:=X.stack
  stack:=X.stack
  ex:=ex
  fn:=fun _=>false
  calm:=X.calm
  pn:=[]
  xe:=fun _ _=>False
def capσ (σ:St) (cap:List Nat) (k:Nat):St:=cap.map (fun i=>(σ[i]?).join)++List.replicate k none
structure CompScope (X:Cx) (scope:Scope) (N:List Str) (cap:List Nat) (k:Nat):Prop where
  kind:scope.kind=.function
  nocell:∀y∈scope.names,y.2≠.cell
  free:∀y∈scope.names,y.2=.free→X.env.kindOf y.1=some .cell∨X.env.kindOf y.1=some .free
  loc:∀y∈scope.names,y.2=.local→scope.names.lookup y.1=some .local
  caps:∀x∈N.take cap.length,scope.names.lookup x=some .free
  at':cap.map (fun i=>X.N[i]?)=(N.take cap.length).map some
  len:N.length=cap.length+k
theorem inv_comp {X:Cx} {scope:Scope} {N:List Str} {cap:List Nat} {k:Nat} {pins:List (Addr×Obj)} {σ:St} {H:Hp} {s:Shared} {ex:List Addr} {h₁:Heap} {m0:Str→Option Value} {o:Obj} {t:Nat}
    (S:CompScope X scope N cap k) (I:Inv X pins σ H s) (hx:∀b∈ex,FpOk X pins H b∧b<s.heap.objs.size) (hns:h₁.Ns s.heap.objs.size m0) (hsb:Heap.SameBut s.heap.objs.size (s.heap.push o) h₁) :
    Inv (cxComp X scope N s.heap.objs.size s H ex) [] (capσ σ cap k) H { s with heap:=h₁,toks:=t }:=by
  have old:∀b u,s.heap.get? b=some u→h₁.get? b=some u:=fun b u e=>hsb.extBut b u (Nat.ne_of_lt (Heap.lt_size e)) (Heap.get?_push_of_some _ e)
  have sub:∀x c,(clOf X.env scope.names []).lookup x=some c→X.env.cells.lookup x=some c:=fun x c e=>clOf_sub (env:=X.env) scope.names [] (fun _ z=>nomatch z) (x,c) (PySem.mem_of_lookup e)
  have kf:∀x,(x,NameKind.free)∈scope.names→∃c,X.env.cells.lookup x=some c∧(clOf X.env scope.names []).lookup x=some c:=fun x hm=>by
    obtain ⟨c,hc⟩:=I.ok.has x (S.free _ hm rfl)
    obtain ⟨c',hc'⟩:=lookup_of_mem (clOf_has hc scope.names [] hm)
    have:=sub x c' hc'
    rw [hc] at this;cases this
    exact ⟨c,hc,hc'⟩
  refine ⟨⟨I.ok.mod,?_,I.ok.glob,I.ok.blt,Nat.le_refl _,fun x y c h1 h2=>I.ok.inj x y c (sub x c h1) (sub y c h2),fun x hk=>?_,fun x c hf _=>(nomatch hf),I.ok.hd,I.ok.frames,.inl rfl,fun b hb=>⟨Nat.ne_of_lt (hx b hb).2,fun x c e=>(hx b hb).1.2.2.2.2.1 x c (sub x c e)⟩,I.bs,Nat.le_trans I.ok.bsz I.sz,fun b ob e hb=>?_,fun b hb z=>?_,I.stack,I.stkFree⟩,
    rfl,I.bare,Un.kept old,⟨m0,hns,fun i x v e1 e2 e3=>?_⟩,fun x c e=>?_,I.hok.fresh (Nat.le_refl _),fun x c e=>I.freeC x c (sub x c e),fun p hp=>absurd (show p∈([]:List (Addr×Obj)) from hp) (by simp),I.hok.kept old,?_⟩
  · exact S.kind
  · obtain ⟨c,_,h2⟩:=kf x (relabel_back (env:=X.env) S.nocell hk)
    exact ⟨c,h2⟩
  · rcases (hx b hb).1.2.2.2.1 with z | z
    · exact I.ok.noex b ob e z
    · exact absurd (Nat.lt_of_lt_of_le (Heap.lt_size (I.ok.bs b ob e).1) z) (Nat.lt_irrefl _)
  · rcases List.mem_cons.mp (I.stkSub b z) with e | e
    · exact (hx b hb).1.2.1 e
    · exact (hx b hb).1.2.2.1 e
  · -- a name from around
    have hi:i<cap.length:=by
      by_cases hi:i<cap.length
      · exact hi
      · unfold capσ at e2
        rw [List.getElem?_append_right (by simpa using hi),List.getElem?_replicate] at e2
        split at e2 <;> cases e2
    have hv:(σ[cap[i]]?).join=some v:=by
      unfold capσ at e2
      rw [List.getElem?_append_left (by simpa using hi),List.getElem?_map,List.getElem?_eq_getElem hi] at e2
      exact Option.some.inj e2
    have hv':σ[cap[i]]?=some (some v):=by
      cases q:σ[cap[i]]? with
      | none=>rw [q] at hv;cases hv
      | some z=>rw [q] at hv;exact congrArg some hv
    have e1':N[i]?=some x:=e1
    have hN:(N.take cap.length)[i]?=some x:=by rw [List.getElem?_take_of_lt hi];exact e1'
    have hXN:X.N[cap[i]]?=some x:=by
      have q:=congrArg (fun l=>l[i]?) S.at'
      simp only [List.getElem?_map,hN,List.getElem?_eq_getElem hi,Option.map_some] at q
      exact Option.some.inj q
    have hfx:=S.caps x (List.mem_of_getElem? hN)
    have hm:(x,NameKind.free)∈scope.names:=PySem.mem_of_lookup hfx
    have hkx:=S.free _ hm rfl
    obtain ⟨m,hn,hl⟩:=I.loc
    obtain ⟨u,r,l⟩:=hl _ x v hXN hv' (.inr hkx)
    refine ⟨u,r,.inr ⟨relabel_free (env:=X.env) hfx,?_⟩⟩
    obtain ⟨c,hc,hc'⟩:=kf x hm
    rcases l with ⟨z,_⟩ | ⟨_,c2,q,z⟩
    · rcases hkx with y | y <;> (rw [y] at z;cases z)
    · rw [hc] at q;cases q
      obtain ⟨ob,ho,hd⟩:=z
      exact ⟨c,hc',ob,old _ _ ho,hd⟩
  · obtain ⟨v,ob,ho,hd⟩:=I.cell x c (sub x c e)
    exact ⟨v,ob,old _ _ ho,hd⟩
  · show (capσ σ cap k).length=N.length
    unfold capσ
    rw [List.length_append,List.length_map,List.length_replicate,S.len]
theorem Inv.track {X:Cx} {pins:List (Addr×Obj)} {σ:St} {H:Hp} {s:Shared} {D:Addr} {ys:List V} {its:List Value} {n:Nat} (I:Inv X pins σ H s) (hn:H D=none)
    (he:s.heap.get? D=some { cls:=.type "list",data:=.seq its.toArray n }) (hv:Vals ys its) (hz:ys.length≤sizeLine) (h0:X.s₀.heap.objs.size≤D) (hL:D≠X.env.locals)
    (hc:∀x c,X.env.cells.lookup x=some c→c≠D) (hp:∀p∈X.pn++pins,p.1≠D):Inv X pins σ (upd H D (.lst ys)) s:=by
  refine ⟨I.ok,I.os,I.bare,⟨I.base.keep,I.base.slot,fun b o e n hx=>?_,I.base.there,fun b xs e=>?_,fun b o u e=>?_,fun b ps e=>?_⟩,I.loc,I.cell,?_,fun x c e=>?_,fun p hq=>?_,fun b u e=>?_,I.len⟩
  · rw [upd_ne (Nat.ne_of_lt (Nat.lt_of_lt_of_le (Heap.lt_size e) h0))];exact I.base.free b o e n hx
  · have q:=I.base.tups b xs e
    rw [upd_ne (ne_of_none q hn)];exact q
  · have q:=I.base.frzs b o u e
    rw [upd_ne (ne_of_none q hn)];exact q
  · obtain ⟨more,q⟩:=I.base.tbls b ps e
    exact ⟨more,by rw [upd_ne (ne_of_none q hn)];exact q⟩
  · rw [upd_ne (Ne.symm hL)];exact I.free
  · rw [upd_ne (hc x c e)];exact I.freeC x c e
  · obtain ⟨a,b,c,d,e⟩:=I.pin p hq
    exact ⟨a,by rw [upd_ne (hp p hq)];exact b,c,d,e⟩
  · by_cases hb:b=D
    · subst hb
      rw [upd_same] at e;cases e
      exact ⟨hz,its,n,hv,he⟩
    · rw [upd_ne hb] at e
      exact (I.hok b u e).stay (fun _ _ _ q=>q) (fun c q=>by rw [upd_ne (ne_of_none q hn)];exact q) fun c xs q=>by rw [upd_ne (ne_of_none q hn)];exact q
theorem compLoop_any {prog:Program} {w:World} {A:Around} {R:Result→Shared→Prop} {s:Shared} {elt target iter:Expr} {scope:Scope} {pos:Pos} {it acc:Value} {env:Env} (I:Nat→Shared→Prop)
    (turn:∀n s,I n s→wpAny (model prog w) A (pyNext it) (fun r s₁=>match r with
      | none=>R (.ok .next) s₁
      | some v=>wpAny (model prog w) A (letOwnedTupleGo target it v) (fun _ s₂=>wpAny (model prog w) A (assign target env v) (fun _ s₃=>wpAny (model prog w) A (eval elt env) (fun x s₄ =>
          wpAny (model prog w) A (call (.builtin "list.append") [acc,x]) (fun _ s₅=>∃m,m<n∧I m s₅) (fun _ _=>False) s₄)
          (fun _ _=>False) s₃) (fun _ _=>False) s₂) (fun _ _=>False) s₁) (fun _ _=>False) s)
    (n:Nat) (h:I n s) :
    codeAny (model prog w) A (.compLoop (.ListComp elt [⟨target,iter,[],0⟩] scope pos) 0 it acc env) R s:=by
  refine codeAny_loop rfl I (fun n s hI=>?_) n h
  show wpAny _ _ ((compTurn (.ListComp elt [⟨target,iter,[],0⟩] scope pos) 0 it acc env).onRaise (fun x=>do noteFrame x env;theTreesLotGoes x)) _ _ s
  refine wpAny_noted ?_
  rw [compTurn_list1]
  refine wpAny_bind (wpAny_standAt (wpAny_bind (wpAny_mono (turn n s hI) (fun r s₁ h₁=>?_) fun _ _ h'=>h'.elim)))
  cases r with
  | none=>exact wpAny_pure h₁
  | some v =>
    refine wpAny_bind (wpAny_mono h₁ (fun _ s₂ h₂=>?_) fun _ _ h'=>h'.elim)
    exact wpAny_bind (wpAny_mono h₂ (fun _ s₃ h₃=>wpAny_bind (wpAny_bind (wpAny_mono h₃ (fun x s₄ h₄=>wpAny_bind (wpAny_mono h₄
      (fun _ s₅ h₅=>wpAny_pure (wpAny_pure ⟨rfl,h₅⟩)) fun _ _ h'=>h'.elim)) fun _ _ h'=>h'.elim))) fun _ _ h'=>h'.elim)
def CompW (J:It) (cap:List Nat) (k:Nat) (g:TG) (te:TE) (σ:St) (H1:Hp) (Q:VK):Prop :=
  ∃W:Nat→Nat→List V→Hp→Prop,(∃m,W 0 m [] H1)∧∀i m ys H,W i m ys H →
    (J.stop i H∧∀D,H D=none→Q (.ref D) (upd H D (.lst ys))) ∨
    (J.go i H∧ys.length<sizeLine∧∃Nx:VK,(∀y H3,Nx y H3→∃m',m'<m∧W (i+1) m' (ys++[y]) H3)∧∀x H',J.yld i H x H'→g x (capσ σ cap k) H' fun σ2 H2=>σ2.take cap.length=(capσ σ cap k).take cap.length∧te σ2 H2 Nx)
def tComp (wi:TI) (cap:List Nat) (k:Nat) (g:TG) (te:TE):TE:=fun σ H Q=>wi σ H fun J H1=>CompW J cap k g te σ H1 Q
end L2
namespace L2
open PySem PySem.Spec PyProof.Rows
section
variable {X:Cx} {elt tg iter:Expr} {scope:Scope} {pos:Pos} {N:List Str} {cap:List Nat} {k:Nat} {wi:TI} {g:TG} {te:TE}
theorem comp_block (S:CompScope X scope N cap k) (hc:X.calm=true)
    (hg:∀C s₀ H₀ ex,PG (cxComp X scope N C s₀ H₀ ex) tg g) (he:∀C s₀ H₀ ex,PE (cxComp X scope N C s₀ H₀ ex) elt te)
    {pins:List (Addr×Obj)} {σ:St} {H:Hp} {s:Shared} {it:Addr} {fp:List Addr} {tn:Nat→Heap→Prop} {J:It} {Q:VK} {RR:Value→Addr→Result→Shared→Prop} {E:Value→Shared→Prop}
    (I:Inv X pins σ H s) (T:Turn X.prog X.w X.K tg J fp it tn) (st:tn 0 s.heap) (hf:∀b∈fp,FpOk X pins H b)
    (W:Nat→Nat→List V→Hp→Prop) (w0:∃m,W 0 m [] H)
    (turn:∀i m ys H,W i m ys H →
      (J.stop i H∧∀D,H D=none→Q (.ref D) (upd H D (.lst ys))) ∨
      (J.go i H∧ys.length<sizeLine∧∃Nx:VK,(∀y H3,Nx y H3→∃m',m'<m∧W (i+1) m' (ys++[y]) H3)∧∀x H',J.yld i H x H'→g x (capσ σ cap k) H' fun σ2 H2=>σ2.take cap.length=(capσ σ cap k).take cap.length∧te σ2 H2 Nx))
    (hRR:∀D C s' m',(∃H',s'.heap.Ns C m'∧(∀h',Heap.SameBut C s'.heap h'→Inv X pins σ H' { s' with heap:=h' }∧X.env.locals≠C∧(∀x c,X.env.cells.lookup x=some c→c≠C))∧FpOk X pins H' C∧Q (.ref D) H')→RR (.ref D) C (.ok .next) s') :
    wpAny (model X.prog X.w) X.A (newList []) (fun acc s₃=>wpAny (model X.prog X.w) X.A (newFunctionEnv scope X.env.globals (clOf X.env scope.names []) [] X.env.qual none .none (some X.env)) (fun cenv s₄ =>
      codeAny (model X.prog X.w) X.A (.compStart (.ListComp elt [⟨tg,iter,[],0⟩] scope pos) 0 (.ref it) acc { cenv with scope:=relabel scope X.env }) (RR acc cenv.locals) s₄) E s₃) E s:=by
  refine wpAny_newObj_type (wpAny_newFunctionEnv S.nocell (by intro y hy;simp at hy) (fun h₁ hns₁ hsb₁=>?_) S.kind)
  have I3:Inv X pins σ H { s with heap:=s.heap.push { cls:=.type "list",dict:=none,data:=.seq ([]:List Value).toArray } }:=I.kept (t':=s.toks) fun b u e=>Heap.get?_push_of_some _ e
  have hD0:(s.heap.push { cls:=.type "list",dict:=none,data:=.seq ([]:List Value).toArray }).get? s.heap.objs.size=some { cls:=.type "list",data:=.seq ([]:List Value).toArray }:=Heap.get?_push_size _ rfl
  have hfpl:∀b∈fp,b<s.heap.objs.size:=fun b hb=>by
    obtain ⟨o,e,_⟩:=T.obj _ _ st b hb
    exact Heap.lt_size e
  have hDf:s.heap.objs.size∉fp:=fun hm=>Nat.lt_irrefl _ (hfpl _ hm)
  have fD:FpOk X pins H s.heap.objs.size:=I.fpOk (Nat.le_refl _) (I.hok.fresh (Nat.le_refl _))
  dsimp only at hns₁ hsb₁ ⊢
  generalize hH2:s.heap.push { cls:=.type "list",dict:=none,data:=.seq ([]:List Value).toArray }=H2 at hns₁ hsb₁ I3 hD0 ⊢
  have hsz:H2.objs.size=s.heap.objs.size+1:=by rw [←hH2,Heap.size_push]
  have hle:s.heap.objs.size≤H2.objs.size:=by rw [hsz];exact Nat.le_succ _
  have st3:tn 0 H2:=T.keep _ _ _ st fun b _ o e=>by rw [←hH2];exact Heap.get?_push_of_some _ e
  generalize hD:s.heap.objs.size=D at hD0 hDf fD hsz ⊢
  have hCD:H2.objs.size≠D:=by omega
  have IC:=inv_comp (t:=s.toks+([]:List (Str×Value)).length) (ex:=D::fp) S I3 (fun b hb=>by
    rcases List.mem_cons.mp hb with rfl | hb
    · exact ⟨fD,by show _<H2.objs.size;omega⟩
    · exact ⟨hf b hb,Nat.lt_of_lt_of_le (hfpl b hb) hle⟩) hns₁ hsb₁
  have old:∀b u,H2.get? b=some u→h₁.get? b=some u:=fun b u e=>hsb₁.extBut b u (Nat.ne_of_lt (Heap.lt_size e)) (Heap.get?_push_of_some _ e)
  have st4:tn 0 h₁:=T.keep _ _ _ st3 fun b _ o e=>old b o e
  have hD1:=old _ _ hD0
  generalize hXC:cxComp X scope N H2.objs.size { s with heap:=H2 } H (D::fp)=XC at IC
  have fpC:∀{H':Hp} {pl:List (Addr×Obj)},(∀p∈pl,p.1∉fp)→(∀b∈fp,H' b=none)→∀b∈fp,FpOk XC pl H' b:=fun {H' pl} hpl hn b hb=>by
    subst hXC
    obtain ⟨f0,f1,f2,f3,f4,f5⟩:=hf b hb
    refine ⟨hn b hb,Nat.ne_of_lt (Nat.lt_of_lt_of_le (hfpl b hb) hle),fun z=>?_,.inl (List.mem_cons_of_mem _ hb),fun x c e=>?_,fun p hp z=>?_⟩
    · rcases List.mem_cons.mp (I3.stkSub b z) with e | e
      · exact f1 e
      · exact f2 e
    · exact f4 x c (clOf_sub (env:=X.env) scope.names [] (fun _ z=>nomatch z) (x,c) (PySem.mem_of_lookup e))
    · have hp':p∈pl:=by simpa [cxComp] using hp
      exact hpl p hp' (by rw [z];exact hb)
  have fpD:∀{H':Hp},H' D=none→FpOk XC [] H' D:=fun {H'} hn=>by
    subst hXC
    obtain ⟨f0,f1,f2,f3,f4,f5⟩:=fD
    refine ⟨hn,Ne.symm hCD,fun z=>?_,.inl List.mem_cons_self,fun x c e=>?_,fun p hp z=>by simp [cxComp] at hp⟩
    · rcases List.mem_cons.mp (I3.stkSub D z) with e | e
      · exact f1 e
      · exact f2 e
    · exact f4 x c (clOf_sub (env:=X.env) scope.names [] (fun _ z=>nomatch z) (x,c) (PySem.mem_of_lookup e))
  have hgC:PG XC tg g:=by rw [←hXC];exact hg _ _ _ _
  have heC:PE XC elt te:=by rw [←hXC];exact he _ _ _ _
  have e1:XC.prog=X.prog:=by rw [←hXC];rfl
  have e2:XC.w=X.w:=by rw [←hXC];rfl
  have e3:XC.K=X.K:=by rw [←hXC];rfl
  have e4:XC.A=X.A:=by rw [←hXC];rfl
  have e5:XC.calm=true:=by rw [←hXC];exact hc
  have e6:XC.xe=fun _ _=>False:=by rw [←hXC];rfl
  have e7:XC.env=compEnvC scope (clOf X.env scope.names []) H2.objs.size X.env:=by rw [←hXC];rfl
  have fin:∀(ys:List V) (its:List Value) (n:Nat) (H':Hp) (s':Shared),Inv XC [] (capσ σ cap k) H' s'→H' D=none→s'.heap.get? D=some { cls:=.type "list",data:=.seq its.toArray n }→Vals ys its→ys.length≤sizeLine →
      Q (.ref D) (upd H' D (.lst ys))→RR (.ref D) H2.objs.size (.ok .next) s':=fun ys its n H' s' I' hn hd hv hz q=>by
    obtain ⟨m',hm',_⟩:=I'.loc
    have hm'':s'.heap.Ns H2.objs.size m':=by rw [e7] at hm';exact hm'
    have hfree:H' H2.objs.size=none:=by have:=I'.free;rw [e7] at this;exact this
    have hos:s'.os=s.os:=by have:=I'.os;rw [←hXC] at this;exact this
    have hun:Un (frs X.stack) (D::fp) H H' H2 s'.heap:=by have:=I'.base;rw [←hXC] at this;exact this
    have hok:HOk X.prog X.w H' s'.heap:=by have:=I'.hok;rw [e1,e2] at this;exact this
    have IP:Inv X pins σ H' s':=I3.call' (ch:=D::fp) hos hun hok I'.bare (fun b hb=>by
      have hb':FpOk X pins H b:=by
        rcases List.mem_cons.mp hb with rfl | hb
        · exact fD
        · exact hf b hb
      exact ⟨hb'.2.2.2.1,hb'.2.1,hb'.2.2.2.2.1,hb'.2.2.2.2.2⟩)
    have fC:FpOk X pins H' H2.objs.size:=I3.fpOk (Nat.le_refl _) hfree
    refine hRR D H2.objs.size s' m' ⟨upd H' D (.lst ys),hm'',fun h' hs'=>⟨?_,Ne.symm fC.2.1,fC.2.2.2.2.1⟩,⟨by rw [upd_ne hCD];exact fC.1,fC.2⟩,q⟩
    have I4:Inv X pins σ H' { s' with heap:=h' }:=IP.turned (t':=s'.toks) (it:=H2.objs.size) (fun b o hb e=>hs'.extBut b o hb e) hfree (Ne.symm (Ne.symm fC.2.1)) fC.2.2.2.1 fC.2.2.2.2.1 fC.2.2.2.2.2
    refine I4.track hn (hs'.extBut D _ (Ne.symm hCD) hd) hv hz ?_ fD.2.1 fD.2.2.2.2.1 fD.2.2.2.2.2
    have:=I.sz
    omega
  have loop:∀s₄:Shared,s₄={ s with heap:=h₁,toks:=s.toks+([]:List (Str×Value)).length } →
      codeAny (model X.prog X.w) X.A (.compLoop (.ListComp elt [⟨tg,iter,[],0⟩] scope pos) 0 (.ref it) (.ref D) (compEnvC scope (clOf X.env scope.names []) H2.objs.size X.env)) (RR (.ref D) H2.objs.size) s₄:=by
    rintro s₄ rfl
    obtain ⟨m0,w0⟩:=w0
    refine compLoop_any (fun n s'=>∃i ys its n' H',Inv XC [] (capσ σ cap k) H' s'∧tn i s'.heap∧(∀b∈fp,H' b=none)∧H' D=none∧s'.heap.get? D=some { cls:=.type "list",data:=.seq its.toArray n' }∧Vals ys its∧ys.length≤sizeLine∧W i n ys H') ?_ m0
      ⟨0,[],[],_,H,IC,st4,fun b hb=>(hf b hb).1,fD.1,hD1,.nil,Nat.zero_le _,w0⟩
    rintro n s5 ⟨i,ys,its,n',H5,I5,st5,fr5,hn5,hd5,hv5,hz5,w5⟩
    have IP5:Inv XC [(D,{ cls:=.type "list",data:=.seq its.toArray n' })] (capσ σ cap k) H5 s5:=I5.pins_of fun p hp=>by
      have ep:p=(D,{ cls:=.type "list",data:=.seq its.toArray n' }):=by simpa using hp
      subst ep
      obtain ⟨f0,f1,f2,_⟩:=fpD hn5
      exact ⟨hd5,f0,f1,f2,fun v z=>by cases z⟩
    have nofp:∀p∈[(D,({ cls:=.type "list",data:=.seq its.toArray n' }:Obj))],p.1∉fp:=fun p hp=>by
      have ep:p=(D,{ cls:=.type "list",data:=.seq its.toArray n' }):=by simpa using hp
      subst ep
      exact hDf
    rcases turn i n ys H5 w5 with ⟨stop,qn⟩ | ⟨go,hlen,Nx,hNx,step⟩
    · have hd:=T.done XC e1 e2 e3 e5 i _ s5 _ H5 (fun _ _=>False) IP5 (fpC nofp fr5) st5 stop
      rw [e4] at hd
      refine thn hd fun r s6 ⟨hr,I6⟩=>?_
      subst hr
      have p6:=I6.pin (D,{ cls:=.type "list",data:=.seq its.toArray n' }) (List.mem_append_right _ (by simp))
      exact fin ys its n' H5 s6 (I6.pins_of fun p hp=>nomatch hp) hn5 p6.1 hv5 hz5 (qn D hn5)
    · have hi:=T.item XC e1 e2 e3 e5 i _ s5 _ H5 (fun _ _=>False) IP5 (fpC nofp fr5) st5 go
      rw [e4] at hi
      refine thn hi fun r s6 ⟨u,hr,h6⟩=>?_
      subst hr
      refine thn h6 fun _ s7 ⟨x,H7,I7,r7,y7,st7,fr7⟩=>?_
      have p7:=I7.pin (D,{ cls:=.type "list",data:=.seq its.toArray n' }) (List.mem_append_right _ (by simp))
      have IP7:=I7.pinned (fpC nofp fr7) (T.obj _ _ st7)
      have hg7:=hgC _ s7 _ H7 x u _ IP7 r7 (step x H7 y7)
      rw [e1,e2,e4,e6,e7] at hg7
      refine thn hg7 fun _ s8 ⟨σ8,H8,I8,q8⟩=>?_
      have he8:=heC _ s8 σ8 H8 _ I8 q8.2
      rw [e1,e2,e4,e6,e7] at he8
      refine thn he8 fun v s9 ⟨y,H9,I9,r9,q9⟩=>?_
      obtain ⟨m',hm',w9⟩:=hNx y H9 q9
      have p9:=I9.pin (D,{ cls:=.type "list",data:=.seq its.toArray n' }) (List.mem_append_right _ (List.mem_append_left _ (by simp)))
      have st9:tn (i+1) s9.heap:=T.keep _ _ _ st7 fun b hb o e=>(I9.pin (b,o) (List.mem_append_right _ (List.mem_append_right _ (mem_pinsAt hb e)))).1
      have fr9:∀b∈fp,H9 b=none:=fun b hb=>by
        obtain ⟨o,e,d⟩:=T.obj _ _ st7 b hb
        exact (I9.pin (b,o) (List.mem_append_right _ (List.mem_append_right _ (mem_pinsAt hb e)))).2.1
      have hlv:=hv5.length
      refine call_meets F.slot_list_append ⟨_,p9.1,rfl⟩ F.entry_list_append (F.args_list_append_2 _ _) (PySem.list_append D its.toArray n' v (by rw [List.size_toArray];omega)) ⟨p9.1,?_⟩
      have q:=PySem.IsL.update p9.1 (·.push v)
      have eo:(its.toArray.push v)=(its++[v]).toArray:=by simp
      rw [eo] at q
      have I9':Inv XC [] (capσ σ cap k) H9 s9:=(I9.pins_of (pins':=[]) fun p hp=>nomatch hp).weak (by
        have a:=I9.len
        have b:=IC.len
        rw [b,a]) (fun j z hz=>by
          have hj:j<cap.length:=by
            by_cases hj:j<cap.length
            · exact hj
            · unfold capσ at hz
              rw [List.getElem?_append_right (by simpa using hj),List.getElem?_replicate] at hz
              split at hz <;> cases hz
          have q:=congrArg (fun l=>l[j]?) q8.1
          simp only [List.getElem?_take_of_lt hj] at q
          rw [q]
          exact hz)
      refine ⟨m',hm',i+1,ys++[y],its++[v],_,H9,I9'.turned (it:=D) (fun b o hb e=>(Heap.get?_update_other s9.heap _ (Ne.symm hb)).trans e) p9.2.1 p9.2.2.1 (fpD p9.2.1).2.2.2.1 (fpD p9.2.1).2.2.2.2.1 (fun p hp=>by rw [←hXC] at hp;simp [cxComp] at hp),?_,fr9,p9.2.1,q,hv5.append (.cons r9 .nil),?_,w9⟩
      · exact T.keep _ _ _ st9 fun b hb o e=>(Heap.get?_update_other s9.heap _ (by rintro rfl;exact hDf hb)).trans e
      · rw [List.length_append,List.length_singleton];omega
  exact codeAny_compStart_list (loop _ rfl) (T.self _ 0 _ _ _ st4 (loop _ rfl))
theorem pe_comp (S:CompScope X scope N cap k) (hc:X.calm=true) (hi:PI X tg iter wi)
    (hg:∀C s₀ H₀ ex,PG (cxComp X scope N C s₀ H₀ ex) tg g) (he:∀C s₀ H₀ ex,PE (cxComp X scope N C s₀ H₀ ex) elt te)
    (hs:∀x,foldedSetIterable iter X.env x=pure x:=by intro _;rfl):PE X (.ListComp elt [⟨tg,iter,[],0⟩] scope pos) (tComp wi cap k g te):=by
  intro pins s σ H Q I h
  rw [eval_ListComp]
  refine wpAny_comprehension_free (use:=none) rfl hs (closureFor_eq fun x hx hf=>I.ok.has x.1 (S.free x hx hf)) S.kind S.loc (thn (hi pins s σ H _ I h) fun xv s1 h1=>thn h1 fun itv s2 h2=>?_)
  obtain ⟨it,fp,tn,J,H2,e,I2,T,st2,f2,W,w0,turn⟩:=h2
  subst e
  refine comp_block (Q:=Q) (RR:=fun acc C=>compPost (model X.prog X.w) X.A X.xe none (EP X pins σ Q) acc C) S hc hg he I2 T st2 f2 W w0 turn ?_
  rintro D C s' m' ⟨H',hn,hk,_,q⟩
  exact ⟨m',hn,fun h' hs'=>⟨.ref D,H',(hk h' hs').1,rfl,q⟩⟩
end
end L2
namespace L2
open PySem PySem.Spec PyProof.Rows
section
variable {X:Cx} {tg:Expr}
end
theorem ne4 {m c n:Nat} (h:m+4<n) (hc:c=m+4∨c=m+2∨c=m+3∨c=m∨c=m+1):c≠n:=by omega
theorem le4 {m c:Nat} (hc:c=m+4∨c=m+2∨c=m+3∨c=m∨c=m+1):m≤c:=by omega
theorem ne1 {m c n:Nat} (h:m+1<n) (hc:c=m+1∨c=m):c≠n:=by omega
theorem le1 {m c:Nat} (hc:c=m+1∨c=m):m≤c:=by omega
def Itz (K:PySem.W.Frag) (a b:Addr):It :=
  ⟨fun i H=>∃xs ys,SqL K H a xs∧SqL K H b ys∧i<xs.length∧i<ys.length,
   fun i H x H'=>∃p u v,x=.ref p∧H p=none∧H'=upd H p (.tup [u,v])∧(∀xs,SqL K H a xs→xs[i]?=some u)∧∀ys,SqL K H b ys→ys[i]?=some v,
   fun i H=>∃xs ys,SqL K H a xs∧SqL K H b ys∧(xs.length≤i∨ys.length≤i)⟩
theorem turn_zip {P:Program} {w:World} {K:PySem.W.Frag} {elts:List Expr} {k:Nat} {tpos:Pos} (a b m:Addr) (ha:a<m) (hb:b<m) :
    Turn P w K (.Tuple elts k tpos) (Itz K a b) [m+4,m+2,m+3,m,m+1] (m+4)
      (fun i h=>IsZip h (m+4) (m+2) (m+3) .none∧IsPair h (m+2) (.ref m) (.ref (m+1))∧(∃u v,IsPair h (m+3) u v)∧h.IsListIter m a i∧h.IsListIter (m+1) b i) where
  mem:=by simp
  obj:=fun i h st c hc=>by
    obtain ⟨s1,s2,⟨u,v,s3⟩,⟨o4,e4,c4,d4⟩,⟨o5,e5,c5,d5⟩⟩:=st
    simp only [List.mem_cons,List.not_mem_nil,or_false] at hc
    rcases hc with rfl | rfl | rfl | rfl | rfl
    · exact ⟨_,s1,fun v z=>by cases z⟩
    · exact ⟨_,s2,fun v z=>by cases z⟩
    · exact ⟨_,s3,fun v z=>by cases z⟩
    · exact ⟨_,e4,fun v z=>by rw [d4] at z;cases z⟩
    · exact ⟨_,e5,fun v z=>by rw [d5] at z;cases z⟩
  keep:=fun i h h' st kk=>by
    obtain ⟨s1,s2,⟨u,v,s3⟩,s4,s5⟩:=st
    exact ⟨kk _ (by simp) _ s1,kk _ (by simp) _ s2,⟨u,v,kk _ (by simp) _ s3⟩,s4.at fun o e=>kk _ (by simp) o e,s5.at fun o e=>kk _ (by simp) o e⟩
  item:=by
    intro X hP hw hK hc i pins s σ H E I hf st hg
    subst hP hw hK
    obtain ⟨xs,ys,hx,hy,hxl,hyl⟩:=hg
    obtain ⟨s1,s2,⟨u0,v0,s3⟩,s4,s5⟩:=st
    obtain ⟨ix,rx,px,_⟩:=I.list hx
    obtain ⟨iy,ry,py,_⟩:=I.list hy
    obtain ⟨u,hu,ru⟩:=rx.get (List.getElem?_eq_getElem hxl)
    obtain ⟨v,hv,rv⟩:=ry.get (List.getElem?_eq_getElem hyl)
    have D:=zipApart_new ha hb
    refine wpAny_pyNext_zip_item D s1 s2 s3 s4 s5 px.isList py.isList (x:=u) (y:=v) (by simpa using hu) (by simpa using hv) fun h' a1 a2 a3 a4 a5 a6 hk=>?_
    refine ⟨_,rfl,wpAny_letOwnedTupleGo_zip a1 fun h2 hz2 hs2=>?_⟩
    replace hs2:Heap.SameBut (m+4) h' h2:=hs2
    have lt4:m+4<s.heap.objs.size:=Heap.lt_size s1
    have keepO:∀c o,c∉[m+4,m+2,m+3,m,m+1]→s.heap.get? c=some o→h2.get? c=some o:=fun c o hc e=>by
      simp only [List.mem_cons,List.not_mem_nil,or_false,not_or] at hc
      exact hs2.extBut c o hc.1 (hk c o hc.1 hc.2.2.1 hc.2.2.2.1 hc.2.2.2.2 e)
    have I1:Inv X pins σ H { s with heap:=h2 }:=by
      refine I.step (g':=s.gens) (d':=s.drawn) (t':=s.toks) (ch:=[m+4,m+2,m+3,m,m+1]) (fun c hc=>?_) (fun c o _ _ hc e _=>keepO c o hc e) (fun c o _ _ hc e _=>⟨o.slots,keepO c o hc e⟩) (fun _ _ _ _ nn=>nn)
        (fun c o hc e=>⟨o,keepO c o hc e⟩) (fun _ _ e=>e) (fun _ _ _ e=>e) (fun c ps e=>⟨#[],by rw [e];simp⟩) (fun mm hm=>?_) (fun c o e=>?_) I.bare
      · obtain ⟨f0,f1,f2,f3,f4,f5⟩:=hf c hc
        exact ⟨f3,f1,f4,f5⟩
      · obtain ⟨o,es,ep,ho,r⟩:=hm
        exact ⟨o,es,ep,keepO _ o (fun z=>(hf _ z).2.1 rfl) ho,r⟩
      · have nin:∀d u',H d=some u'→d∉[m+4,m+2,m+3,m,m+1]:=fun d u' q z=>by have:=(hf d z).1;rw [q] at this;cases this
        refine (I.hok c o e).stay (fun d v' hd q=>keepO d v' ?_ q) (fun _ q=>q) fun _ _ q=>q
        rcases hd with z | z
        · rw [z];exact nin c o e
        · exact nin d _ z
    have hfr:H s.heap.objs.size=none:=I.hok.fresh (Nat.le_refl _)
    have ht2:IsPair h2 s.heap.objs.size u v:=hs2.extBut _ _ (Nat.ne_of_gt lt4) a5
    have I2:Inv X pins σ (upd H s.heap.objs.size (.tup [xs[i],ys[i]])) { s with heap:=h2 }:=by
      have fD:FpOk X pins H s.heap.objs.size:=I.fpOk (Nat.le_refl _) hfr
      refine ⟨I1.ok,I1.os,I1.bare,⟨I1.base.keep,I1.base.slot,fun c o e nn hx=>?_,I1.base.there,fun c zs e=>?_,fun c o u' e=>?_,fun c ps e=>?_⟩,I1.loc,I1.cell,?_,fun y c e=>?_,fun p hq=>?_,fun c u' e=>?_,I1.len⟩
      · rw [upd_ne (Nat.ne_of_lt (Nat.lt_of_lt_of_le (Heap.lt_size e) I.sz))];exact I1.base.free c o e nn hx
      · have q:=I1.base.tups c zs e
        rw [upd_ne (ne_of_none q hfr)];exact q
      · have q:=I1.base.frzs c o u' e
        rw [upd_ne (ne_of_none q hfr)];exact q
      · obtain ⟨more,q⟩:=I1.base.tbls c ps e
        exact ⟨more,by rw [upd_ne (ne_of_none q hfr)];exact q⟩
      · rw [upd_ne (Ne.symm fD.2.1)];exact I1.free
      · rw [upd_ne (fD.2.2.2.2.1 y c e)];exact I1.freeC y c e
      · obtain ⟨q1,q2,q3,q4,q5⟩:=I1.pin p hq
        exact ⟨q1,by rw [upd_ne (fD.2.2.2.2.2 p hq)];exact q2,q3,q4,q5⟩
      · by_cases hc':c=s.heap.objs.size
        · subst hc'
          rw [upd_same] at e;cases e
          exact ⟨by show 2≤sizeLine;decide,[u,v],.cons ru (.cons rv .nil),⟨_,ht2,rfl,_,rfl⟩⟩
        · rw [upd_ne hc'] at e
          exact (I1.hok c u' e).stay (fun _ _ _ q=>q) (fun d q=>by rw [upd_ne (ne_of_none q hfr)];exact q) fun d zs q=>by rw [upd_ne (ne_of_none q hfr)];exact q
    refine ⟨.ref s.heap.objs.size,_,I2,rfl,⟨_,_,_,rfl,hfr,rfl,fun zs hz=>by rw [I.list_inj hz hx];exact List.getElem?_eq_getElem hxl,fun zs hz=>by rw [I.list_inj hz hy];exact List.getElem?_eq_getElem hyl⟩,?_,fun c hc=>?_⟩
    · exact ⟨hz2,hs2.extBut _ _ D.TIz (hk _ _ D.TIz D.TITO D.TIi1 D.TIi2 s2),⟨_,_,hs2.extBut _ _ D.TOz a2⟩,a3.extBut hs2.extBut D.i1z,a4.extBut hs2.extBut D.i2z⟩
    · have hc2:=(hf c hc).1
      have hlt:c≠s.heap.objs.size:=by
        simp only [List.mem_cons,List.not_mem_nil,or_false] at hc
        exact ne4 lt4 hc
      rw [upd_ne hlt];exact hc2
  done:=by
    intro X hP hw hK hc i pins s σ H E I hf st hg
    subst hP hw hK
    obtain ⟨xs,ys,hx,hy,hend⟩:=hg
    obtain ⟨s1,s2,⟨u0,v0,s3⟩,s4,s5⟩:=st
    obtain ⟨ix,rx,px,_⟩:=I.list hx
    obtain ⟨iy,ry,py,_⟩:=I.list hy
    have lx:=rx.length
    have ly:=ry.length
    have D:=zipApart_new ha hb
    refine wpAny_pyNext_zip_end (I.ok.hd hc) D s1 s2 s3 s4 s5 px.isList py.isList (by rcases hend with z | z;exact .inl (by simp;omega);exact .inr (by simp;omega)) fun h' hk=>⟨rfl,?_⟩
    have keepO:∀c o,c∉[m+4,m+2,m+3,m,m+1]→s.heap.get? c=some o→h'.get? c=some o:=fun c o hc e=>by
      simp only [List.mem_cons,List.not_mem_nil,or_false,not_or] at hc
      exact hk c o hc.1 hc.2.2.1 hc.2.2.2.1 hc.2.2.2.2 e
    refine I.step (g':=s.gens) (d':=s.drawn) (t':=s.toks) (ch:=[m+4,m+2,m+3,m,m+1]) (fun c hc=>?_) (fun c o _ _ hc e _=>keepO c o hc e) (fun c o _ _ hc e _=>⟨o.slots,keepO c o hc e⟩) (fun _ _ _ _ nn=>nn)
      (fun c o hc e=>⟨o,keepO c o hc e⟩) (fun _ _ e=>e) (fun _ _ _ e=>e) (fun c ps e=>⟨#[],by rw [e];simp⟩) (fun mm hm=>?_) (fun c o e=>?_) I.bare
    · obtain ⟨f0,f1,f2,f3,f4,f5⟩:=hf c hc
      exact ⟨f3,f1,f4,f5⟩
    · obtain ⟨o,es,ep,ho,r⟩:=hm
      exact ⟨o,es,ep,keepO _ o (fun z=>(hf _ z).2.1 rfl) ho,r⟩
    · have nin:∀d u',H d=some u'→d∉[m+4,m+2,m+3,m,m+1]:=fun d u' q z=>by have:=(hf d z).1;rw [q] at this;cases this
      refine (I.hok c o e).stay (fun d v' hd q=>keepO d v' ?_ q) (fun _ q=>q) fun _ _ q=>q
      rcases hd with z | z
      · rw [z];exact nin c o e
      · exact nin d _ z
  self:=fun _ _ _ _ _ st h=>wpAny_pyIter_zip st.1 h
end L2
namespace L2
open PySem PySem.Spec PyProof.Rows
theorem boot_zipX:bootBuiltins "zip" = some (.type "zip"):=by decide +kernel
theorem boot_enumX:bootBuiltins "enumerate" = some (.type "enumerate"):=by decide +kernel
section
variable {X:Cx} {tg:Expr}
def iZip (K:PySem.W.Frag) (ta:TA):TI:=fun σ H R=>ta σ H fun vs H1=>∃a b xs ys,vs=[.ref a,.ref b]∧SqL K H1 a xs∧SqL K H1 b ys∧R (Itz K a b) H1
theorem pi_zip {e e':Expr} {ta:TA} {p pos tpos:Pos} {elts:List Expr} {k:Nat} (hg:Gl X "zip") (hm:X.mg "zip" = none) (ha:PA X [e,e'] ta) (hs:starEach [e,e'] X.env=[(false,eval e X.env),(false,eval e' X.env)]:=by rfl) (hs2:starEach [e'] X.env=[(false,eval e' X.env)]:=by rfl) :
    PI X (.Tuple elts k tpos) (.Call (.Name "zip" p) [e,e'] [] pos) (iZip X.K ta):=by
  intro pins s σ H R I h
  refine Call_ (ld_blt I hg hm boot_zipX (PyProof.Rows.callWith_type1 (thn (ha pos pins s σ H _ I h) fun us s1 ⟨vs,H1,I1,r1,q1⟩=>?_) (by rw [hs,hs2]) (by rw [hs2];rfl)))
  obtain ⟨a,b,xs,ys,e,hx,hy,q⟩:=q1
  subst e
  cases r1 with
  | cons r rr =>
    cases rr with
    | cons r' rr =>
      cases rr
      cases r
      cases r'
      obtain ⟨ix,rx,px,_⟩:=I1.list hx
      obtain ⟨iy,ry,py,_⟩:=I1.list hy
      have la:a<s1.heap.objs.size:=by obtain ⟨o,ho,_⟩:=px.isList;exact Heap.lt_size ho
      have lb:b<s1.heap.objs.size:=by obtain ⟨o,ho,_⟩:=py.isList;exact Heap.lt_size ho
      refine call_zip_2 px.isList py.isList fun h' hz hTI hTO hi1 hi2 hsz hk=>wpAny_pyIter_zip (s:={ s1 with heap:=h' }) hz ?_
      refine ⟨s1.heap.objs.size+4,[s1.heap.objs.size+4,s1.heap.objs.size+2,s1.heap.objs.size+3,s1.heap.objs.size,s1.heap.objs.size+1],_,_,H1,rfl,I1.kept (t':=s1.toks) hk,turn_zip a b s1.heap.objs.size la lb,⟨hz,hTI,⟨_,_,hTO⟩,hi1,hi2⟩,fun c hc=>?_,q⟩
      have hle:s1.heap.objs.size≤c:=by
        simp only [List.mem_cons,List.not_mem_nil,or_false] at hc
        exact le4 hc
      exact I1.fpOk hle (I1.hok.fresh hle)
end
def Ite (K:PySem.W.Frag) (a:Addr):It :=
  ⟨fun i H=>∃xs,SqL K H a xs∧i<xs.length,
   fun i H x H'=>∃p u,x=.ref p∧H p=none∧H'=upd H p (.tup [.int i,u])∧∀xs,SqL K H a xs→xs[i]?=some u,
   fun i H=>∃xs,SqL K H a xs∧xs.length≤i⟩
theorem turn_enum {P:Program} {w:World} {K:PySem.W.Frag} {elts:List Expr} {k:Nat} {tpos:Pos} (a m:Addr) (ha:a<m) :
    Turn P w K (.Tuple elts k tpos) (Ite K a) [m+1,m] (m+1) (fun i h=>(∃old,IsEnum h (m+1) m (i:Nat) old)∧h.IsListIter m a i) where
  mem:=by simp
  obj:=fun i h st c hc=>by
    obtain ⟨⟨old,s1⟩,⟨o4,e4,c4,d4⟩⟩:=st
    simp only [List.mem_cons,List.not_mem_nil,or_false] at hc
    rcases hc with rfl | rfl
    · exact ⟨_,s1,fun v z=>by cases z⟩
    · exact ⟨_,e4,fun v z=>by rw [d4] at z;cases z⟩
  keep:=fun i h h' st kk=>by
    obtain ⟨⟨old,s1⟩,s4⟩:=st
    exact ⟨⟨old,kk _ (by simp) _ s1⟩,s4.at fun o e=>kk _ (by simp) o e⟩
  item:=by
    intro X hP hw hK hc i pins s σ H E I hf st hg
    subst hP hw hK
    obtain ⟨xs,hx,hxl⟩:=hg
    obtain ⟨⟨old,s1⟩,s4⟩:=st
    obtain ⟨ix,rx,px,_⟩:=I.list hx
    obtain ⟨u,hu,ru⟩:=rx.get (List.getElem?_eq_getElem hxl)
    have hne:m+1≠m:=Nat.succ_ne_self m
    refine wpAny_pyNext_enum_item s1 s4 px.isList (x:=u) (by simpa using hu) hne fun h' a1 a3 a5 a6 hk=>?_
    refine ⟨_,rfl,wpAny_letOwnedTupleGo_enum (s:={ s with heap:=h',toks:=s.toks+1 }) a1 fun h2 hz2 hs2=>?_⟩
    replace hs2:Heap.SameBut (m+1) h' h2:=hs2
    have lt4:m+1<s.heap.objs.size:=Heap.lt_size s1
    have keepO:∀c o,c∉[m+1,m]→s.heap.get? c=some o→h2.get? c=some o:=fun c o hc e=>by
      simp only [List.mem_cons,List.not_mem_nil,or_false,not_or] at hc
      exact hs2.extBut c o hc.1 (hk c o hc.1 hc.2 e)
    have I1:Inv X pins σ H { s with heap:=h2,toks:=s.toks+1 }:=by
      refine I.step (g':=s.gens) (d':=s.drawn) (t':=s.toks+1) (ch:=[m+1,m]) (fun c hc=>?_) (fun c o _ _ hc e _=>keepO c o hc e) (fun c o _ _ hc e _=>⟨o.slots,keepO c o hc e⟩) (fun _ _ _ _ nn=>nn)
        (fun c o hc e=>⟨o,keepO c o hc e⟩) (fun _ _ e=>e) (fun _ _ _ e=>e) (fun c ps e=>⟨#[],by rw [e];simp⟩) (fun mm hm=>?_) (fun c o e=>?_) I.bare
      · obtain ⟨f0,f1,f2,f3,f4,f5⟩:=hf c hc
        exact ⟨f3,f1,f4,f5⟩
      · obtain ⟨o,es,ep,ho,r⟩:=hm
        exact ⟨o,es,ep,keepO _ o (fun z=>(hf _ z).2.1 rfl) ho,r⟩
      · have nin:∀d u',H d=some u'→d∉[m+1,m]:=fun d u' q z=>by have:=(hf d z).1;rw [q] at this;cases this
        refine (I.hok c o e).stay (fun d v' hd q=>keepO d v' ?_ q) (fun _ q=>q) fun _ _ q=>q
        rcases hd with z | z
        · rw [z];exact nin c o e
        · exact nin d _ z
    have hfr:H s.heap.objs.size=none:=I.hok.fresh (Nat.le_refl _)
    have ht2:h2.get? s.heap.objs.size=some { cls:=.type "tuple",data:=.seq #[.int i s.toks,u] }:=hs2.extBut _ _ (Nat.ne_of_gt lt4) a5
    have I2:Inv X pins σ (upd H s.heap.objs.size (.tup [.int i,xs[i]])) { s with heap:=h2,toks:=s.toks+1 }:=by
      have fD:FpOk X pins H s.heap.objs.size:=I.fpOk (Nat.le_refl _) hfr
      refine ⟨I1.ok,I1.os,I1.bare,⟨I1.base.keep,I1.base.slot,fun c o e nn hx=>?_,I1.base.there,fun c zs e=>?_,fun c o u' e=>?_,fun c ps e=>?_⟩,I1.loc,I1.cell,?_,fun y c e=>?_,fun p hq=>?_,fun c u' e=>?_,I1.len⟩
      · rw [upd_ne (Nat.ne_of_lt (Nat.lt_of_lt_of_le (Heap.lt_size e) I.sz))];exact I1.base.free c o e nn hx
      · have q:=I1.base.tups c zs e
        rw [upd_ne (ne_of_none q hfr)];exact q
      · have q:=I1.base.frzs c o u' e
        rw [upd_ne (ne_of_none q hfr)];exact q
      · obtain ⟨more,q⟩:=I1.base.tbls c ps e
        exact ⟨more,by rw [upd_ne (ne_of_none q hfr)];exact q⟩
      · rw [upd_ne (Ne.symm fD.2.1)];exact I1.free
      · rw [upd_ne (fD.2.2.2.2.1 y c e)];exact I1.freeC y c e
      · obtain ⟨q1,q2,q3,q4,q5⟩:=I1.pin p hq
        exact ⟨q1,by rw [upd_ne (fD.2.2.2.2.2 p hq)];exact q2,q3,q4,q5⟩
      · by_cases hc':c=s.heap.objs.size
        · subst hc'
          rw [upd_same] at e;cases e
          exact ⟨by show 2≤sizeLine;decide,[.int i s.toks,u],.cons ⟨_,rfl⟩ (.cons ru .nil),⟨_,ht2,rfl,_,rfl⟩⟩
        · rw [upd_ne hc'] at e
          exact (I1.hok c u' e).stay (fun _ _ _ q=>q) (fun d q=>by rw [upd_ne (ne_of_none q hfr)];exact q) fun d zs q=>by rw [upd_ne (ne_of_none q hfr)];exact q
    refine ⟨.ref s.heap.objs.size,_,I2,rfl,⟨_,_,rfl,hfr,rfl,fun zs hz=>by rw [I.list_inj hz hx];exact List.getElem?_eq_getElem hxl⟩,?_,fun c hc=>?_⟩
    · refine ⟨⟨u,?_⟩,a3.extBut hs2.extBut (Ne.symm hne)⟩
      have e1:((i+1:Nat):Int)=(i:Int)+1:=by push_cast;rfl
      rw [e1];exact hz2
    · have hc2:=(hf c hc).1
      have hlt:c≠s.heap.objs.size:=by
        simp only [List.mem_cons,List.not_mem_nil,or_false] at hc
        exact ne1 lt4 hc
      rw [upd_ne hlt];exact hc2
  done:=by
    intro X hP hw hK hc i pins s σ H E I hf st hg
    subst hP hw hK
    obtain ⟨xs,hx,hend⟩:=hg
    obtain ⟨⟨old,s1⟩,s4⟩:=st
    obtain ⟨ix,rx,px,_⟩:=I.list hx
    have lx:=rx.length
    refine wpAny_pyNext_enum_end (I.ok.hd hc) s1 s4 px.isList (by simp;omega) fun h' hk=>⟨rfl,?_⟩
    have keepO:∀c o,c∉[m+1,m]→s.heap.get? c=some o→h'.get? c=some o:=fun c o hc e=>by
      simp only [List.mem_cons,List.not_mem_nil,or_false,not_or] at hc
      exact hk c o hc.2 e
    refine I.step (g':=s.gens) (d':=s.drawn) (t':=s.toks) (ch:=[m+1,m]) (fun c hc=>?_) (fun c o _ _ hc e _=>keepO c o hc e) (fun c o _ _ hc e _=>⟨o.slots,keepO c o hc e⟩) (fun _ _ _ _ nn=>nn)
      (fun c o hc e=>⟨o,keepO c o hc e⟩) (fun _ _ e=>e) (fun _ _ _ e=>e) (fun c ps e=>⟨#[],by rw [e];simp⟩) (fun mm hm=>?_) (fun c o e=>?_) I.bare
    · obtain ⟨f0,f1,f2,f3,f4,f5⟩:=hf c hc
      exact ⟨f3,f1,f4,f5⟩
    · obtain ⟨o,es,ep,ho,r⟩:=hm
      exact ⟨o,es,ep,keepO _ o (fun z=>(hf _ z).2.1 rfl) ho,r⟩
    · have nin:∀d u',H d=some u'→d∉[m+1,m]:=fun d u' q z=>by have:=(hf d z).1;rw [q] at this;cases this
      refine (I.hok c o e).stay (fun d v' hd q=>keepO d v' ?_ q) (fun _ q=>q) fun _ _ q=>q
      rcases hd with z | z
      · rw [z];exact nin c o e
      · exact nin d _ z
  self:=fun _ _ _ _ _ st h=>let ⟨⟨_,s1⟩,_⟩:=st;wpAny_pyIter_enum s1 h
section
variable {X:Cx} {tg:Expr}
def iEnum (K:PySem.W.Frag) (ta:TA):TI:=fun σ H R=>ta σ H fun vs H1=>∃a xs,vs=[.ref a]∧SqL K H1 a xs∧R (Ite K a) H1
theorem pi_enum {e:Expr} {ta:TA} {p pos tpos:Pos} {elts:List Expr} {k:Nat} (hg:Gl X "enumerate") (hm:X.mg "enumerate" = none) (ha:PA X [e] ta) (hs:starEach [e] X.env=[(false,eval e X.env)]:=by rfl) :
    PI X (.Tuple elts k tpos) (.Call (.Name "enumerate" p) [e] [] pos) (iEnum X.K ta):=by
  intro pins s σ H R I h
  refine Call_ (ld_blt I hg hm boot_enumX (PyProof.Rows.callWith_type1 (thn (ha pos pins s σ H _ I h) fun us s1 ⟨vs,H1,I1,r1,q1⟩=>?_) hs rfl))
  obtain ⟨a,xs,e,hx,q⟩:=q1
  subst e
  cases r1 with
  | cons r rr =>
    cases rr
    cases r
    obtain ⟨ix,rx,px,_⟩:=I1.list hx
    have la:a<s1.heap.objs.size:=by obtain ⟨o,ho,_⟩:=px.isList;exact Heap.lt_size ho
    refine call_enumerate_list px.isList fun h' he hit hsz hk=>wpAny_pyIter_enum (s:={ s1 with heap:=h' }) he ?_
    refine ⟨s1.heap.objs.size+1,[s1.heap.objs.size+1,s1.heap.objs.size],_,_,H1,rfl,I1.kept (t':=s1.toks) hk,turn_enum a s1.heap.objs.size la,⟨⟨_,he⟩,hit⟩,fun c hc=>?_,q⟩
    have hle:s1.heap.objs.size≤c:=by
      simp only [List.mem_cons,List.not_mem_nil,or_false] at hc
      exact le1 hc
    exact I1.fpOk hle (I1.hok.fresh hle)
end
def Itd (hi:Int) (n:Nat):It:=⟨fun i _=>i<n,fun i H x H'=>H'=H∧x=.int (hi - i),fun i _=>n≤i⟩
theorem turn_down {P:Program} {w:World} {K:PySem.W.Frag} {tg:Expr} (it:Addr) (hi:Int) (n:Nat):Turn P w K tg (Itd hi n) [it] it (fun i h=>IsRangeIter h it (hi+(i:Nat)*(-1)) ((n:Int) - (i:Nat)) (-1)) where
  mem:=by simp
  obj:=fun i h st b hb=>by
    have e:b=it:=by simpa using hb
    subst e
    exact ⟨_,st,fun v z=>by
      have z':Data.fields _=Data.cell v:=z
      cases z'⟩
  keep:=fun i h h' st k=>k it (by simp) _ st
  item:=by
    intro X hP hw hK hc i pins s σ H E I hf st hg
    subst hP hw hK
    obtain ⟨f0,f1,f2,f3,f4,f5⟩:=hf it (by simp)
    have W:=Walks.range (prog:=X.prog) (w:=X.w) (I.ok.hd hc) it hi (-1) n
    refine W.item i s _ _ hg st fun v h' tk hv st' kk=>?_
    obtain ⟨t,rfl⟩:=hv
    have I1:Inv X pins σ H { s with heap:=h',toks:=tk }:=I.turned (fun b o hb e=>kk b o (by simpa using hb) e) f0 f1 f3 f4 f5
    refine ⟨_,rfl,go_of (s:={ s with heap:=h',toks:=tk }) (n := "range_iterator") st' rfl rfl (by decide) ⟨.int (hi - i),H,I1,⟨t,?_⟩,⟨rfl,rfl⟩,st',fun b hb=>(hf b hb).1⟩⟩
    have e:hi+(i:Int)*(-1)=hi - i:=by omega
    rw [e]
  done:=by
    intro X hP hw hK hc i pins s σ H E I hf st hg
    subst hP hw hK
    obtain ⟨f0,f1,f2,f3,f4,f5⟩:=hf it (by simp)
    exact wpAny_pyNext_range_end (I.ok.hd hc) st (by have:n≤i:=hg;omega) fun h' eb=>⟨rfl,I.turned (t':=s.toks) (fun b o hb e=>eb b o hb e) f0 f1 f3 f4 f5⟩
  self:=fun _ _ _ _ _ st h=>wpAny_pyIter_rangeiter st h
theorem size_down {a b:Int}:Builtin.Range.rangeSize a b (-1)=(((a - b).toNat:Nat):Int):=by
  unfold Builtin.Range.rangeSize
  rw [if_neg (by decide)]
  split
  · have:(a - b - 1) / (- -1)=a - b - 1:=by simp
    rw [this];omega
  · omega
theorem small_down {a b:Int} (ha:-(2^62)≤a) (ha':a<2^62) (hb:-(2^62)≤b) (hb':b<2^62):Builtin.Range.small a b (-1)=true:=by
  unfold Builtin.Range.small
  rw [size_down]
  have e:(((a - b).toNat:Nat):Int)≤2^63 - 1:=by omega
  simp only [Builtin.Range.rangeFitsLong,Bool.and_eq_true,Bool.or_eq_true,decide_eq_true_eq,beq_iff_eq]
  refine ⟨⟨⟨⟨⟨by omega,by omega⟩,by omega,by omega⟩,by omega,by omega⟩,by omega,by omega⟩,.inr ?_⟩
  rw [if_neg (by decide)]
  simp only [Bool.and_eq_true,decide_eq_true_eq]
  omega
section
variable {X:Cx} {tg:Expr}
def iRngD (ta:TA):TI:=fun σ H R=>ta σ H fun vs H1=>∃i j:Int,vs=[.int i,.int j,.int (-1)]∧(-(2^62)≤i∧i<2^62∧-(2^62)≤j∧j<2^62)∧R (Itd i (i - j).toNat) H1
theorem pi_rangeD {a b c:Expr} {ta:TA} {p pos:Pos} (hg:Gl X "range") (hm:X.mg "range" = none) (ha:PA X [a,b,c] ta) (hs:starEach [a,b,c] X.env=[(false,eval a X.env),(false,eval b X.env),(false,eval c X.env)]:=by rfl) (hs2:starEach [b,c] X.env=[(false,eval b X.env),(false,eval c X.env)]:=by rfl) :
    PI X tg (.Call (.Name "range" p) [a,b,c] [] pos) (iRngD ta):=by
  intro pins s σ H R I h
  refine Call_ (ld_blt I hg hm boot_range (PyProof.Rows.callWith_type1 (thn (ha pos pins s σ H _ I h) fun us s1 ⟨vs,H1,I1,r1,q1⟩=>?_) (by rw [hs,hs2]) (by rw [hs2];rfl)))
  obtain ⟨i,j,e,⟨q1,q2,q3,q4⟩,q⟩:=q1
  subst e
  cases r1 with
  | cons r rr =>
    cases rr with
    | cons r' rr =>
      cases rr with
      | cons r'' rr =>
        cases rr
        obtain ⟨t,rfl⟩:=r
        obtain ⟨t',rfl⟩:=r'
        obtain ⟨t'',rfl⟩:=r''
        refine call_range_3 (by decide) ?_ (Or.inl (PyProof.noPylong_small (by decide)))
        refine wpAny_pyIter_range (IsRange.new ..) (small_down q1 q2 q3 q4) ?_
        have I2:Inv X pins σ H1 { s1 with heap:=s1.heap.push { cls:=.type "range",data:=.fields #[.int i t,.int j t',.int (-1) t''] },toks:=s1.toks }:=I1.kept fun b o e=>Heap.get?_push_of_some _ e
        refine ⟨(s1.heap.push { cls:=.type "range",data:=.fields #[.int i t,.int j t',.int (-1) t''] }).objs.size,[(s1.heap.push { cls:=.type "range",data:=.fields #[.int i t,.int j t',.int (-1) t''] }).objs.size],_,_,H1,rfl,
          I2.kept (t':=s1.toks) fun b o e=>Heap.get?_push_of_some _ e,turn_down _ i (i - j).toNat,?_,fun b hb=>?_,q⟩
        · have e1:i+((0:Nat):Int)*(-1)=i:=by simp
          have e2:(((i - j).toNat:Nat):Int) - ((0:Nat):Int)=Builtin.Range.rangeSize i j (-1):=by rw [size_down];simp
          show IsRangeIter _ _ (i+((0:Nat):Int)*(-1)) ((((i - j).toNat:Nat):Int) - ((0:Nat):Int)) (-1)
          rw [e1,e2]
          exact Heap.get?_push_size _ rfl
        · have e:b=(s1.heap.push { cls:=.type "range",data:=.fields #[.int i t,.int j t',.int (-1) t''] }).objs.size:=by simpa using hb
          subst e
          exact I2.fpOk (Nat.le_refl _) (I2.hok.fresh (Nat.le_refl _))
end
theorem for_down {hi:Int} {n:Nat} {g:TG} {tb:TS} {D:Ends} {σ:St} {H:Hp} (Pv:Nat→St→Hp→Prop) (h0:Pv 0 σ H)
    (hs:∀i σ H,i<n→Pv i σ H→g (.int (hi - i)) σ H fun σ2 H2=>tb { D with nx:=Pv (i+1),ct:=Pv (i+1),bk:=D.nx } σ2 H2) (hd:∀σ H,Pv n σ H→D.nx σ H) :
    ∃W:Nat→Nat→St→Hp→Prop,(∃m,W 0 m σ H)∧∀i m σ H,W i m σ H →
      ((Itd hi n).stop i H∧D.nx σ H)∨((Itd hi n).go i H∧∃N:St→Hp→Prop,(∀σ' H',N σ' H'→∃m',m'<m∧W (i+1) m' σ' H')∧∀x H',(Itd hi n).yld i H x H'→g x σ H' fun σ2 H2=>tb { D with nx:=N,ct:=N,bk:=D.nx } σ2 H2):=by
  refine ⟨fun i m σ H=>m=n - i∧i≤n∧Pv i σ H,⟨n,by simp,Nat.zero_le _,h0⟩,?_⟩
  rintro i m σ H ⟨rfl,hi,p⟩
  by_cases hlt:i<n
  · refine .inr ⟨hlt,Pv (i+1),fun σ' H' p'=>⟨n - (i+1),by omega,rfl,hlt,p'⟩,fun x H' y=>?_⟩
    obtain ⟨e,y⟩:=y
    subst e y
    exact hs i σ _ hlt p
  · have e:i=n:=by omega
    subst e
    exact .inl ⟨Nat.le_refl _,hd σ H p⟩
inductive TyN (H:Hp):V→String→Prop where
  | non:TyN H .non "NoneType"
  | bl (x:Bool):TyN H (.bl x) "bool"
  | int (i:Int):TyN H (.int i) "int"
  | str (x:Str):TyN H (.str x) "str"
  | lst {a:Addr} {xs:List V} (e:H a=some (.lst xs)):TyN H (.ref a) "list"
  | tup {a:Addr} {xs:List V} (e:H a=some (.tup xs)):TyN H (.ref a) "tuple"
theorem TyN.of {H:Hp} {x:V} {n:String} (K:PySem.W.Frag) (t:TyN H x n):TyOf K H x (.type n):=by
  cases t with
  | non=>exact .non
  | bl x=>exact .bl x
  | int i=>exact .int i
  | str x=>exact .str x
  | lst e=>exact .lst e
  | tup e=>exact .tup e
def isiB (n T:String):Bool:=n == T||(n == "bool" && T == "int")
theorem kit_of (K:PySem.W.Frag) {n T:String} (hn:n∈["NoneType","bool","int","str","list","tuple"]) (hT:T∈["bool","int","str","list","tuple"]):PySem.W.kitOne K (.type n) (.type T)=some (isiB n T):=by
  simp only [List.mem_cons,List.not_mem_nil,or_false] at hn hT
  rcases hn with rfl | rfl | rfl | rfl | rfl | rfl <;> rcases hT with rfl | rfl | rfl | rfl | rfl <;> kernel_rfl
theorem TyN.mem {H:Hp} {x:V} {n:String} (t:TyN H x n):n∈["NoneType","bool","int","str","list","tuple"]:=by
  cases t <;> simp
section
variable {X:Cx}
def rIsi:List V→Hp→VK→Prop:=fun xs H Q=>∃x n T,xs=[x,.ty T]∧TyN H x n∧T∈["bool","int","str","list","tuple"]∧Q (.bl (isiB n T)) H
theorem call_isi:CallR X (.builtin "isinstance") rIsi:=by
  intro pins s σ H xs us Q I rv h
  obtain ⟨x,n,T,rfl,t,hT,q⟩:=h
  obtain ⟨u,v,rfl,ru,rv⟩:=vals2 rv
  cases (show v=Value.type T from rv)
  exact isinst_ok I ru (t.of X.K) (kit_of X.K t.mem hT) fun tk=>⟨.bl _,H,I.tok tk,rfl,q⟩
end
theorem CompScope.mk' {X:Cx} {scope:Scope} {N:List Str} {cap:List Nat} {k:Nat} (fs:Scope) (XN:List Str) (hfs:X.env.scope=fs) (hXN:X.N=XN)
    (h:(scope.kind=.function∧(∀y∈scope.names,y.2≠.cell)∧(∀y∈scope.names,y.2=.free→fs.names.lookup y.1=some .cell∨fs.names.lookup y.1=some .free)∧(∀y∈scope.names,y.2=.local→scope.names.lookup y.1=some .local) ∧
      (∀x∈N.take cap.length,scope.names.lookup x=some .free)∧cap.map (fun i=>XN[i]?)=(N.take cap.length).map some∧N.length=cap.length+k)):CompScope X scope N cap k:=by
  subst hfs hXN
  exact ⟨h.1,h.2.1,h.2.2.1,h.2.2.2.1,h.2.2.2.2.1,h.2.2.2.2.2.1,h.2.2.2.2.2.2⟩
def relabelS (scope fs:Scope):Scope :=
  { scope with names:=scope.names.map fun (n,k)=>if (k == .free&&fs.kind == .function&&fs.names.lookup n == some .cell) then (n,.cell) else (n,k) }
def IsRow (H:Hp) (r:Addr) (row:List Int):Prop:=H r=some (.lst (row.map V.int))
def IsRows (H:Hp):List Addr→List (List Int)→Prop:=Paired (IsRow H)
def IsTab (H:Hp) (a:Addr) (rs:List Addr) (T:List (List Int)):Prop:=H a=some (.lst (rs.map V.ref))∧IsRows H rs T
def datT (T:List (List Int)):PyData:=.list (T.map fun r=>.list (r.map .int))
theorem shaped_T (T:List (List Int)):SeqAt.shaped (datT T)=true:=by
  have h1:∀T:List (List Int),PyData.canLayAll0 (T.map fun r=>PyData.list (r.map .int))=true:=fun T=>by
    induction T with
    | nil=>rfl
    | cons r T ih=>simp [PyData.canLayAll0,PyData.canLay0,PySem.W.ke_canLayAll0,ih]
  have h2:∀T:List (List Int),PyData.depthAll (T.map fun r=>PyData.list (r.map .int))≤1:=fun T=>by
    induction T with
    | nil=>exact Nat.zero_le _
    | cons r T ih=>simp [PyData.depthAll,PyData.depth,PySem.W.ke_depthAll];omega
  have:=h2 T
  simp [SeqAt.shaped,datT,PyData.canLay0,PyData.depth,h1]
  omega
theorem eqv_T:∀T U:List (List Int),PyData.eqvAll (T.map fun r=>PyData.list (r.map .int)) (U.map fun r=>PyData.list (r.map .int))=decide (T=U)
  | [],[]=>by simp [PyData.eqvAll]
  | [],_::_=>by simp [PyData.eqvAll]
  | _::_,[]=>by simp [PyData.eqvAll]
  | a::r,b::t=>by
    simp only [List.map_cons,PyData.eqvAll,PyData.eqv,PySem.W.ked_eqvAll,eqv_T r t]
    by_cases h:a=b <;> by_cases h':r=t <;> simp [h,h']
section
variable {X:Cx} {pins:List (Addr×Obj)} {σ:St} {H:Hp} {s:Shared}
theorem reads_row (I:Inv X pins σ H s) {r:Addr} {row:List Int} (h:IsRow H r row):Reads s.heap (.ref r) (.list (row.map .int)) [r]:=by
  obtain ⟨_,its,n,rv,e⟩:=(show ObjOk X.prog X.w H s.heap r (.lst (row.map V.int)) from I.hok r _ h)
  have hi:=intsAre_of rv
  have all:∀{vs:List Value} {ns:List Int},IntsAre vs ns→ReadsAll s.heap vs (ns.map .int) []:=fun {vs ns} hi=>by
    induction hi with
    | nil=>exact .nil
    | cons i t _ ih=>exact .cons (.int _ _) ih
  exact .list e rfl rfl (all hi)
theorem reads_rows (I:Inv X pins σ H s):∀{rs:List Addr} {T:List (List Int)},IsRows H rs T→ReadsAll s.heap (rs.map Value.ref) (T.map fun r=>.list (r.map .int)) rs
  | _,_,.nil=>.nil
  | _,_,.cons h t=>.cons (reads_row I h) (reads_rows I t)
theorem vals_ref:∀{rs:List Addr} {us:List Value},Vals (rs.map V.ref) us→us=rs.map Value.ref
  | [],_,.nil=>rfl
  | _::_,_,.cons r t=>by rw [vals_ref t];cases r;rfl
theorem reads_tab (I:Inv X pins σ H s) {a:Addr} {rs:List Addr} {T:List (List Int)} (h:IsTab H a rs T):Reads s.heap (.ref a) (datT T) (a::rs):=by
  obtain ⟨_,its,n,rv,e⟩:=(show ObjOk X.prog X.w H s.heap a (.lst (rs.map V.ref)) from I.hok a _ h.1)
  have:=vals_ref rv
  subst this
  exact .list e rfl rfl (reads_rows I h.2)
def rNeT:R2:=fun x y H Q=>∃a b rs qs T U,x=.ref a∧y=.ref b∧IsTab H a rs T∧IsTab H b qs U∧Q (.bl (!decide (T=U))) H
theorem op_neT (hu:X.A.units+64<cLine):OpR X (compareOp .NotEq) rNeT:=by
  intro pins s σ H x y v u Q I rx ry h
  obtain ⟨a,b,rs,qs,T,U,rfl,rfl,ha,hb,q⟩:=h
  cases rx
  cases ry
  refine ne_dataH (reads_tab I ha) (reads_tab I hb) (shaped_T T) (shaped_T U) hu ?_
  refine ⟨.bl (!decide (T=U)),H,I,?_,q⟩
  show Value.bool (!(PyData.eqvAll _ _))=_
  rw [eqv_T]
end
end L2
namespace L2
open PySem PySem.Spec PyProof.Rows
structure Callee (P:Program) (w:World) (K:PySem.W.Frag) (mg:Str→Option Value) (base:Heap) (k:Nat) (x:Str) (ps:List Str) (sp:Sp):Prop where
  ex:∃(f:Addr) (fd:FuncData),FnOk P w K mg base CX0 k f fd ps sp∧mg x=some (.ref f)∧PySem.W.keepIn K (.ref f)=true∧Binds K fd ps []∧∃(oc:Value) (od:Option Addr) (osl:Array (Option Value)),K.lookup f=some ⟨oc,od,.func fd,osl⟩
theorem pe_callC {X:Cx} {k:Nat} {x:Str} {ps:List Str} {sp:Sp} {p pos:Pos} {e:Expr} {es:List Expr} {t:TA} (C:Callee X.prog X.w X.K X.mg X.base k x ps sp) (hr:Room k X.A) (hg:Gl X x) (ha:PA X (e::es) t)
    (hdb:(x == ("__debug__" : Str))=false:=by decide) (he:starEach (e::es) X.env=(false,eval e X.env)::starEach es X.env:=by rfl) (hpl:(backTo pos (starEach es X.env)).any (·.1)=false:=by rfl) :
    PE X (.Call (.Name x p) (e::es) [] pos) (tCall sp [] E0 t):=by
  obtain ⟨f,fd,F,hm,hk,hb,_⟩:=C.ex
  exact pe_call F hr hg hm hk hb .nil pass0 ha hdb he hpl
structure DefAt (K:PySem.W.Frag) (mg:Str→Option Value) (x:Str) (st:Stmt) (ps:List Str):Prop where
  ex:∃(f:Addr) (fd:FuncData),Fun K x x st f fd∧mg x=some (.ref f)∧Binds K fd ps []
theorem DefAt.ok {P:Program} {w:World} {K:PySem.W.Frag} {mg:Str→Option Value} {base:Heap} {x:Str} {st:Stmt} {N ps:List Str} {k:Nat} {sp:Sp} (D:DefAt K mg x st ps) (S:FnScope N ps (defScope st)) (len:∀vs H Q E,sp vs H Q E→vs.length=ps.length)
    (hbody:∀(f:Addr) (cdv:Value) (A:Around) (outer:List Env) (s:Shared) (H:Hp) (vs:List V) (Q:VK) (E:XK),Room k (A.deeper (envOfC x (defScope st) s.heap.objs.size f cdv))→sp vs H Q E →
      ∃t,PSs (cxOf CX0 P w K mg base N x (defScope st) f cdv A outer s H E).nox (defBody st) t∧t { nx:=fun _ H'=>Q .non H',rt:=Q } (start N vs) H):Callee P w K mg base (k+1) x ps sp:=by
  obtain ⟨f,fd,F,hm,hb⟩:=D.ex
  obtain ⟨oc,od,_,_,_,_,_,_,osl,_,lk,_⟩:=F.ex
  exact ⟨f,fd,F.ok S len (hbody f),hm,F.kp,hb,oc,od,osl,lk⟩
theorem def_mk {K:PySem.W.Frag} {h:Heap} {mg:Str→Option Value} (X:K.In h) (G:h.Ns mainGlobals mg) {x:Str} {st:Stmt} {ps:List Str} {f:Addr} {oc:Value} {od an:Option Addr} {osl:Array (Option Value)} {kV doc pm cdv ct:Value}
    (a:PySem.W.nsIn K mainGlobals x=some (some (.ref f))) (l:K.lookup f=some ⟨oc,od,.func (PySem.W.fnOf x x (defArgs st) (defBody st) (defScope st) .none kV doc pm an cdv ct),osl⟩)
    (c:PySem.W.codeIn K cdv x=true) (k:PySem.W.keepIn K (.ref f)=true)
    (hb:∀(kV doc pm:Value) (an:Option Addr) (cdv ct:Value) (us:List Value),us.length=ps.length→bindArgs (PySem.W.fnOf x x (defArgs st) (defBody st) (defScope st) .none kV doc pm an cdv ct) ⟨us,[]⟩=pure (ps.zip us)):DefAt K mg x st ps :=
  ⟨f,_,fun_mk l c k,PySem.W.mg_of X G a,(fun_mk l c k).binds hb⟩
structure Bt (mg:Str→Option Value):Prop where
  len:mg "len" = none
  list:mg "list" = none
  tuple:mg "tuple" = none
  int:mg "int" = none
  bool:mg "bool" = none
  str:mg "str" = none
  range:mg "range" = none
  zip:mg "zip" = none
  enumerate:mg "enumerate" = none
  reversed:mg "reversed" = none
  isinstance:mg "isinstance" = none
  min:mg "min" = none
theorem bt_len:bootBuiltins "len" = some (.builtin "len"):=by decide +kernel
theorem bt_list:bootBuiltins "list" = some (.type "list"):=by decide +kernel
theorem bt_tuple:bootBuiltins "tuple" = some (.type "tuple"):=by decide +kernel
theorem bt_int:bootBuiltins "int" = some (.type "int"):=by decide +kernel
theorem bt_bool:bootBuiltins "bool" = some (.type "bool"):=by decide +kernel
theorem bt_isinstance:bootBuiltins "isinstance" = some (.builtin "isinstance"):=by decide +kernel
theorem bt_min:bootBuiltins "min" = some (.builtin "min"):=by decide +kernel
theorem ix_listK {X:Cx} {K:PySem.W.Frag} (h:X.K=K):IxR X (rIxL K):=h▸ix_list
theorem call_list_ofK {X:Cx} {K:PySem.W.Frag} (h:X.K=K):CallR X (.type "list") (fun xs H Q=>∃p ys,xs=[.ref p]∧(SqL K H p ys∨SqT K H p ys)∧∀l,H l=none→Q (.ref l) (upd H l (.lst ys))):=h▸call_list_of
theorem pg_tupK {X:Cx} {K:PySem.W.Frag} {pos:Pos} {es:List Expr} {k:Nat} {t:TGs} {n:Nat} (hK:X.K=K) (hc:X.calm=true) (h:PGs X es t)
    (hn:(assignEach es X.env).length=n:=by rfl) (hst:(assignEach es X.env).findIdx? (·.1)=none:=by rfl):PG X (.Tuple es k pos) (gTup K n t):=hK▸pg_tup hc h hn hst
theorem pi_listK {X:Cx} {K:PySem.W.Frag} {tg l:Expr} {tl:TE} (h:X.K=K) (hl:PE X l tl):PI X tg l (iList K tl):=h▸pi_list hl
theorem comp_it {J:It} {n:Nat} {g:TG} {te:TE} {σ:St} {cap:List Nat} {k:Nat} {H:Hp} {Q:VK} (Pv:Nat→List V→Hp→Prop) (hz:n≤sizeLine) (h0:Pv 0 [] H) (hlen:∀i ys H,Pv i ys H→ys.length=i)
    (hgo:∀i ys H,i<n→Pv i ys H→J.go i H) (hstop:∀ys H,Pv n ys H→J.stop n H)
    (hs:∀i x ys H H',i<n→Pv i ys H→J.yld i H x H'→g x (capσ σ cap k) H' fun σ2 H2=>σ2.take cap.length=(capσ σ cap k).take cap.length∧te σ2 H2 fun y H3=>Pv (i+1) (ys++[y]) H3)
    (hd:∀ys H,Pv n ys H→∀D,H D=none→Q (.ref D) (upd H D (.lst ys))) :
    CompW J cap k g te σ H Q:=by
  refine ⟨fun i m ys H=>m=n - i∧i≤n∧Pv i ys H,⟨n,by simp,Nat.zero_le _,h0⟩,?_⟩
  rintro i m ys H ⟨rfl,hi,p⟩
  by_cases hlt:i<n
  · refine .inr ⟨hgo i ys H hlt p,by rw [hlen i ys H p];omega,fun y H3=>Pv (i+1) (ys++[y]) H3,fun y H3 p'=>⟨n - (i+1),by omega,rfl,hlt,p'⟩,fun x H' y=>hs i x ys H H' hlt p y⟩
  · have e:i=n:=by omega
    subst e
    exact .inl ⟨hstop ys H p,hd ys H p⟩
theorem comp_list {K:PySem.W.Frag} {a:Addr} {xs:List V} {g:TG} {te:TE} {σ:St} {cap:List Nat} {k:Nat} {H:Hp} {Q:VK} (Pv:Nat→List V→Hp→Prop) (hz:xs.length≤sizeLine) (h0:Pv 0 [] H) (hlen:∀i ys H,Pv i ys H→ys.length=i)
    (hl:∀i ys H,i≤xs.length→Pv i ys H→SqL K H a xs)
    (hs:∀i x ys H,xs[i]?=some x→Pv i ys H→g x (capσ σ cap k) H fun σ2 H2=>σ2.take cap.length=(capσ σ cap k).take cap.length∧te σ2 H2 fun y H3=>Pv (i+1) (ys++[y]) H3)
    (hd:∀ys H,Pv xs.length ys H→∀D,H D=none→Q (.ref D) (upd H D (.lst ys))) :
    CompW (Itl K a) cap k g te σ H Q:=by
  refine comp_it Pv hz h0 hlen (fun i ys H hi p=>⟨xs,xs[i],hl i ys H (Nat.le_of_lt hi) p,by simp [hi]⟩) (fun ys H p=>⟨xs,hl _ ys H (Nat.le_refl _) p,Nat.le_refl _⟩) (fun i x ys H H' hi p y=>?_) hd
  obtain ⟨e,y⟩:=y
  subst e
  exact hs i x ys _ (y xs (hl i ys _ (Nat.le_of_lt hi) p)) p
theorem iteN {c A B:Prop} [Decidable c] (hc:¬ c) (h:B):if decide c=true then A else B:=by
  rw [decide_eq_false hc];exact iteF h
theorem iteP {c A B:Prop} [Decidable c] (hc:c) (h:A):if decide c=true then A else B:=by
  rw [decide_eq_true hc];exact iteT h
theorem iteNN {c A B:Prop} [Decidable c] (hc:¬ c) (h:A):if (!decide c)=true then A else B:=by
  rw [decide_eq_false hc];exact iteT h
theorem v_ne {i j:Int} (h:i≠j):¬ V.int i=V.int j:=fun z=>h (V.int.inj z)
def Stay (H H':Hp) (F:List Addr):Prop:=∀b o,H b=some o→b∉F→H' b=some o
theorem Same.stay {H H':Hp} (h:Same H H') (F:List Addr):Stay H H' F:=fun b o e _=>h b o e
theorem Stay.same {H H':Hp} (h:Stay H H' []):Same H H':=fun b o e=>h b o e (by simp)
theorem Same.laid {H H1:Hp} {p:Addr} {o:HO} (h:Same H H1) (hn:H1 p=none):Same H (upd H1 p o):=fun b u e=>by
  have q:=h b u e
  rw [upd_ne (ne_of_none q hn)];exact q
theorem same_upd {H:Hp} {p:Addr} {o:HO} (hn:H p=none):Same H (upd H p o):=(Same.refl H).laid hn
structure TabAt (H:Hp) (a:Addr) (rs:List Addr) (T:List (List Int)):Prop where
  tab:IsTab H a rs T
  nd:(a::rs).Nodup
theorem IsRows.imp {H H':Hp}:∀{rs:List Addr} {T:List (List Int)},IsRows H rs T→(∀r∈rs,∀o,H r=some o→H' r=some o)→IsRows H' rs T
  | _,_,.nil,_=>.nil
  | _,_,.cons h t,f=>.cons (f _ List.mem_cons_self _ h) (IsRows.imp t fun r hr=>f r (List.mem_cons_of_mem _ hr))
theorem TabAt.stay {H H':Hp} {a:Addr} {rs:List Addr} {T:List (List Int)} {F:List Addr} (t:TabAt H a rs T) (s:Stay H H' F) (d:∀b∈a::rs,b∉F):TabAt H' a rs T :=
  ⟨⟨s _ _ t.tab.1 (d a List.mem_cons_self),t.tab.2.imp fun r hr o e=>s r o e (d r (List.mem_cons_of_mem _ hr))⟩,t.nd⟩
theorem TabAt.same {H H':Hp} {a:Addr} {rs:List Addr} {T:List (List Int)} (t:TabAt H a rs T) (s:Same H H'):TabAt H' a rs T:=t.stay (s.stay []) (by simp)
theorem IsRows.length {H:Hp} {rs:List Addr} {T:List (List Int)} (h:IsRows H rs T):rs.length=T.length:=Paired.length h
theorem IsRows.get {H:Hp}:∀{rs:List Addr} {T:List (List Int)} {i:Nat} {row:List Int},IsRows H rs T→T[i]?=some row→∃r,rs[i]?=some r∧IsRow H r row
  | _,_,_,_,.nil,e=>by simp at e
  | _,_,0,_,.cons h _,e=>by simp at e;subst e;exact ⟨_,rfl,h⟩
  | _,_,i+1,row,.cons _ t,e=>by
    obtain ⟨r,h1,h2⟩:=IsRows.get (i:=i) (row:=row) t (by simpa using e)
    exact ⟨r,by simpa using h1,h2⟩
theorem IsRows.tracked {H:Hp}:∀{rs:List Addr} {T:List (List Int)},IsRows H rs T→∀r∈rs,∃row,IsRow H r row
  | _,_,.nil,_,h=>nomatch h
  | _,_,.cons h t,r,hr=>by
    rcases List.mem_cons.mp hr with rfl | hr
    · exact ⟨_,h⟩
    · exact IsRows.tracked t r hr
theorem TabAt.tracked {H:Hp} {a:Addr} {rs:List Addr} {T:List (List Int)} (t:TabAt H a rs T):∀b∈a::rs,∃o,H b=some o:=fun b hb=>by
  rcases List.mem_cons.mp hb with rfl | hb
  · exact ⟨_,t.tab.1⟩
  · obtain ⟨row,h⟩:=t.tab.2.tracked b hb
    exact ⟨_,h⟩
theorem IsRows.set {H:Hp}:∀{rs:List Addr} {T:List (List Int)} {i:Nat} {r:Addr} {row:List Int},IsRows H rs T→rs.Nodup→rs[i]?=some r→IsRows (upd H r (.lst (row.map V.int))) rs (T.set i row)
  | _,_,_,_,_,.nil,_,e=>by simp at e
  | q::rs,t::T,0,r,row,.cons h l,nd,e=>by
    simp at e;subst e
    refine .cons upd_same (IsRows.imp l fun b hb o eo=>?_)
    rw [upd_ne (by rintro rfl;exact (List.nodup_cons.mp nd).1 hb)];exact eo
  | q::rs,t::T,i+1,r,row,.cons h l,nd,e=>by
    have e':rs[i]?=some r:=by simpa using e
    have hr:r∈rs:=List.mem_of_getElem? e'
    refine .cons ?_ (IsRows.set l (List.nodup_cons.mp nd).2 e')
    have hne:q≠r:=by rintro rfl;exact (List.nodup_cons.mp nd).1 hr
    show upd H r _ q=_
    rw [upd_ne hne];exact h
theorem TabAt.cell {H:Hp} {a:Addr} {rs:List Addr} {T:List (List Int)} {i:Nat} {r:Addr} {row:List Int} (t:TabAt H a rs T) (e:rs[i]?=some r):TabAt (upd H r (.lst (row.map V.int))) a rs (T.set i row):=by
  have nd:=List.nodup_cons.mp t.nd
  refine ⟨⟨?_,t.tab.2.set nd.2 e⟩,t.nd⟩
  have hne:a≠r:=by rintro rfl;exact nd.1 (List.mem_of_getElem? e)
  rw [upd_ne hne];exact t.tab.1
theorem IsRows.put {H:Hp}:∀{rs:List Addr} {T:List (List Int)} {i:Nat} {p:Addr} {row:List Int},IsRows H rs T→IsRow H p row→IsRows H (rs.set i p) (T.set i row)
  | _,_,_,_,_,.nil,_=>.nil
  | _,_,0,_,_,.cons _ l,hp=>.cons hp l
  | _,_,i+1,_,_,.cons h l,hp=>.cons h (IsRows.put l hp)
end L2
namespace X1
open PySem L2
abbrev Tb:=List (List Int)
inductive Ch where
  | add (s:Bool) (i j:Nat) (q:Int) | swap (s:Bool) (i j:Nat) | turn (s:Bool) (i:Nat)
def sd (s:Bool):Str:=if s then "row" else "column"
def chV:Ch→List V
  | .add s i j q=>[.str "add",.str (sd s),.int i,.int j,.int q]
  | .swap s i j=>[.str "swap",.str (sd s),.int i,.int j]
  | .turn s i=>[.str "turn",.str (sd s),.int i]
def dim (s:Bool) (m n:Nat):Nat:=if s then m else n
def Ch.ok (m n:Nat):Ch→Prop
  | .add s i j _=>i<dim s m n∧j<dim s m n∧i≠j
  | .swap s i j=>i<dim s m n∧j<dim s m n∧i≠j
  | .turn s i=>i<dim s m n
def Ch.small:Ch→Prop
  | .add _ _ _ q=>-(2^64)<q∧q<2^64
  | _=>True
def Ch.app:Ch→Tb→Tb
  | .add true i j q,T=>T.set i (List.zipWith (fun x y=>x+q*y) (T.getD i []) (T.getD j []))
  | .add false i j q,T=>T.map fun r=>r.set i (r.getD i 0+q*r.getD j 0)
  | .swap true i j,T=>(T.set i (T.getD j [])).set j (T.getD i [])
  | .swap false i j,T=>T.map fun r=>(r.set i (r.getD j 0)).set j (r.getD i 0)
  | .turn true i,T=>T.set i ((T.getD i []).map fun x=>-x)
  | .turn false i,T=>T.map fun r=>r.set i (-(r.getD i 0))
def Rect (m n:Nat) (T:Tb):Prop:=T.length=m∧∀r∈T,r.length=n
def ent (T:Tb) (i j:Nat):Int:=(T.getD i []).getD j 0
section
variable {m n:Nat} {T U:Tb}
theorem Rect.row (h:Rect m n T) {i:Nat} (hi:i<m):(T.getD i []).length=n:=by
  have hi':i<T.length:=by rw [h.1];exact hi
  have e:T.getD i []=T[i]:=by simp [hi']
  rw [e]
  exact h.2 _ (List.getElem_mem hi')
theorem Rect.set (h:Rect m n T) {i:Nat} {r:List Int} (hr:r.length=n):Rect m n (T.set i r):=by
  refine ⟨by rw [List.length_set];exact h.1,fun q hq=>?_⟩
  rcases List.mem_or_eq_of_mem_set hq with z | z
  · exact h.2 q z
  · rw [z];exact hr
theorem Rect.map (h:Rect m n T) {f:List Int→List Int} (hf:∀r,r.length=n→(f r).length=n):Rect m n (T.map f):=by
  refine ⟨by rw [List.length_map];exact h.1,fun q hq=>?_⟩
  obtain ⟨r,hr,rfl⟩:=List.mem_map.mp hq
  exact hf r (h.2 r hr)
theorem ent_set {i:Nat} {r:List Int} (hi:i<T.length) (x y:Nat):ent (T.set i r) x y=if x=i then r.getD y 0 else ent T x y:=by
  unfold ent
  by_cases hx:x=i
  · subst hx
    simp [hi]
  · rw [if_neg hx]
    simp only [List.getD_eq_getElem?_getD,List.getElem?_set_ne (Ne.symm hx)]
theorem getD_set {r:List Int} {i:Nat} {v:Int} (hi:i<r.length) (y:Nat):(r.set i v).getD y 0=if y=i then v else r.getD y 0:=by
  by_cases hy:y=i
  · subst hy;simp [hi]
  · rw [if_neg hy];simp only [List.getD_eq_getElem?_getD,List.getElem?_set_ne (Ne.symm hy)]
theorem ent_map {f:List Int→List Int} {x y:Nat} (hx:x<T.length):ent (T.map f) x y=(f (T.getD x [])).getD y 0:=by
  unfold ent
  simp [hx]
theorem Ch.app_rect (h:Rect m n T) {c:Ch} (hc:c.ok m n):Rect m n (c.app T):=by
  cases c with
  | add s i j q =>
    cases s with
    | true =>
      obtain ⟨h1,h2,h3⟩:=hc
      refine h.set ?_
      rw [List.length_zipWith,h.row h1,h.row h2,Nat.min_self]
    | false=>exact h.map fun r hr=>by rw [List.length_set];exact hr
  | swap s i j =>
    cases s with
    | true =>
      obtain ⟨h1,h2,h3⟩:=hc
      exact (h.set (h.row h2)).set (h.row h1)
    | false=>exact h.map fun r hr=>by rw [List.length_set,List.length_set];exact hr
  | turn s i =>
    cases s with
    | true=>exact h.set (by rw [List.length_map];exact h.row hc)
    | false=>exact h.map fun r hr=>by rw [List.length_set];exact hr
theorem getD_zip {f:Int→Int→Int} {a b:List Int} {y:Nat} (ha:y<a.length) (hb:y<b.length):(List.zipWith f a b).getD y 0=f (a.getD y 0) (b.getD y 0):=by
  simp [List.getElem?_zipWith,ha,hb]
theorem ent_add_row (h:Rect m n T) {i j:Nat} {q:Int} (h1:i<m) (h2:j<m) {x y:Nat} (hy:y<n):ent ((Ch.add true i j q).app T) x y=if x=i then ent T i y+q*ent T j y else ent T x y:=by
  show ent (T.set i _) x y=_
  rw [ent_set (by rw [h.1];exact h1)]
  by_cases hx:x=i
  · rw [if_pos hx,if_pos hx,getD_zip (by rw [h.row h1];exact hy) (by rw [h.row h2];exact hy)]
    rfl
  · rw [if_neg hx,if_neg hx]
theorem ent_swap_row (h:Rect m n T) {i j:Nat} (h1:i<m) (h2:j<m) {x y:Nat}:ent ((Ch.swap true i j).app T) x y=if x=j then ent T i y else if x=i then ent T j y else ent T x y:=by
  show ent ((T.set i _).set j _) x y=_
  rw [ent_set (by rw [List.length_set,h.1];exact h2),ent_set (by rw [h.1];exact h1)]
  rfl
theorem ent_turn_row (h:Rect m n T) {i:Nat} (h1:i<m) {x y:Nat}:ent ((Ch.turn true i).app T) x y=if x=i then -(ent T i y) else ent T x y:=by
  show ent (T.set i _) x y=_
  rw [ent_set (by rw [h.1];exact h1)]
  by_cases hx:x=i
  · rw [if_pos hx,if_pos hx]
    unfold ent
    generalize T.getD i []=r
    by_cases hy:y<r.length
    · simp [hy]
    · simp [Nat.not_lt.mp hy]
  · rw [if_neg hx,if_neg hx]
theorem ent_add_col (h:Rect m n T) {i j:Nat} {q:Int} (h1:i<n) {x y:Nat} (hx:x<m):ent ((Ch.add false i j q).app T) x y=if y=i then ent T x i+q*ent T x j else ent T x y:=by
  show ent (T.map _) x y=_
  rw [ent_map (by rw [h.1];exact hx),getD_set (by rw [h.row hx];exact h1)]
  rfl
theorem ent_swap_col (h:Rect m n T) {i j:Nat} (h1:i<n) (h2:j<n) {x y:Nat} (hx:x<m):ent ((Ch.swap false i j).app T) x y=if y=j then ent T x i else if y=i then ent T x j else ent T x y:=by
  show ent (T.map _) x y=_
  rw [ent_map (by rw [h.1];exact hx),getD_set (by rw [List.length_set,h.row hx];exact h2),getD_set (by rw [h.row hx];exact h1)]
  rfl
theorem ent_turn_col (h:Rect m n T) {i:Nat} (h1:i<n) {x y:Nat} (hx:x<m):ent ((Ch.turn false i).app T) x y=if y=i then -(ent T x i) else ent T x y:=by
  show ent (T.map _) x y=_
  rw [ent_map (by rw [h.1];exact hx),getD_set (by rw [h.row hx];exact h1)]
  rfl
end
end X1
namespace L2
open PySem PySem.Spec PyProof.Rows
section
variable {X:Cx}
theorem le_pow_bits {c:Nat} {i:Int} (h:i.natAbs≤2^c):Builtin.Int.intBits i≤c+1 :=
  PySem.intBits_le_iff.mpr (Nat.lt_of_le_of_lt h (Nat.pow_lt_pow_succ (by decide)))
theorem mulOkB {i j:Int} {c:Nat} (hc:c≤33554432) (hi:i.natAbs≤2^c) (hj:j.natAbs≤2^c):IntMulOk i j:=PySem.IntMulOk.of_le (le_pow_bits hi) (le_pow_bits hj) (by omega)
theorem op_mulB (c:Nat) (hc:c≤33554432):OpR X (binaryOp .Mult) (rI (fun i j=>i.natAbs≤2^c∧j.natAbs≤2^c) fun i j=>.int (i*j)):=opI fun _ _ _ _ _ _ _ h q=>mul_int q (mulOkB hc h.1 h.2)
theorem op_fdivB {k:Nat} (hs:X.base.NoSeer) (ht:X.prog.given.tree=none) (hr:Room k X.A) (hk:32≤k) (hgen:X.env.scope.isGenerator=false) (hco:X.env.scope.isCoroutine=false) (hst:∃l,X.stack=X.env::l) :
    OpR X (binaryOp .FloorDiv) (rI (fun _ j=>j≠0) fun i j=>.int (i.fdiv j)):=by
  intro pins s σ H x y v u Q I rx ry h
  obtain ⟨i,j,rfl,rfl,hj,q⟩:=h
  obtain ⟨t,rfl⟩:=rx
  obtain ⟨t',rfl⟩:=ry
  obtain ⟨l,hl⟩:=hst
  refine floordiv_int hj ⟨.int (i.fdiv j),H,I.tok _,⟨_,rfl⟩,q⟩ (.inr (PylongRoom.of I.nolimit ?_ (SeerAt.of (env:=X.env) (l:=l) (hs.keeps I.bk) ht (by rw [I.env0.frames,hl]) hgen hco I.ok.blt I.ok.glob)))
  have:=hr.dp
  show X.A.depth+100<recursionLimit
  omega
def rInsert:V→List V→Hp→VK→Prop:=fun x vs H Q=>∃l xs i y,x=.ref l∧vs=[.int (i:Nat),y]∧H l=some (.lst xs)∧i≤xs.length∧xs.length<sizeLine∧Q .non (upd H l (.lst (xs.take i++y::xs.drop i)))
theorem vals_take:∀{vs:List V} {us:List Value} (i:Nat),Vals vs us→Vals (vs.take i) (us.take i)
  | _,_,0,_=>.nil
  | _,_,_+1,.nil=>.nil
  | _,_,i+1,.cons h t=>.cons h (vals_take i t)
theorem vals_drop:∀{vs:List V} {us:List Value} (i:Nat),Vals vs us→Vals (vs.drop i) (us.drop i)
  | _,_,0,h=>h
  | _,_,_+1,.nil=>.nil
  | _,_,i+1,.cons _ t=>vals_drop i t
theorem mt_insert:MtM X "list.insert" rInsert:=by
  intro pins s σ H x vs v us Q I rx rv h
  obtain ⟨l,xs,i,y,rfl,rfl,hH,hi,hz,q⟩:=h
  cases rx
  cases rv with
  | cons r1 r2 =>
  cases r2 with
  | cons r2 r3 =>
  cases r3
  rename_i u1 u2
  obtain ⟨tk,rfl⟩:=(show ∃t,u1=Value.int (i:Nat) t from r1)
  obtain ⟨z,its,n,r,hl,e⟩:=I.lstM hH
  obtain ⟨x,hx⟩:∃x:Int,x=((i:Nat):Int):=⟨_,rfl⟩
  rw [←hx]
  have hsz:=PySem.sizeLine_eq
  have hf:Builtin.List.listFitsIndex x=true:=by
    unfold Builtin.List.listFitsIndex
    simp
    omega
  refine call_meets PySem.F.slot_list_insert ⟨_,e,rfl⟩ PySem.F.entry_list_insert (PySem.F.args_list_insert_3 _ _ _) (PySem.AutoSeq1.list_insert_list_int_val_1 l its.toArray n x tk u2 (by simp [hf]) (by rw [List.size_toArray];omega)) ⟨e,?_⟩
  refine ⟨.non,_,I.lset (its':=its.take i++u2::its.drop i) hH e ?_ ((vals_take i r).append (.cons r2 (vals_drop i r))) ?_,rfl,q⟩
  · have hk:(if x<0 then (x+((its.toArray.size:Nat):Int)).toNat else min x.toNat its.toArray.size)=i:=by
      rw [if_neg (by omega),List.size_toArray]
      omega
    show (its.toArray.extract 0 (if x<0 then (x+((its.toArray.size:Nat):Int)).toNat else min x.toNat its.toArray.size)).push u2++its.toArray.extract (if x<0 then (x+((its.toArray.size:Nat):Int)).toNat else min x.toNat its.toArray.size)=_
    rw [hk]
    exact PySem.W.kl_ins_eq its i u2
  · rw [List.length_append,List.length_cons,List.length_take,List.length_drop]
    omega
structure MCallee (P:Program) (w:World) (K:PySem.W.Frag) (mg:Str→Option Value) (base:Heap) (C:Addr) (k:Nat) (m:Str) (ps:List Str) (sp:Sp):Prop where
  cl:Cls K C
  ex:∃(f:Addr) (fd:FuncData),FnOk P w K mg base CX0 k f fd ps sp∧Meth K C m f∧Binds K fd ps []
theorem pe_methC {k:Nat} {m:Str} {ps:List Str} {sp:Sp} {C:Addr} {pos apos:Pos} {e o:Expr} {es:List Expr} {ta:TE} {t:TA} (M:MCallee X.prog X.w X.K X.mg X.base C k m ps sp) (he:PE X o ta) (hr:Room k X.A) (ha:PA X (e::es) t) {pl:Sem Bool}
    (hst:starEach (e::es) X.env=(false,eval e X.env)::starEach es X.env:=by rfl) (hpl:(backTo pos (starEach es X.env)).any (·.1)=false:=by rfl)
    (ht:eval (.Call (.Attribute o m apos) (e::es) [] pos) X.env=(do
      let ov ←eval o X.env
      standAt apos.atName
      let (f,first) ←holding [ov] (getMethod ov m pl)
      callWith pos f first (backTo pos (starEach (e::es) X.env)) (backToKw pos (keywordEach [] X.env))):=by rfl) :
    PE X (.Call (.Attribute o m apos) (e::es) [] pos) (tMeth C m sp [] E0 ta t):=by
  obtain ⟨f,fd,F,hm,hb⟩:=M.ex
  exact pe_meth he M.cl hm F hr hb .nil pass0 ha hst hpl ht
theorem pe_methC0 {k:Nat} {m:Str} {ps:List Str} {sp:Sp} {C:Addr} {pos apos:Pos} {o:Expr} {ta:TE} (M:MCallee X.prog X.w X.K X.mg X.base C k m ps sp) (he:PE X o ta) (hr:Room k X.A) {pl:Sem Bool}
    (ht:eval (.Call (.Attribute o m apos) [] [] pos) X.env=(do
      let ov ←eval o X.env
      standAt apos.atName
      let (f,first) ←holding [ov] (getMethod ov m pl)
      callWith pos f first (backTo pos (starEach [] X.env)) (backToKw pos (keywordEach [] X.env))):=by rfl) :
    PE X (.Call (.Attribute o m apos) [] [] pos) (tMeth C m sp [] E0 ta tNil):=by
  obtain ⟨f,fd,F,hm,hb⟩:=M.ex
  exact pe_meth0 he M.cl hm F hr hb .nil pass0 ht
structure Maker (P:Program) (w:World) (K:PySem.W.Frag) (mg:Str→Option Value) (base:Heap) (C:Addr) (k:Nat) (x:Str) (ps:List Str) (sp:Sp):Prop where
  ex:∃(f:Addr) (fd:FuncData),FnOk P w K mg base CX0 k f fd ps sp∧Mk K C f∧mg x=some (.ref C)∧Binds K fd ps []
theorem pe_makeC {k:Nat} {x:Str} {ps:List Str} {sp:Sp} {C:Addr} {p pos:Pos} {e:Expr} {es:List Expr} {t:TA} (M:Maker X.prog X.w X.K X.mg X.base C k x ps sp) (hr:Room (k+1) X.A) (hg:Gl X x) (ha:PA X (e::es) t)
    (hdb:(x == ("__debug__" : Str))=false:=by decide) (he:starEach (e::es) X.env=(false,eval e X.env)::starEach es X.env:=by rfl) (hpl:(backTo pos (starEach es X.env)).any (·.1)=false:=by rfl) :
    PE X (.Call (.Name x p) (e::es) [] pos) (tMake C sp [] E0 t):=by
  obtain ⟨f,fd,F,M,hm,hb⟩:=M.ex
  exact pe_make M F hr hg hm hb .nil pass0 ha hdb he hpl
end
end L2
namespace L2
open PySem PySem.Spec PyProof.Rows
section
variable {X:Cx}
end
end L2
namespace L2
open PySem PySem.Spec PyProof.Rows
theorem pe_fldK {X:Cx} {K:PySem.W.Frag} {e:Expr} {ta:TE} {f:Str} {pos:Pos} (h:X.K=K) (he:PE X e ta) (hb:attributeBase e f X.env (eval e X.env)=eval e X.env):PE X (.Attribute e f pos) (tFld K ta f):=h▸pe_fld he hb
structure MDefAt (K:PySem.W.Frag) (C:Addr) (m qual:Str) (st:Stmt) (ps:List Str):Prop where
  ex:∃(f:Addr) (fd:FuncData),Fun K m qual st f fd∧Meth K C m f∧Binds K fd ps []
theorem MDefAt.ok {P:Program} {w:World} {K:PySem.W.Frag} {mg:Str→Option Value} {base:Heap} {C:Addr} {m qual:Str} {st:Stmt} {N ps:List Str} {k:Nat} {sp:Sp} (D:MDefAt K C m qual st ps) (cl:Cls K C) (S:FnScope N ps (defScope st)) (len:∀vs H Q E,sp vs H Q E→vs.length=ps.length)
    (hbody:∀(f:Addr) (cdv:Value) (A:Around) (outer:List Env) (s:Shared) (H:Hp) (vs:List V) (Q:VK) (E:XK),Room k (A.deeper (envOfC qual (defScope st) s.heap.objs.size f cdv))→sp vs H Q E →
      ∃t,PSs (cxOf CX0 P w K mg base N qual (defScope st) f cdv A outer s H E).nox (defBody st) t∧t { nx:=fun _ H'=>Q .non H',rt:=Q } (start N vs) H):MCallee P w K mg base C (k+1) m ps sp:=by
  obtain ⟨f,fd,F,hm,hb⟩:=D.ex
  exact ⟨cl,f,fd,F.ok S len (hbody f),hm,hb⟩
structure MkAt (K:PySem.W.Frag) (mg:Str→Option Value) (C:Addr) (x qual:Str) (st:Stmt) (ps:List Str):Prop where
  ex:∃(f:Addr) (fd:FuncData),Fun K "__init__" qual st f fd∧Mk K C f∧mg x=some (.ref C)∧Binds K fd ps []
theorem MkAt.ok {P:Program} {w:World} {K:PySem.W.Frag} {mg:Str→Option Value} {base:Heap} {C:Addr} {x qual:Str} {st:Stmt} {N ps:List Str} {k:Nat} {sp:Sp} (D:MkAt K mg C x qual st ps) (S:FnScope N ps (defScope st)) (len:∀vs H Q E,sp vs H Q E→vs.length=ps.length)
    (hbody:∀(f:Addr) (cdv:Value) (A:Around) (outer:List Env) (s:Shared) (H:Hp) (vs:List V) (Q:VK) (E:XK),Room k (A.deeper (envOfC qual (defScope st) s.heap.objs.size f cdv))→sp vs H Q E →
      ∃t,PSs (cxOf CX0 P w K mg base N qual (defScope st) f cdv A outer s H E).nox (defBody st) t∧t { nx:=fun _ H'=>Q .non H',rt:=Q } (start N vs) H):Maker P w K mg base C (k+1) x ps sp:=by
  obtain ⟨f,fd,F,hm,hg,hb⟩:=D.ex
  exact ⟨f,fd,F.ok S len (hbody f),hm,hg,hb⟩
theorem for_it {J:It} {n:Nat} {g:TG} {tb:TS} {D:Ends} {σ:St} {H:Hp} (Pv:Nat→St→Hp→Prop) (h0:Pv 0 σ H) (hgo:∀i σ H,i<n→Pv i σ H→J.go i H) (hstop:∀σ H,Pv n σ H→J.stop n H)
    (hs:∀i x σ H H',i<n→Pv i σ H→J.yld i H x H'→g x σ H' fun σ2 H2=>tb { D with nx:=Pv (i+1),ct:=Pv (i+1),bk:=D.nx } σ2 H2) (hd:∀σ H,Pv n σ H→D.nx σ H) :
    ∃W:Nat→Nat→St→Hp→Prop,(∃m,W 0 m σ H)∧∀i m σ H,W i m σ H →
      (J.stop i H∧D.nx σ H)∨(J.go i H∧∃N:St→Hp→Prop,(∀σ' H',N σ' H'→∃m',m'<m∧W (i+1) m' σ' H')∧∀x H',J.yld i H x H'→g x σ H' fun σ2 H2=>tb { D with nx:=N,ct:=N,bk:=D.nx } σ2 H2):=by
  refine ⟨fun i m σ H=>m=n - i∧i≤n∧Pv i σ H,⟨n,by simp,Nat.zero_le _,h0⟩,?_⟩
  rintro i m σ H ⟨rfl,hi,p⟩
  by_cases hlt:i<n
  · exact .inr ⟨hgo i σ H hlt p,Pv (i+1),fun σ' H' p'=>⟨n - (i+1),by omega,rfl,hlt,p'⟩,fun x H' y=>hs i x σ H H' hlt p y⟩
  · have e:i=n:=by omega
    subst e
    exact .inl ⟨hstop σ H p,hd σ H p⟩
def tSeqX (t u:TS):TS:=fun D σ H=>∃R:St→Hp→Prop,t { D with nx:=R } σ H∧∀σ' H',R σ' H'→u D σ' H'
theorem pss_consX {X:Cx} {st:Stmt} {rest:List Stmt} {t u:TS} (h1:PS X st t) (h2:PSs X rest u):PSs X (st::rest) (tSeqX t u):=by
  intro pins s σ H D I h
  obtain ⟨R,h,hR⟩:=h
  refine pss_cons (u:=fun D' σ' H'=>D'=D∧R σ' H') h1 (fun pins s σ H D' I q=>?_) pins s σ H D I ?_
  · obtain ⟨rfl,q⟩:=q
    exact h2 pins s σ H _ I (hR _ _ q)
  · have e:(fun σ' H'=>D=D∧R σ' H')=R:=by
      funext σ' H'
      exact propext ⟨fun z=>z.2,fun z=>⟨rfl,z⟩⟩
    show t { D with nx:=fun σ' H'=>D=D∧R σ' H' } σ H
    rw [e]
    exact h
end L2
namespace L2
open PySem PySem.Spec PyProof.Rows
theorem for_range0 {n:Nat} {g:TG} {tb:TS} {D:Ends} {σ:St} {H:Hp} (Pv:Nat→St→Hp→Prop) (h0:Pv 0 σ H)
    (hs:∀i σ H,i<n→Pv i σ H→g (.int (i:Nat)) σ H fun σ2 H2=>tb { D with nx:=Pv (i+1),ct:=Pv (i+1),bk:=D.nx } σ2 H2) (hd:∀σ H,Pv n σ H→D.nx σ H) :
    ∃W:Nat→Nat→St→Hp→Prop,(∃m,W 0 m σ H)∧∀i m σ H,W i m σ H →
      ((Itr 0 n).stop i H∧D.nx σ H)∨((Itr 0 n).go i H∧∃N:St→Hp→Prop,(∀σ' H',N σ' H'→∃m',m'<m∧W (i+1) m' σ' H')∧∀x H',(Itr 0 n).yld i H x H'→g x σ H' fun σ2 H2=>tb { D with nx:=N,ct:=N,bk:=D.nx } σ2 H2) :=
  for_range (lo:=0) Pv h0 (fun i σ H hi p=>by rw [Int.zero_add];exact hs i σ H hi p) hd
theorem z0 {x:V} {i:Nat} (h:x=.int (0+(i:Int))):x=.int (i:Nat):=by rw [h,Int.zero_add]
end L2
namespace L2
open PySem PySem.Spec PyProof.Rows
theorem law_callS {P:Program} {w:World} {K:PySem.W.Frag} {mg mb:Str→Option Value} {CX:CXT} {k:Nat} {fa a:Addr} {fd:FuncData} {x:Str} {sp:Sp} {s₁:Shared} {vs:List Value} {ns:List Int}
    (KX:K.In s₁.heap) (hns:s₁.heap.Ns mainGlobals mg) (hb:s₁.heap.Ns builtinsNs mb) (hbb:∀x:Str,x ≠ "__name__" → mb x=bootBuiltins x) (hlim:s₁.heap.NoLimit) (hg:s₁.gens=#[])
    (ha:s₁.heap.get? a=some { cls:=.type "list",data:=.seq vs.toArray }) (hi:IntsAre vs ns) (hl:ns.length≤sizeLine) (hr:Room k callerA)
    (hse:s₁.heap.NoSeer) (F:∀base:Heap,K.In base→base.Ns mainGlobals mg→base.NoSeer→FnOk P w K mg base CX k fa fd [x] sp) (hbind:∀(s:Shared) (u:Value),BindsTo s fd ⟨[u],[]⟩ [(x,u)])
    (hsp:∀H:Hp,Only H→SqL K H a (ns.map V.int)→sp [.ref a] H (fun v _=>v=.bl true) fun _ _ _=>False)
    (hCX:∀H e s',CX [] H s₁ (fun _ _ _=>False) e s'→False) :
    codeAny (model P w) callerA (.call (.ref fa) ⟨[.ref a],[]⟩) (fun r s'=>r=.ok (.ret (.bool true))∧OldK s₁.heap s'.heap∧s'.os=s₁.os∧AllBare s'.gens) s₁:=by
  have rv:=vals_ints hi
  have lenV:=hi.length
  have core:∀H:Hp,Only H→SqL K H a (ns.map V.int)→HOk P w H s₁.heap→(∀b,H b≠none→b=a)→(H a≠none→K.lookup a=none) →
      codeAny (model P w) callerA (.call (.ref fa) ⟨[.ref a],[]⟩) (fun r s'=>r=.ok (.ret (.bool true))∧OldK s₁.heap s'.heap∧s'.os=s₁.os∧AllBare s'.gens) s₁:=by
    intro H hO hS hok hA hK
    have base_of:∀{b:Addr} {o:Obj},s₁.heap.get? b=some o→H b=none→(hidT s₁.heap H).get? b=some o:=fun e n=>hidT_get e n
    have noA:∀{b:Addr} {o:Obj} {es:Array DictEntry} {ep:Nat},s₁.heap.get? b=some o→o.data=.dict es ep→H b=none:=fun {b o es ep} e d=>by
      cases q:H b with
      | none=>rfl
      | some u =>
        have e':b=a:=hA b (by rw [q];simp)
        subst e'
        rw [ha] at e;cases e
        have d':Data.seq vs.toArray _=Data.dict es ep:=d
        cases d'
    have nsK:∀{b:Addr} {m:Str→Option Value},s₁.heap.Ns b m→(hidT s₁.heap H).Ns b m:=fun {b m} ⟨o,es,ep,e,d,r⟩=>⟨o,es,ep,base_of e (noA e d),d,r⟩
    have hKb:K.In (hidT s₁.heap H):=fun b o e=>base_of (KX b o e) (by
      cases q:H b with
      | none=>rfl
      | some u =>
        have e':b=a:=hA b (by rw [q];simp)
        subst e'
        rw [hK (by rw [q];simp)] at e;cases e)
    have hM:Mod K mg (hidT s₁.heap H):=⟨hKb,nsK hns,⟨mb,nsK hb,hbb⟩,let ⟨mc,h1,h2⟩:=hlim;⟨mc,nsK h1,h2⟩⟩
    have e0:Env0 P w K mg (hidT s₁.heap H) callerA [] s₁ H:=⟨rfl,hM,fun b o e=>of_hidT e,Nat.le_of_eq (hidT_size _ _),trivial,fun b hb=>absurd (show b∈([]:List Addr) from hb) (by simp),hok,.of_eq hg⟩
    have hsb:(hidT s₁.heap H).NoSeer:=by
      obtain ⟨⟨mc,c1,c2⟩,⟨mm,m1,m2⟩,⟨mi,i1,i2⟩,⟨mq,bm,ob,q1,q2,q3,q4,q5⟩⟩:=hse
      refine ⟨⟨mc,nsK c1,c2⟩,⟨mm,nsK m1,m2⟩,⟨mi,nsK i1,i2⟩,⟨mq,bm,ob,nsK q1,q2,base_of q3 ?_,q4,q5⟩⟩
      cases q:H bm with
      | none=>rfl
      | some u =>
        have e':bm=a:=hA bm (by rw [q];simp)
        rw [e',ha] at q3
        cases q3
        exact absurd (Value.type.inj q4) (by decide)
    refine codeAny_mono ((F _ hKb (nsK hns) hsb).run callerA [] s₁ H ⟨[.ref a],[]⟩ [.ref a] [.ref a] _ _ hr e0 (hbind s₁ (.ref a)) (.cons rfl .nil) (hsp H hO hS)) fun r s' h=>?_
    cases r with
    | error e=>exact (hCX H e s' h).elim
    | ok fl =>
      cases fl with
      | next=>exact False.elim h
      | brk=>exact False.elim h
      | cont=>exact False.elim h
      | ret u =>
        obtain ⟨v,H',os,bare,un,hok',r',q⟩:=h
        have q':v=.bl true:=q
        subst q'
        obtain rfl:u=Value.bool true:=r'
        refine ⟨rfl,OldK.of_keep fun b o e=>?_,os,bare⟩
        cases q:H b with
        | none=>exact un.keep b o e q (by intro z;exact absurd (show b∈([]:List Addr) from z) (by simp)) (by simp)
        | some u =>
          rcases hO b with z | ⟨ob,xs,z⟩
          · rw [q] at z;cases z
          · have z2:=un.frzs b ob _ z
            obtain ⟨e1,_⟩:=hok b _ z
            obtain ⟨e2,_⟩:=hok' b _ z2
            rw [e] at e1;cases e1
            exact e2
  cases hk:K.lookup a with
  | some o =>
    have e:=KX a o hk
    rw [ha] at e
    cases e
    refine core (fun _=>none) (fun _=>.inl rfl) (.inr ⟨_,vs.toArray,_,hk,rfl,rfl,rfl,by rw [List.size_toArray,lenV];exact hl,by simpa using rv⟩) (fun b u z=>by have z':(none:Option HO)=some u:=z;cases z') (fun b z=>absurd rfl z) fun z=>absurd rfl z
  | none =>
    refine core (fun b=>if b=a then some (.frz { cls:=.type "list",data:=.seq vs.toArray } (.lst (ns.map V.int))) else none) (fun b=>?_) (.inl (.inr ⟨{ cls:=.type "list",data:=.seq vs.toArray },if_pos rfl⟩)) (fun b u z=>?_) (fun b z=>?_) fun _=>hk
    · by_cases hb:b=a
      · exact .inr ⟨_,_,if_pos hb⟩
      · exact .inl (if_neg hb)
    · by_cases hb:b=a
      · have z':=(if_pos hb).symm.trans z
        cases z'
        subst hb
        exact ⟨ha,by rw [List.length_map];exact hl,vs,_,rv,ha⟩
      · have z':=(if_neg hb).symm.trans z
        cases z'
    · by_cases hb:b=a
      · exact hb
      · exact absurd (if_neg hb) z
theorem walk_ofS {l:PySem.W.OpenLaw} {n k:Nat} {q:Program} {loose:List Str} {XP:(Str→Option Value)→Heap→Prop} {YP:World→Heap→Prop} {d:DefRec} {K:Params→PySem.W.Frag} {CX:World→CXT} {sp:World→Sp} {x:Str}
    (hn:l.most=some n) (hn2:n≤sizeLine) (hdf:d.params.defaults=[]) (hr:Room k callerA) (hin:importsNone q=true)
    (hY:∀(w:World) (h:Heap),YP w h→(K w.params).In h)
    (F:∀(w:World) (mg:Str→Option Value) (fa:Addr) (h:Heap),(K w.params).In h→h.Ns mainGlobals mg→mg d.name=some (.ref fa) →
      ∃fd:FuncData,(∀(s:Shared) (u:Value),BindsTo s fd ⟨[u],[]⟩ [(x,u)]) ∧
        ∀base:Heap,(K w.params).In base→base.Ns mainGlobals mg→base.NoSeer→FnOk l.prog w (K w.params) mg base (CX w) k fa fd [x] (sp w))
    (hsp:∀(w:World) (H:Hp) (a:Addr) (ns:List Int),ns.length≤n→Only H→SqL (K w.params) H a (ns.map V.int)→sp w [.ref a] H (fun v _=>v=.bl true) fun _ _ _=>False)
    (hCX:∀(w:World) (H:Hp) (s:Shared) (e:Value) (s':Shared),CX w [] H s (fun _ _ _=>False) e s'→False) :
    PySem.W.WalkO q loose XP YP l.row.toRowW d [] (fun f vs=>PySem.call f vs):=by
  refine Att.attach_call hn hdf fun w s₀ s₁ mg mb fa o pm cd doc a vs ns G Y ho hd hcd hmg hobj hints hlen hg=>?_
  have KX:=hY w _ Y
  obtain ⟨fd,hb,hF⟩:=F w mg fa _ KX G.T.g hmg
  exact law_callS KX G.T.g G.T.b G.T.builtins G.T.nolimit hg hobj hints (Nat.le_trans hlen hn2) hr (G.T.seer hin) hF hb (fun H hO hS=>hsp w H a ns hlen hO hS) fun H e s'=>hCX w H s₁ e s'
end L2
namespace L2
open PySem PySem.Spec PyProof.Rows
section
variable {X:Cx} {elt tg iter ct:Expr} {scope:Scope} {pos:Pos} {N:List Str} {cap:List Nat} {k:Nat} {wi:TI} {g:TG} {tt:TT} {te:TE}
end
end L2
namespace L2
open PySem PySem.Spec PyProof.Rows
theorem op_fdivC {X:Cx} {k:Nat} (hs:X.base.NoSeer) (ht:X.prog.given.tree=none) (hr:Room k X.A) (hk:32≤k) (hst:∃e l,X.stack=e::l∧e.scope.isGenerator=false∧e.scope.isCoroutine=false∧e.builtins=builtinsNs∧e.globals=mainGlobals) :
    OpR X (binaryOp .FloorDiv) (rI (fun _ j=>j≠0) fun i j=>.int (i.fdiv j)):=by
  intro pins s σ H x y v u Q I rx ry h
  obtain ⟨i,j,rfl,rfl,hj,q⟩:=h
  obtain ⟨t,rfl⟩:=rx
  obtain ⟨t',rfl⟩:=ry
  obtain ⟨e,l,hl,hgen,hco,hb,hg⟩:=hst
  refine floordiv_int hj ⟨.int (i.fdiv j),H,I.tok _,⟨_,rfl⟩,q⟩ (.inr (PylongRoom.of I.nolimit ?_ (SeerAt.of (env:=e) (l:=l) (hs.keeps I.bk) ht (by rw [I.env0.frames,hl]) hgen hco hb hg)))
  have:=hr.dp
  show X.A.depth+100<recursionLimit
  omega
end L2
namespace L2
open PySem PySem.Spec PyProof.Rows
section
variable {X:Cx}
end
end L2
namespace L2
open PySem PySem.Spec PyProof.Rows
inductive Fly (l:List Env) (old:Heap) (H:Hp) (ea C:Addr) (h:Heap):Prop
  | mk (B:Heap) (a0:Value) (fly:Heap.FlyingW B l ea (.ref C) a0 h) (cov:∀b o,(∃u,old.get? b=some u)→b∉frs l→h.get? b=some o→B.get? b=some o)
      (trk:∀b u o,H b=some u→h.get? b=some o→B.get? b=some o) (new:old.get? ea=none) (free:H ea=none):Fly l old H ea C h
def CXE (P:Program) (w:World):CXT:=fun outer H s E e s'=>∃(ea C:Addr) (H':Hp),e=.ref ea∧s'.os=s.os∧AllBare s'.gens∧Un (frs outer) [] H H' s.heap s'.heap∧HOk P w H' s'.heap∧Fly outer s.heap H' ea C s'.heap∧E (.ref C) none H'
theorem HOk.tracked {P:Program} {w:World} {H:Hp} {h h':Heap} (x:HOk P w H h) (k:∀b u o,H b=some u→h.get? b=some o→h'.get? b=some o):HOk P w H h':=fun a o e =>
  (x a o e).stay (fun b u hb q=>by
    rcases hb with rfl | hb
    · exact k _ _ _ e q
    · exact k _ _ _ hb q) (fun _ q=>q) fun _ _ q=>q
theorem ObjOk.somed {P:Program} {w:World} {H:Hp} {h:Heap} {a:Addr} {o:HO} (x:ObjOk P w H h a o):∃u,h.get? a=some u:=by
  cases o with
  | lst xs=>obtain ⟨_,_,_,_,e⟩:=x;exact ⟨_,e⟩
  | tup xs=>obtain ⟨_,_,_,_,e,_⟩:=x;exact ⟨_,e⟩
  | dK kvs=>obtain ⟨_,_,_,_,o,_,_,e,_⟩:=x;exact ⟨_,e⟩
  | dT kvs=>obtain ⟨_,_,_,_,o,_,_,e,_⟩:=x;exact ⟨_,e⟩
  | set S n=>obtain ⟨o,_,_,_,e,_⟩:=x;exact ⟨_,e⟩
  | ins C dx fs=>obtain ⟨_,_,_,e,_⟩:=x;exact ⟨_,e⟩
  | own y=>obtain ⟨_,e⟩:=x;exact ⟨_,e⟩
  | xd fs=>obtain ⟨_,⟨_,_,_,e,_⟩,_⟩:=x;exact ⟨_,e⟩
  | rng lo hi=>obtain ⟨_,_,_,e⟩:=x;exact ⟨_,e⟩
  | frz ob u=>obtain ⟨e,_⟩:=x;exact ⟨_,e⟩
  | tbl ps=>exact ⟨_,(show h.get? a=some _ from x)⟩
  | met f y=>exact ⟨_,(show h.get? a=some _ from x)⟩
  | ext φ=>obtain ⟨_,⟨_,e⟩,_⟩:=x;exact ⟨_,e⟩
structure Own (X:Cx):Prop where
  stk:X.stack=X.env::X.outer
  fr:X.env.frame=some X.env.locals
  ex:X.ex=[]
section
variable {X:Cx} {pins:List (Addr×Obj)} {σ:St} {H:Hp} {s:Shared}
theorem Inv.frames (I:Inv X pins σ H s) (O:Own X):X.A.frames=some (X.env::X.outer):=by rw [←O.stk];exact I.ok.frames
theorem Inv.there (I:Inv X pins σ H s) (O:Own X) {b:Addr} {o:Obj} (e:X.s₀.heap.get? b=some o):∃o',s.heap.get? b=some o':=I.base.there b o e (by rw [O.ex];simp)
end
structure RaiseTo (X:Cx) (E:XK):Prop where
  made:∀(pins:List (Addr×Obj)) (σ:St) (H:Hp) (s:Shared) (h':Heap) (e C:Addr) (vs:List Value),Inv X pins σ H s→Heap.MadeExcOf s.heap h' e (.ref C) vs→E (.ref C) none H→X.xe (.ref e) { s with heap:=h' }
  pass:Passes (CXE X.prog X.w) X E
  own:PassesOwn (model X.prog X.w) X.A X.env X.xe
end L2
namespace L2
open PySem PySem.Spec PyProof.Rows
section
variable {X:Cx} {pins:List (Addr×Obj)} {σ:St} {H:Hp} {s:Shared}
end
def ExcO (ea C:Addr) (h:Heap):Prop:=∃o,h.get? ea=some o∧o.cls=.ref C∧∃vs,o.data=.fields vs
theorem ExcO.stable {ea C:Addr} (h1 h2:Heap) (x:ExcO ea C h1) (k:∀o,h1.get? ea=some o→h2.get? ea=some o):ExcO ea C h2:=by
  obtain ⟨o,e,c,d⟩:=x
  exact ⟨o,k o e,c,d⟩
structure Land (X:Cx) (pins:List (Addr×Obj)) (σ:St) (H:Hp) (s:Shared) (H':Hp) (ea C:Addr) (s3:Shared):Prop where
  at0:Inv X pins σ H s
  os:s3.os=s.os
  bare:AllBare s3.gens
  un:Un (frs X.stack) [] H H' s.heap s3.heap
  hok:HOk X.prog X.w H' s3.heap
  fly:Fly X.stack s.heap H' ea C s3.heap
section
variable {X:Cx} {pins:List (Addr×Obj)} {σ:St} {H H':Hp} {s s3:Shared} {ea C:Addr}
theorem Land.ty {M:Model} (L:Land X pins σ H s H' ea C s3):PySem.W.Looks M s3.heap (typeOf (.ref ea)) (.ref C):=by
  obtain ⟨B,a0,fly,_⟩:=L.fly
  obtain ⟨ob,e,c⟩:=fly.there
  exact c▸(PySem.W.Looks.ld e).andThen .now
theorem Land.step (L:Land X pins σ H s H' ea C s3) {B:Heap} {a0:Value} {h2:Heap} (fly:Heap.FlyingW B X.stack ea (.ref C) a0 s3.heap) (cov:∀b o,(∃u,s.heap.get? b=some u)→b∉frs X.stack→s3.heap.get? b=some o→B.get? b=some o)
    (trk:∀b u o,H' b=some u→s3.heap.get? b=some o→B.get? b=some o) (new:s.heap.get? ea=none) (free:H' ea=none) (fl:Heap.FlyingW B X.stack ea (.ref C) a0 h2) (up:s3.heap.UpToSlots h2):Land X pins σ H s H' ea C { s3 with heap:=h2 }:=by
  have keep:∀b o,(∃u,s.heap.get? b=some u)→s3.heap.get? b=some o→b∉frs X.stack→h2.get? b=some o:=fun b o hu q n=>fl.1 _ _ (cov b o hu n q)
  have hfr:∀b o,s3.heap.get? b=some o→b∈frs X.stack→∃sl,h2.get? b=some { o with slots:=sl }:=fun b o q hb=>by
    obtain ⟨_,o',ho',hd⟩:=fly.2.2.1.mem hb
    rw [q] at ho';cases ho'
    exact up b o q hd
  refine ⟨L.at0,L.os,L.bare,⟨fun b o q n hb hx=>?_,fun b o q n hb hx=>?_,L.un.free,fun b o q hx=>?_,L.un.tups,L.un.frzs,L.un.tbls⟩,L.hok.tracked fun b u o hu q=>fl.1 _ _ (trk b u o hu q),⟨B,a0,fl,fun b o hb hn q=>?_,fun b u o hu q=>?_,new,free⟩⟩
  · exact keep b o ⟨_,q⟩ (L.un.keep b o q n hb hx) hb
  · obtain ⟨sl,e1⟩:=L.un.slot b o q n hb hx
    obtain ⟨sl',e2⟩:=hfr b _ e1 hb
    exact ⟨sl',e2⟩
  · obtain ⟨o',e1⟩:=L.un.there b o q hx
    by_cases hb:b∈frs X.stack
    · obtain ⟨sl,e2⟩:=hfr b _ e1 hb
      exact ⟨_,e2⟩
    · exact ⟨o',keep b o' ⟨_,q⟩ e1 hb⟩
  · obtain ⟨u,hu⟩:=hb
    obtain ⟨o',e1⟩:=L.un.there b u hu (by simp)
    have e2:=cov b o' ⟨_,hu⟩ hn e1
    have e3:=fl.1 _ _ e2
    have q':h2.get? b=some o:=q
    rw [q'] at e3;cases e3
    exact e2
  · obtain ⟨o',e1⟩:=(L.hok b u hu).somed
    have e2:=trk b u o' hu e1
    have e3:=fl.1 _ _ e2
    have q':h2.get? b=some o:=q
    rw [q'] at e3;cases e3
    exact e2
theorem again {M:Model} {A:Around} {E':Value→Shared→Prop} {Q:Unit→Shared→Prop} (L:Land X pins σ H s H' ea C s3) (k:∀s4,Land X pins σ H s H' ea C s4→Q () s4) :
    wpAny M A (setFlight (.ref ea) none) Q E' s3:=by
  obtain ⟨B,a0,fly,cov,trk,new,free⟩:=L.fly
  exact lands_againW fly fun h2 fl up=>k _ (L.step fly cov trk new free fl up)
theorem Land.track (L:Land X pins σ H s H' ea C s3):Inv X pins σ (upd H' ea (.ext (ExcO ea C))) s3∧H' ea=none:=by
  obtain ⟨B,a0,fly,cov,trk,new,free⟩:=L.fly
  have ne:∀b u,H' b=some u→b≠ea:=fun b u e z=>by rw [z,free] at e;cases e
  have ne0:∀b o,s.heap.get? b=some o→b≠ea:=fun b o e z=>by rw [z,new] at e;cases e
  refine ⟨L.at0.call' (ch:=[]) L.os ⟨L.un.keep,L.un.slot,fun b o q n hx=>?_,L.un.there,fun b xs q=>?_,fun b o u q=>?_,fun b ps q=>?_⟩ (fun b u q=>?_) L.bare fun b z=>absurd z (by simp),free⟩
  · rw [upd_ne (ne0 b o q)];exact L.un.free b o q n hx
  · have:=L.un.tups b xs q
    rw [upd_ne (ne b _ this)];exact this
  · have:=L.un.frzs b o u q
    rw [upd_ne (ne b _ this)];exact this
  · obtain ⟨more,e⟩:=L.un.tbls b ps q
    exact ⟨more,by rw [upd_ne (ne b _ e)];exact e⟩
  · by_cases hb:b=ea
    · subst hb
      rw [upd_same] at q;cases q
      obtain ⟨oe,vs,he,hc,hd,_⟩:=fly.first
      exact ⟨⟨oe,he,hc,vs,hd⟩,⟨oe,he⟩,fun h1 h2 p k=>p.stable h1 h2 k⟩
    · rw [upd_ne hb] at q
      exact (L.hok b u q).stay (fun _ _ _ z=>z) (fun c z=>by rw [upd_ne (ne c _ z)];exact z) fun c xs z=>by rw [upd_ne (ne c _ z)];exact z
end
section
variable {X:Cx}
end
end L2
namespace L2
open PySem PySem.Spec PyProof.Rows
structure CalleeX (P:Program) (w:World) (K:PySem.W.Frag) (mg:Str→Option Value) (base:Heap) (k:Nat) (x:Str) (ps:List Str) (sp:Sp):Prop where
  ex:∃(f:Addr) (fd:FuncData),FnOk P w K mg base (CXE P w) k f fd ps sp∧mg x=some (.ref f)∧PySem.W.keepIn K (.ref f)=true∧Binds K fd ps []
section
variable {X:Cx} {k:Nat} {x:Str} {ps:List Str} {sp:Sp} {p pos:Pos} {e:Expr} {es:List Expr} {t:TA} {E:XK}
end
abbrev veB:List Value:=[.type "ValueError",.type "Exception",.type "BaseException",.type "object"]
end L2
namespace L2
open PySem PySem.Spec PyProof.Rows
structure KEx (K:PySem.W.Frag) (C:Addr):Prop where
  cl:(PySem.W.clsIn K C).isSome=true
  ga:PySem.W.findIn K (.ref C) "__getattribute__" = some (some (.builtin "BaseException.__getattribute__"))
  gn:PySem.W.findIn K (.ref C) "__getattr__" = some none
  mb:PySem.W.mroIn K C (.type "BaseException")=some true
  a:PySem.W.findIn K (.ref C) "__class__" = some (some (.builtin "object.__class__"))
  n:PySem.W.specialIn K (.builtin "object.__class__") "__get__" = some (some (.builtin "getset_descriptor.__get__"))
  tk:PySem.W.takesIn K (.builtin "object.__class__")=some true
  m:PySem.W.mroIn K C (.type "object")=some true
section
variable {prog:Program} {w:World} {A:Around} {E:Value→Shared→Prop} {s:Shared} {K:PySem.W.Frag} {x C:Addr}
open PySem.W Builtin Builtin.ObjectAttr Builtin.Getset_descriptor
end
section
variable {X:Cx}
end
structure ECls (K:PySem.W.Frag) (mg:Str→Option Value) (x:Str) (C:Addr):Prop where
  m:mg x=some (.ref C)
  q:PySem.W.excIn K C veB "ValueError.__new__" = true
  k:KEx K C
end L2
namespace L2
open PySem PySem.Spec PyProof.Rows
end L2
namespace L2
open PySem PySem.Spec PyProof.Rows
section
variable {κ:Type} [DecidableEq κ]
def valV (kvs:List (κ×V)) (k:κ):Option V:=(kvs.find? fun kv=>decide (kv.1=k)).map (·.2)
def putK (kvs:List (κ×V)) (k:κ) (v:V):List (κ×V) :=
  if (kvs.any fun kv=>decide (kv.1=k))=true then kvs.map (fun kv=>if kv.1=k then (kv.1,v) else kv) else kvs++[(k,v)]
def dropK (kvs:List (κ×V)) (k:κ):List (κ×V):=kvs.filter fun kv=>decide (kv.1≠k)
theorem valV_pos {p:κ×V} {r:List (κ×V)} {k:κ} (e:p.1=k):valV (p::r) k=some p.2:=by simp [valV,List.find?_cons,e]
theorem valV_neg {p:κ×V} {r:List (κ×V)} {k:κ} (e:¬ p.1=k):valV (p::r) k=valV r k:=by simp [valV,List.find?_cons,e]
theorem valV_any (k:κ):∀kvs:List (κ×V),(kvs.any fun kv=>decide (kv.1=k))=(valV kvs k).isSome
  | []=>rfl
  | p::r=>by
    rw [List.any_cons]
    by_cases e:p.1=k
    · simp only [valV_pos e,decide_eq_true e,Bool.true_or,Option.isSome_some]
    · rw [valV_neg e,decide_eq_false e,Bool.false_or];exact valV_any k r
theorem length_putK (kvs:List (κ×V)) (k:κ) (v:V):(putK kvs k v).length≤kvs.length+1:=by
  unfold putK
  split
  · rw [List.length_map];omega
  · rw [List.length_append,List.length_cons,List.length_nil];omega
theorem RelO.isSome_eq {o:Option V} {u:Option Value} (r:RelO o u):o.isSome=u.isSome:=by
  cases o with
  | none=>cases u with
    | none=>rfl
    | some _=>exact (show False from r).elim
  | some _=>cases u with
    | none=>exact (show False from r).elim
    | some _=>rfl
theorem RelO.getD {o:Option V} {u:Option Value} {d:V} {d':Value} (r:RelO o u) (rd:RelV d d'):RelV (o.getD d) (u.getD d'):=by
  cases o with
  | none=>cases u with
    | none=>exact rd
    | some _=>exact (show False from r).elim
  | some _=>cases u with
    | none=>exact (show False from r).elim
    | some _=>exact r
theorem KV.val {kvs:List (κ×V)} {vs:List (κ×Value)} (r:KV kvs vs) (k:κ):RelO (valV kvs k) (valueAt vs k):=by
  unfold KV at r
  induction r with
  | nil=>exact True.intro
  | @cons p q ps qs h t ih =>
    obtain ⟨h1,h2⟩:=h
    by_cases e:p.1=k
    · have e':q.1=k:=h1.symm.trans e
      have b:valueAt (q::qs) k=some q.2:=by simp [valueAt,List.find?_cons,e']
      rw [valV_pos e,b];exact h2
    · have e':¬ q.1=k:=fun z=>e (h1.trans z)
      have b:valueAt (q::qs) k=valueAt qs k:=by simp [valueAt,List.find?_cons,e']
      rw [valV_neg e,b];exact ih
theorem KV.any {kvs:List (κ×V)} {vs:List (κ×Value)} (r:KV kvs vs) (k:κ):(kvs.any fun kv=>decide (kv.1=k))=vs.any fun kv=>decide (kv.1=k):=by
  unfold KV at r
  induction r with
  | nil=>rfl
  | cons h t ih=>rw [List.any_cons,List.any_cons,ih,h.1]
theorem KV.repl {kvs:List (κ×V)} {vs:List (κ×Value)} (r:KV kvs vs) (k:κ) {y:V} {u:Value} (ry:RelV y u) :
    KV (kvs.map fun kv=>if kv.1=k then (kv.1,y) else kv) (vs.map fun kv=>if kv.1=k then (kv.1,u) else kv):=by
  unfold KV at r ⊢
  induction r with
  | nil=>exact .nil
  | @cons p q ps qs h t ih =>
    rw [List.map_cons,List.map_cons]
    refine .cons ?_ ih
    obtain ⟨h1,h2⟩:=h
    by_cases e:p.1=k
    · rw [if_pos e,if_pos (h1.symm.trans e)];exact ⟨h1,ry⟩
    · rw [if_neg e,if_neg (fun z=>e (h1.trans z))];exact ⟨h1,h2⟩
theorem KV.put {kvs:List (κ×V)} {vs:List (κ×Value)} (r:KV kvs vs) (k:κ) {y:V} {u:Value} (ry:RelV y u):KV (putK kvs k y) (stored vs k u):=by
  unfold putK stored
  rw [r.any k]
  by_cases e:(vs.any fun kv=>decide (kv.1=k))=true
  · rw [if_pos e,if_pos e];exact r.repl k ry
  · rw [if_neg e,if_neg e];exact Paired.snoc r ⟨rfl,ry⟩
theorem KV.drop {kvs:List (κ×V)} {vs:List (κ×Value)} (r:KV kvs vs) (k:κ):KV (dropK kvs k) (without vs k):=by
  unfold KV at r ⊢
  unfold dropK without
  induction r with
  | nil=>exact .nil
  | @cons p q ps qs h t ih =>
    obtain ⟨h1,h2⟩:=h
    rw [List.filter_cons,List.filter_cons]
    by_cases e:p.1=k
    · have a:¬ decide (p.1≠k)=true:=by simp [e]
      have b:¬ decide (q.1≠k)=true:=by simp [h1.symm.trans e]
      rw [if_neg a,if_neg b];exact ih
    · have e':¬ q.1=k:=fun z=>e (h1.trans z)
      have a:decide (p.1≠k)=true:=by simp [e]
      have b:decide (q.1≠k)=true:=by simp [e']
      rw [if_pos a,if_pos b];exact .cons ⟨h1,h2⟩ ih
theorem KV.length {kvs:List (κ×V)} {vs:List (κ×Value)} (r:KV kvs vs):kvs.length=vs.length:=Paired.length r
end
theorem kV_is {P:Program} {w:World} {k:Key} {u:Value} (r:RelV (kV k) u):(mixKind P w).is k u=true:=by
  cases k with
  | inl i=>obtain ⟨t,e⟩:=(show ∃t,u=Value.int i t from r);subst e;exact mixKind_int P w i t
  | inr x=>obtain ⟨t,e⟩:=(show ∃t,u=Value.str x t from r);subst e;exact mixKind_str P w x t
theorem items_are {P:Program} {w:World}:∀{ks:List Key} {us:List Value},Vals (ks.map kV) us→ItemsAre (mixKind P w) ks us
  | [],_,r=>by rw [List.map_nil] at r;cases r;exact .nil
  | k::ks,_,r=>by
    rw [List.map_cons] at r
    cases r with
    | cons h t=>exact .cons (kV_is h) (items_are t)
abbrev KT (H:Hp):List (List Key×V)→List (List Key×Addr×Value)→Prop:=Paired fun p q=>p.1=q.1∧H q.2.1=some (.tup (p.1.map kV))∧RelV p.2 q.2.2
theorem KT.val {H:Hp} {kvs:List (List Key×V)} {xs:List (List Key×Addr×Value)} (r:KT H kvs xs) (k:List Key):RelO (valV kvs k) ((atKey xs k).map (·.2)):=by
  induction r with
  | nil=>exact True.intro
  | @cons p q ps qs h t ih =>
    obtain ⟨h1,_,h2⟩:=h
    by_cases e:p.1=k
    · have e':q.1=k:=h1.symm.trans e
      have b:atKey (q::qs) k=some q.2:=by simp [atKey,List.find?_cons,e']
      rw [valV_pos e,b];exact h2
    · have e':¬ q.1=k:=fun z=>e (h1.trans z)
      have b:atKey (q::qs) k=atKey qs k:=by simp [atKey,List.find?_cons,e']
      rw [valV_neg e,b];exact ih
theorem KT.repl {H:Hp} {kvs:List (List Key×V)} {xs:List (List Key×Addr×Value)} (r:KT H kvs xs) (k:List Key) {y:V} {u:Value} (ry:RelV y u) :
    KT H (kvs.map fun kv=>if kv.1=k then (kv.1,y) else kv) (xs.map (putAt k u)):=by
  induction r with
  | nil=>exact .nil
  | @cons p q ps qs h t ih =>
    rw [List.map_cons,List.map_cons]
    refine .cons ?_ ih
    obtain ⟨h1,h2,h3⟩:=h
    unfold putAt
    by_cases e:p.1=k
    · rw [if_pos e,if_pos (h1.symm.trans e)];exact ⟨h1,h2,ry⟩
    · rw [if_neg e,if_neg (fun z=>e (h1.trans z))];exact ⟨h1,h2,h3⟩
theorem KT.put {H:Hp} {kvs:List (List Key×V)} {xs:List (List Key×Addr×Value)} (r:KT H kvs xs) (k:List Key) {b:Addr} {y:V} {u:Value} (hb:H b=some (.tup (k.map kV))) (ry:RelV y u) :
    KT H (putK kvs k y) (storedH xs k b u):=by
  have e:(kvs.any fun kv=>decide (kv.1=k))=(atKey xs k).isSome:=by
    rw [valV_any,(r.val k).isSome_eq,Option.isSome_map]
  unfold putK storedH
  rw [e]
  by_cases q:(atKey xs k).isSome=true
  · rw [if_pos q,if_pos q];exact r.repl k ry
  · rw [if_neg q,if_neg q];exact Paired.snoc r ⟨rfl,hb,ry⟩
theorem KT.keeps {H H':Hp} {kvs:List (List Key×V)} {xs:List (List Key×Addr×Value)} (r:KT H kvs xs) (ht:∀b ys,H b=some (.tup ys)→H' b=some (.tup ys)):KT H' kvs xs :=
  Paired.mapP r fun _ _ z=>⟨z.1,ht _ _ z.2.1,z.2.2⟩
section
variable {P:Program} {w:World} {H:Hp} {h:Heap} {a:Addr}
theorem rd_of {u:HO} (ok:HOk P w H h) (e:Rd H a u):ObjOk P w H h a u:=e.ok ok
theorem dk_rd {kvs:List (Key×V)} (ok:HOk P w H h) (e:Rd H a (.dK kvs)):kvs.length≤sizeLine∧(a == sysModules)=false∧∃vs,KV kvs vs∧h.DictOf (mixKind P w) a vs :=
  show ObjOk P w H h a (.dK kvs) from rd_of ok e
theorem dk_of {kvs:List (Key×V)} (ok:HOk P w H h) (e:H a=some (.dK kvs)):kvs.length≤sizeLine∧(a == sysModules)=false∧∃vs,KV kvs vs∧h.DictOf (mixKind P w) a vs:=dk_rd ok (.inl e)
theorem key_of {ks:List Key} (ok:HOk P w H h) (e:H a=some (.tup (ks.map kV))):(tupleKind (mixKind P w)).is h ks a:=by
  obtain ⟨_,its,r,o,h1,h2,n,h3⟩:=(show ObjOk P w H h a (.tup (ks.map kV)) from ok a _ e)
  exact ⟨o,its.toArray,n,h1,h2,h3,by simpa using items_are r⟩
theorem dt_rd {kvs:List (List Key×V)} (ok:HOk P w H h) (e:Rd H a (.dT kvs)):kvs.length≤sizeLine∧(a == sysModules)=false ∧
    ∃xs,KT H kvs xs∧h.DictOfH (tupleKind (mixKind P w)) a xs:=by
  obtain ⟨z,y,xs,r,o,es,ep,h1,h2,h3,h4,h5⟩:=(show ObjOk P w H h a (.dT kvs) from rd_of ok e)
  refine ⟨z,y,xs,r,o,es,ep,h1,h2,h3,h4,fun x hx=>?_,h5⟩
  have all:∀{l:List (List Key×V)} {m:List (List Key×Addr×Value)},KT H l m→∀x∈m,(tupleKind (mixKind P w)).is h x.1 x.2.1:=by
    intro l m q
    induction q with
    | nil=>intro x hx;exact nomatch hx
    | @cons p q ps qs hq t ih =>
      intro x hx
      rcases List.mem_cons.mp hx with e | hx
      · subst e
        exact key_of ok (by rw [←hq.1];exact hq.2.1)
      · exact ih x hx
  exact all r x hx
theorem dt_of {kvs:List (List Key×V)} (ok:HOk P w H h) (e:H a=some (.dT kvs)):kvs.length≤sizeLine∧(a == sysModules)=false ∧
    ∃xs,KT H kvs xs∧h.DictOfH (tupleKind (mixKind P w)) a xs:=dt_rd ok (.inl e)
end
def DGet (H:Hp) (a:Addr) (y:V) (r:Option V):Prop :=
  (∃kvs k,Rd H a (.dK kvs)∧y=kV k∧r=valV kvs k)∨∃kvs k b,Rd H a (.dT kvs)∧y=.ref b∧H b=some (.tup (k.map kV))∧r=valV kvs k
def DPut (H:Hp) (a:Addr) (y v:V) (H':Hp):Prop :=
  (∃kvs k,H a=some (.dK kvs)∧y=kV k∧kvs.length<sizeLine∧H'=upd H a (.dK (putK kvs k v))) ∨
  ∃kvs k b,H a=some (.dT kvs)∧y=.ref b∧H b=some (.tup (k.map kV))∧kvs.length<sizeLine∧H'=upd H a (.dT (putK kvs k v))
theorem DGet.t {H:Hp} {a b:Addr} {kvs:List (List Key×V)} {k:List Key} (e:H a=some (.dT kvs)) (eb:H b=some (.tup (k.map kV))):DGet H a (.ref b) (valV kvs k):=.inr ⟨kvs,k,b,.inl e,rfl,eb,rfl⟩
theorem DPut.t {H:Hp} {a b:Addr} {kvs:List (List Key×V)} {k:List Key} {v:V} (e:H a=some (.dT kvs)) (eb:H b=some (.tup (k.map kV))) (hl:kvs.length<sizeLine) :
    DPut H a (.ref b) v (upd H a (.dT (putK kvs k v))):=.inr ⟨kvs,k,b,e,rfl,eb,hl,rfl⟩
section
variable {X:Cx} {pins:List (Addr×Obj)} {σ:St} {H:Hp} {s:Shared} {a:Addr} {y v:V} {u r:Value} {o:Option V} {A:Around} {E:Value→Shared→Prop}
theorem Inv.big (I:Inv X pins σ H s):sysModules<s.heap.objs.size:=by
  have h:mainGlobals<s.heap.objs.size:=(I.mod.glob.keeps I.bk).lt
  exact Nat.lt_trans (by decide) h
theorem d_write {h':Heap} {t':Nat} {ob:HO} (I:Inv X pins σ H s) (mu:Mut (H a)) (hs:Heap.SameBut a s.heap h') (he:∃q,h'.get? a=some q) (new:ObjOk X.prog X.w (upd H a ob) h' a ob) :
    Inv X pins σ (upd H a ob) { s with heap:=h',toks:=t' } :=
  I.write (x:=a) (e:=a) mu (.inl rfl) (fun b q hb z=>(hs.2 b hb).trans z) he new
theorem dk_new {P:Program} {w:World} {H':Hp} {h':Heap} {kvs:List (Key×V)} {vs:List (Key×Value)} (z:kvs.length≤sizeLine) (hd:(a == sysModules)=false) (rel:KV kvs vs) (dd:h'.DictOf (mixKind P w) a vs) :
    ObjOk P w H' h' a (.dK kvs):=⟨z,hd,vs,rel,dd⟩
theorem d_setItem {H':Hp} {Q:Unit→Shared→Prop} (hu:A.units+1<cLine) (I:Inv X pins σ H s) (g:DPut H a y v H') (ry:RelV y u) (rv:RelV v r) (h:∀s',Inv X pins σ H' s'→Q () s') :
    wpAny (model X.prog X.w) A (setItem (.ref a) u r) Q E s:=by
  rcases g with ⟨kvs,k,e,ey,l,eH⟩ | ⟨kvs,k,b,e,ey,eb,l,eH⟩
  · subst ey eH
    obtain ⟨z,hd,vs,rel,dd⟩:=dk_of I.hok e
    have hz:vs.length≤sizeLine:=by rw [←rel.length];exact z
    have hl:(putK kvs k v).length≤sizeLine:=by have:=length_putK kvs k v;omega
    refine wpAny_setItem_pairs (hsz:=hz) (kV_is ry) dd fun h' dd' hs=>h _ ?_
    have he:∃q,h'.get? a=some q:=let ⟨q,_,_,hq,_⟩:=dd';⟨q,hq⟩
    exact d_write I (by rw [e];exact True.intro) hs he (dk_new hl hd (rel.put k rv) dd')
  · subst ey eH
    cases (show u=Value.ref b from ry)
    obtain ⟨z,hd,xs,rel,dd⟩:=dt_of I.hok e
    have hz:xs.length≤sizeLine:=by rw [←Paired.length rel];exact z
    have hl:(putK kvs k v).length≤sizeLine:=by have:=length_putK kvs k v;omega
    refine wpAny_setItem_heap (hsz:=hz) (tupleKind_room_in1 hu) (key_of I.hok eb) dd fun h' dd' hs=>h _ ?_
    obtain ⟨q,es,ep,hq,h2,h3,h4,_,h5⟩:=dd'
    refine d_write I (by rw [e];exact True.intro) hs ⟨q,hq⟩ ⟨hl,hd,_,(rel.put k eb rv).keeps fun c ys ec=>?_,q,es,ep,hq,h2,h3,h4,h5⟩
    rw [upd_ne (ne_of ec e (fun z=>nomatch z))]
    exact ec
end
section
variable {X:Cx} {pins:List (Addr×Obj)} {σ:St} {H:Hp} {s:Shared} {a:Addr} {kvs:List (Key×V)} {k:Key} {u:Value} {A:Around} {E:Value→Shared→Prop}
end
def sDPut (td ty tv:TE):TS:=fun D σ H=>tv σ H fun v H1=>td σ H1 fun x H2=>ty σ H2 fun y H3=>∃a H4,x=.ref a∧DPut H3 a y v H4∧D.nx σ H4
section
variable {X:Cx} {o i e value:Expr} {pos pos' tpos:Pos} {td ty tv:TE}
theorem ps_dput (hu:X.A.units+1<cLine) (ho:PE X o td) (hi:PE X i ty) (hv:PE X value tv) (hs:swapsWith value (some (.Subscript o i pos')) pos.line X.env=pure false) :
    PS X (.Assign [.Subscript o i pos'] value pos) (sDPut td ty tv):=by
  intro pins s σ H D I h
  refine wpAny_Assign_Subscript (thn (hv pins s σ H _ I h) fun r s1 ⟨v,H1,I1,rv,q1⟩=>thn (ho pins s1 σ H1 _ I1 q1) fun u s2 ⟨x,H2,I2,rx,q2⟩=>thn (hi pins s2 σ H2 _ I2 q2) fun iv s3 ⟨y,H3,I3,ry,a,H4,ex,g,q3⟩=>?_) hs
  subst ex
  obtain rfl:u=Value.ref a:=rx
  exact d_setItem hu I3 g ry rv fun s4 I4=>⟨σ,H4,I4,q3⟩
end
theorem dt_empty {P:Program} {w:World} {H:Hp} (h:Heap) (hb:sysModules<h.objs.size):ObjOk P w H (h.push { cls:=.type "dict",data:=.dict #[] }) h.objs.size (.dT []) :=
  ⟨Nat.zero_le _,beq_eq_false_iff_ne.mpr (Ne.symm (Nat.ne_of_lt hb)),[],.nil,_,#[],0,Heap.get?_push_size _ rfl,⟨rfl,rfl,rfl⟩,rfl,rfl,List.nodup_nil⟩
section
variable {X:Cx} {pos:Pos}
end
def mergeK (kvs more:List (Key×V)):List (Key×V):=more.foldl (fun acc kv=>putK acc kv.1 kv.2) kvs
theorem KV.merge:∀{more:List (Key×V)} {rs:List (Key×Value)} {kvs:List (Key×V)} {vs:List (Key×Value)},KV more rs→KV kvs vs→KV (mergeK kvs more) (merged vs rs):=by
  intro more rs kvs vs r
  unfold KV at r
  induction r generalizing kvs vs with
  | nil=>intro q;exact q
  | @cons p q ps qs h t ih =>
    intro r0
    have e:KV (putK kvs p.1 p.2) (stored vs q.1 q.2):=by
      have:=r0.put p.1 h.2
      rw [←h.1];exact this
    exact ih e
structure M1 (X:Cx) (o:Expr) (m:Str) (apos:Pos) (e:Expr) (cpos:Pos):Prop where
  base:attributeBase o m X.env (eval o X.env)=eval o X.env
  few:((backTo cpos (starEach [e] X.env)).all (fun x=>!x.1)&&(backToKw cpos (keywordEach [] X.env)).all (fun x=>x.1.isSome)
    && decide (([e]:List Expr).length+([]:List Keyword).length+(if ([]:List Keyword).isEmpty then 0 else 1)<30))=true
  line:(apos.endLine == cpos.line)=true
  trees:backTo cpos (starEach [e] X.env)=[(false,eval e X.env)]
structure M2 (X:Cx) (o:Expr) (m:Str) (apos:Pos) (e f:Expr) (cpos:Pos):Prop where
  base:attributeBase o m X.env (eval o X.env)=eval o X.env
  few:((backTo cpos (starEach [e,f] X.env)).all (fun x=>!x.1)&&(backToKw cpos (keywordEach [] X.env)).all (fun x=>x.1.isSome)
    && decide (([e,f]:List Expr).length+([]:List Keyword).length+(if ([]:List Keyword).isEmpty then 0 else 1)<30))=true
  line:(apos.endLine == cpos.line)=true
  trees:backTo cpos (starEach [e,f] X.env)=[(false,eval e X.env),(false,eval f X.env)]
section
variable {X:Cx} {pins:List (Addr×Obj)} {σ:St} {H:Hp} {s:Shared} {a:Addr} {y d:V} {u r:Value} {o:Option V} {A:Around} {E:Value→Shared→Prop}
end
section
variable {X:Cx} {o e f:Expr} {apos cpos:Pos} {td ty tx:TE}
end
section
variable {X:Cx} {pins:List (Addr×Obj)} {σ:St} {H:Hp} {s:Shared} {a:Addr} {kvs:List (Key×V)} {A:Around} {E:Value→Shared→Prop}
end
section
variable {X:Cx} {pins:List (Addr×Obj)} {σ:St} {H:Hp} {s:Shared} {a:Addr} {y:V} {u:Value} {A:Around} {E:Value→Shared→Prop}
end
end L2
namespace L2
open PySem PySem.Spec PyProof.Rows
section
variable {prog:Program} {w:World} {K:Type} [DecidableEq K] {knd:HeapKind prog w K} {A:Around} {E:Value→Shared→Prop} {s:Shared} {d:Addr} {xs:List (K×Addr×Value)}
theorem lenH_meets (knd:HeapKind prog w K) (d:Addr) (hd:(d == sysModules)=false) :
    MeetsIn prog w (Builtin.«dict.__len__» ⟨[.ref d],[]⟩) (fun _ R s=>∃xs,s.heap.DictOfH knd d xs∧R (.ok (.ret (.int xs.length s.toks))) { s with toks:=s.toks+1 }):=.of_wp fun A R s ⟨xs,hm,h⟩=>by
  obtain ⟨o,es,ep,ho,_,hdat,he,_⟩:=hm
  show wpAny _ _ (dictSize d >>= _) _ _ s
  unfold dictSize
  refine wpAny_bind (wpAny_bind (wpAny_dictEntries ho hdat (wpAny_pure (?_:wpAny _ _ (Builtin.Dict.pendingCount d >>= _) _ _ s))))
  refine wpAny_bind (wpAny_pendingCount_other hd (wpAny_ret_mkInt ?_))
  rw [Nat.add_zero,size_of_entries he];exact h
theorem call_lenH {Q:Value→Shared→Prop} (hd:(d == sysModules)=false) (hm:s.heap.DictOfH knd d xs) (hfit:(xs.length:Int)<2^63) (h:Q (.int xs.length (s.toks+1)) { s with toks:=s.toks+1+1 }) :
    wpAny (model prog w) A (call (.builtin "len") [.ref d]) Q E s:=by
  refine Calls.call_function_entry kind_len plain_len entry_len (args_len1 _) ?_
  unfold Builtin.«len»
  refine wpAny_bind (m:=oneArg "len" _) (wpAny_pure (wpAny_bind (m:=callSpecial? (.ref d) (Str.ofString "__len__")) (wpAny_callSpecial?_slot (name:=Str.ofString "__len__") hm.typeIs F.slot_dict_len
    (call_meetsIn F.slot_dict_len hm.typeIs F.entry_dict_len (F.args_dict_len_1 _) (lenH_meets knd d hd) ⟨xs,hm,?_⟩))))
  show wpAny _ _ _ _ _ { s with toks:=s.toks+1 };refine wpAny_bind (wpAny_holding (wpAny_pure (wpAny_bind (wpAny_letGo ?_))))
  show wpAny _ _ (if ((xs.length:Nat):Int)<0 then _ else _) _ _ _;rw [if_neg (by omega)]
  show wpAny _ _ (if ((xs.length:Nat):Int) ≥ 2^63 then _ else _) _ _ _;rw [if_neg (by omega)]
  exact wpAny_bind (wpAny_mkInt (wpAny_pure ⟨_,rfl,h⟩))
end
section
variable {X:Cx} {pins:List (Addr×Obj)} {σ:St} {H:Hp} {s:Shared} {a:Addr} {kvs:List (List Key×V)}
def rLenT:List V→Hp→VK→Prop:=fun xs H Q=>∃(a:Addr) (kvs:List (List Key×V)),xs=[.ref a]∧H a=some (.dT kvs)∧Q (.int kvs.length) H
theorem call_lenT:CallR X (.builtin "len") rLenT:=by
  intro pins s σ H xs us Q I rv h
  obtain ⟨a,kvs,rfl,ha,q⟩:=h
  obtain ⟨u,rfl,ru⟩:=rv.one
  cases (show u=Value.ref a from ru)
  obtain ⟨z,hd,ys,rel,dd⟩:=dt_of I.hok ha
  have hl:=Paired.length rel
  refine call_lenH hd dd (by rw [←hl];rw [sizeLine_eq] at z;omega) ?_
  rw [←hl]
  exact ⟨.int kvs.length,H,I.tok _,⟨_,rfl⟩,q⟩
end
section
variable {prog:Program} {w:World} {A:Around} {E:Value→Shared→Prop} {s:Shared}
theorem forEmptyH {id:String} {d:Addr} {o:Obj} {es:Array DictEntry} {ep:Nat} {Q:Array DictEntry→Shared→Prop} (ho:s.heap.get? d=some o) (hd:o.data=.dict es ep)
    (hk:∀e∈es.toList,∃b,e.key=.ref b∧s.TypeIs (.ref b) "tuple") (hh:∀e∈es.toList,(es.filter (·.hash == e.hash)).size≤1) (h:Q es s) :
    wpAny (model prog w) A (Builtin.Dict.entriesForEmpty id d) Q E s:=by
  unfold Builtin.Dict.entriesForEmpty
  refine wpAny_bind (wpAny_dictEntries ho hd (wpAny_bind ?_))
  rw [←Array.forIn_toList]
  refine wpAny_forIn_list _ (fun rest _ s'=>s'=s∧∀e∈rest,e∈es.toList) _ ?_ ?_ _ _ ⟨rfl,fun e he=>he⟩
  · rintro e rest b s' ⟨rfl,hr⟩
    have he:=hr e List.mem_cons_self
    obtain ⟨c,hc,ht⟩:=hk e he
    have hsz:=hh e he
    unfold Builtin.Dict.quietEq
    rw [hc]
    refine wpAny_bind (wpAny_bind (wpAny_specialOf ht F.slot_tuple_eq.lookup (wpAny_pure ?_)))
    rw [if_pos (by decide),if_neg (by omega)]
    exact wpAny_pure ⟨rfl,fun e he=>hr e (List.mem_cons_of_mem _ he)⟩
  · rintro b s' ⟨rfl,_⟩
    exact wpAny_pure h
variable {K:Type} [DecidableEq K] {knd:HeapKind prog w K}
theorem filter_one:∀{l:List DictEntry} {k:Int},(l.map (·.hash)).Nodup→(l.filter (·.hash == k)).length≤1
  | [],_,_=>Nat.zero_le _
  | e::l,k,h=>by
    rw [List.map_cons,List.nodup_cons] at h
    rw [List.filter_cons]
    split
    · rename_i hk
      have hk:e.hash=k:=by simpa using hk
      have:l.filter (·.hash == k)=[]:=List.filter_eq_nil_iff.mpr fun x hx z=>h.1 (by
        have:x.hash=k:=by simpa using z
        rw [hk,←this];exact List.mem_map.mpr ⟨x,hx,rfl⟩)
      rw [this];exact Nat.le_refl _
    · exact filter_one h.2
theorem copyH {o:Addr} {xs:List (K×Addr×Value)} {Q:Value→Shared→Prop} (hoS:(o == sysModules)=false) (ho:s.heap.DictOfH knd o xs) (ne:xs≠[]) (hT:∀x∈xs,s.TypeIs (.ref x.2.1) "tuple") (hn:(xs.map fun x=>knd.hash x.1).Nodup)
    (hsz:xs.length≤sizeLine) (his:∀h':Heap,(∀b ob,s.heap.get? b=some ob→h'.get? b=some ob)→∀x∈xs,knd.is h' x.1 x.2.1)
    (h:∀h',h'.DictOfH knd s.heap.objs.size xs→Heap.SameBut s.heap.objs.size (s.heap.push { cls:=.type "dict",data:=.dict #[] }) h'→Q (.ref s.heap.objs.size) { s with heap:=h' }) :
    wpAny (model prog w) A (call (.type "dict") [.ref o]) Q E s:=by
  refine callType_codes (Q₁:=fun obj s₁=>obj=.ref s.heap.objs.size∧s₁={ s with heap:=s.heap.push { cls:=.type "dict",data:=.dict #[] } }) F.kt_called_dict (F.kt_typeCall_dict_1 _) F.entry_dict_init (kt_code_dict_new _ ⟨rfl,rfl⟩) fun obj s₁ hs₁=>?_
  obtain ⟨rfl,rfl⟩:=hs₁
  obtain ⟨oo,es,ep,hoo,hoc,hod,he,_,hnd⟩:=id ho
  have up:∀b ob,s.heap.get? b=some ob→(s.heap.push { cls:=.type "dict",data:=.dict #[] }).get? b=some ob:=fun b ob e=>Heap.get?_push_of_some _ e
  have hoo':=up _ _ hoo
  have hnew:(s.heap.push { cls:=.type "dict",data:=.dict #[] }).get? s.heap.objs.size=some { cls:=.type "dict",data:=.dict #[] }:=Heap.get?_push_size _ rfl
  have tyN:Shared.TypeIs { s with heap:=s.heap.push { cls:=.type "dict",data:=.dict #[] } } (.ref s.heap.objs.size) "dict" := ⟨_,hnew,rfl⟩
  have tyO:Shared.TypeIs { s with heap:=s.heap.push { cls:=.type "dict",data:=.dict #[] } } (.ref o) "dict" := ⟨_,hoo',hoc.1⟩
  have hdo:s.heap.objs.size≠o:=fun z=>absurd (Heap.lt_size hoo) (by rw [z];exact Nat.lt_irrefl _)
  refine ⟨tyN,F.args_dict_init_2 _ _,?_⟩
  unfold Builtin.«dict.__init__» Builtin.Dict.selfAndRest
  refine wpAny_bind (wpAny_bind (wpAny_notOrdered_dict tyN ?_))
  show wpAny _ _ (pure (s.heap.objs.size,[Value.ref o])) _ _ _;refine wpAny_pure ?_
  show wpAny _ _ (Builtin.Dict.updateFrom "dict.__init__" s.heap.objs.size (.ref o) [] .none) _ _ _
  unfold Builtin.Dict.updateFrom
  refine wpAny_bind (wpAny_typeOf tyO ?_)
  rw [if_neg (by decide)];refine wpAny_bind ?_
  unfold Builtin.Dict.merge Builtin.Dict.readDirectly
  refine wpAny_bind (wpAny_bind (wpAny_isInstance tyO isSubtype_dict_dict ?_))
  simp only [Bool.not_true,Bool.false_eq_true,if_false]
  refine wpAny_bind (wpAny_specialOf tyO F.slot_dict_iter.lookup (wpAny_pure ?_))
  simp only [beq_self_eq_true,if_true];refine wpAny_bind (wpAny_pure ?_)
  unfold Builtin.Dict.mergeDict
  rw [if_neg (by simpa using hdo)]
  unfold Builtin.Dict.showsAll
  rw [if_neg (by rw [hoS];exact Bool.false_ne_true)]
  refine wpAny_bind (wpAny_pure (wpAny_bind (wpAny_dictEntries hoo' hod ?_)))
  obtain ⟨x0,xr,rfl⟩:∃x0 xr,xs=x0::xr:=by cases xs with | nil=>exact absurd rfl ne | cons a b=>exact ⟨a,b,rfl⟩
  have hf:(decide (es.size≤8)&&es.all fun e=>(keyPart e.key).isSome)=false:=by
    rw [Bool.and_eq_false_iff]
    refine .inr ?_
    rw [←Array.all_toList,he]
    rfl
  dsimp only
  rw [hf,if_pos (by decide)]
  refine wpAny_bind (wpAny_dictEntries hnew rfl ?_)
  rw [if_pos (by decide)]
  refine wpAny_bind (forEmptyH hoo' hod (fun e hm=>?_) (fun e hm=>?_) ?_)
  · rw [he] at hm
    obtain ⟨x,hx,rfl⟩:=List.mem_map.mp hm
    obtain ⟨ob,h1,h2⟩:=hT x hx
    exact ⟨x.2.1,rfl,ob,up _ _ h1,h2⟩
  · have e1:(es.filter (·.hash == e.hash)).size=(es.toList.filter (·.hash == e.hash)).length:=by rw [←Array.length_toList,Array.toList_filter]
    rw [e1]
    refine filter_one ?_
    rw [he,List.map_map]
    exact hn
  · have hes:es.size=(x0::xr).length:=size_of_entries he
    have hne:es.isEmpty=false:=by simp [Array.isEmpty,hes]
    rw [hne,if_pos (by decide)]
    have hx:Obj.ExactDict { cls:=Value.type "dict",data:=Data.dict #[] }:=⟨rfl,rfl,rfl⟩
    refine wpAny_bind (wpAny_updateDictKeysTo hnew rfl (wpAny_pure ?_) (by omega))
    show wpAny _ _ (Builtin.Dict.addKeywords s.heap.objs.size [] >>= _) _ _ _;refine wpAny_bind (wpAny_pure (wpAny_pure ⟨rfl,h _ ⟨_,es,0+1,Heap.get?_update_self _ hnew (Obj.isFreed_of_dict (Obj.data_mapDictKeys rfl _)),hx.mapDictKeys _,Obj.data_mapDictKeys rfl _,he,his _ fun b ob e=>?_,hnd⟩ (Heap.SameBut.update ..)⟩))
    have hb:b≠s.heap.objs.size:=Nat.ne_of_lt (Heap.lt_size e)
    exact ((Heap.SameBut.update ..).2 b hb).trans (up _ _ e)
end
section
variable {X:Cx} {pins:List (Addr×Obj)} {σ:St} {H:Hp} {s:Shared} {a:Addr} {kvs:List (List Key×V)} {A:Around} {E:Value→Shared→Prop}
theorem d_copyT {Q:Value→Shared→Prop} (I:Inv X pins σ H s) (e:H a=some (.dT kvs)) (ne:kvs≠[]) (hn:(kvs.map fun kv=>tupleKeyHash (mixKind X.prog X.w) kv.1).Nodup)
    (h:∀p s',H p=none→Inv X pins σ (upd H p (.dT kvs)) s'→Q (.ref p) s'):wpAny (model X.prog X.w) A (call (.type "dict") [.ref a]) Q E s:=by
  obtain ⟨z,hd,xs,rel,dd⟩:=dt_of I.hok e
  have hl:=Paired.length rel
  obtain ⟨_,_,_,_,_,_,_,ais,_⟩:=id dd
  have hp:H s.heap.objs.size=none:=I.hok.fresh (Nat.le_refl _)
  refine copyH hd dd (fun z=>ne (List.length_eq_zero_iff.mp (by rw [hl,z];rfl))) (fun x hx=>?_) ?_ (by omega) (fun h' kp x hx=>?_) fun h' dd' hs=>?_
  · obtain ⟨o,_,_,ho,hc,_⟩:=ais x hx
    exact ⟨o,ho,hc⟩
  · have:∀{l:List (List Key×V)} {m:List (List Key×Addr×Value)},KT H l m→l.map (fun kv=>tupleKeyHash (mixKind X.prog X.w) kv.1)=m.map fun x=>(tupleKind (mixKind X.prog X.w)).hash x.1:=by
      intro l m r
      induction r with
      | nil=>rfl
      | cons hq _ ih=>rw [List.map_cons,List.map_cons,ih,hq.1];rfl
    rw [←this rel];exact hn
  · obtain ⟨o,its,n,ho,r⟩:=ais x hx
    exact ⟨o,its,n,kp _ _ ho,r⟩
  · obtain ⟨q,es,ep,hq,h2,h3,h4,_,h5⟩:=dd'
    refine h _ _ hp (I.laid (a:=s.heap.objs.size) (o:=.dT kvs) (t':=s.toks) (fun b ob hb=>?_) (Nat.le_refl _) ⟨z,beq_eq_false_iff_ne.mpr (Ne.symm (Nat.ne_of_lt I.big)),xs,rel.keeps fun c ys ec=>?_,q,es,ep,hq,h2,h3,h4,h5⟩)
    · exact (hs.2 b (Nat.ne_of_lt (Heap.lt_size hb))).trans (Heap.get?_push_of_some _ hb)
    · rw [upd_ne (ne_of_none ec hp)];exact ec
def rowHash (r:List Int):Int:=reduceHash (Builtin.Tuple.tupleHashOf (r.map hashInt))
def keyR (r:List Int):List Key:=r.map Sum.inl
theorem keyR_kV (r:List Int):(keyR r).map kV=r.map V.int:=by unfold keyR;rw [List.map_map];rfl
theorem keyR_hash {P:Program} {w:World} (r:List Int):tupleKeyHash (mixKind P w) (keyR r)=rowHash r:=by
  unfold tupleKeyHash rowHash keyR
  rw [List.map_map];rfl
end
section
variable {prog:Program} {w:World} {A:Around} {E:Value→Shared→Prop} {s:Shared} {d it:Addr} {o:Obj} {es:Array DictEntry} {ep i:Nat}
theorem rawIter {Q:Value→Shared→Prop} (hs:(d == sysModules)=false) (ho:s.heap.get? d=some o) (hc:o.ExactDict) (hd:o.data=.dict es ep)
    (q:Q (.ref s.heap.objs.size) { s with heap:=s.heap.push { cls:=.type "dict_keyiterator",data:=.fields #[.ref d,.int 0 0,.int es.size 0,.int ep 0] } }):wpAny (model prog w) A (pyIter (.ref d)) Q E s:=by
  have hT:s.TypeIs (.ref d) "dict" := ⟨o,ho,hc.1⟩
  refine wpAny_pyIter_slot hT F.slot_dict_iter (wpAny_call_entry F.slot_dict_iter hT F.entry_dict_iter ?_ (F.args_dict_iter_1 _))
  unfold Builtin.«dict.__iter__» Builtin.Dict.dictSlotNone
  refine wpAny_bind (wpAny_bind (wpAny_notOrdered_dict hT (?_:wpAny _ _ (pure (Value.ref d)) _ _ s)))
  refine wpAny_pure (?_:wpAny _ _ (Builtin.Dict.showsAll d >>= _) _ _ s)
  unfold Builtin.Dict.showsAll
  rw [hs,if_neg Bool.false_ne_true]
  refine wpAny_bind (wpAny_pure (wpAny_bind (wpAny_dictEntries ho hd (wpAny_bind (wpAny_dictEpoch ho hd (wpAny_bind (wpAny_newObj_type (wpAny_pure ⟨_,rfl,"dict_keyiterator",_,⟨_,Heap.get?_push_size _ rfl,rfl⟩,F.slot_dict_keyiterator_next.lookup,?_⟩))))))))
  simpa [rawInt] using q
theorem rawNext {Q:Option Value→Shared→Prop} (ht:s.heap.IsKeyIter it d i es.size ep) (ho:s.heap.get? d=some o) (hd:o.data=.dict es ep) (hlt:i<es.size)
    (q:∀h',h'.IsKeyIter it d (i+1) es.size ep→Heap.SameBut it s.heap h'→Q (some es[i].key) { s with heap:=h' }):wpAny (model prog w) A (pyNext (.ref it)) Q E s:=by
  obtain ⟨oi,hi,ci,di⟩:=id ht
  unfold pyNext
  refine wpAny_bind (wpAny_attempt (wpAny_callSpecial?_slot (name:=Str.ofString "__next__") ht.typeIs F.slot_dict_keyiterator_next (wpAny_call_entry F.slot_dict_keyiterator_next ht.typeIs F.entry_dict_keyiterator_next ?_ (F.args_dict_keyiterator_next_1 _))))
  refine wpAny_bind (wpAny_pure (wpAny_bind (wpAny_bind ?_)))
  first | refine wpAny_bind (wpAny_typeNameOfWhole_keyiter ht.typeIs (wpAny_pure (wpAny_bind (wpAny_fieldsOf hi di ?_)))) | refine wpAny_bind (wpAny_typeNameOf_keyiter ht.typeIs (wpAny_pure (wpAny_bind (wpAny_fieldsOf hi di ?_))))
  simp only [show Builtin.Dict_items.ownsTuple "dict_keyiterator" = false by decide,Bool.false_eq_true,if_false]
  refine (?_:wpAny _ _ (if (Value.ref d == Value.none)=true then _ else _) _ _ s)
  rw [if_neg (show ¬ ((Value.ref d == Value.none)=true) from Bool.false_ne_true)];refine wpAny_bind (wpAny_pure (wpAny_bind (wpAny_dictEntries ho hd ?_)))
  rw [if_neg (by simp)];refine wpAny_bind (wpAny_pure (wpAny_bind (wpAny_dictEpoch ho hd ?_)))
  rw [if_neg (by simp)];refine wpAny_pure ?_
  simp only [show ¬ ((i:Int)<0) from by omega,if_false,Int.toNat_natCast,Array.getElem?_eq_getElem hlt]
  refine wpAny_bind ?_
  first | refine wpAny_bind (wpAny_typeNameOfWhole_keyiter ht.typeIs (wpAny_pure (wpAny_bind (wpAny_isOneOf_keyiter ht.typeIs ?_)))) | refine wpAny_bind (wpAny_typeNameOf_keyiter ht.typeIs (wpAny_pure (wpAny_bind (wpAny_isOneOf_keyiter ht.typeIs ?_))))
  refine (wpAny_bind (wpAny_setField hi di (by simp) ?_):wpAny _ _ (setField (.ref it) 1 (rawInt ((i:Int)+1)) >>= _) _ _ s)
  have ht':(s.heap.update it (Obj.mapFields (·.setIfInBounds 1 (rawInt ((i:Int)+1))))).IsKeyIter it d (i+1) es.size ep :=
    ⟨_,Heap.get?_update_self _ hi (Obj.isFreed_of_fields (Obj.data_mapFields di _)),(Obj.cls_mapFields ..).trans ci,by rw [Obj.data_mapFields di];simp [rawInt]⟩
  refine wpAny_bind (wpAny_holding (wpAny_bind (wpAny_isOneOf_keyiter (s:={ s with heap:=s.heap.update it (Obj.mapFields (·.setIfInBounds 1 (rawInt ((i:Int)+1)))) }) ht'.typeIs (?_:wpAny _ _ (pure es[i].key) _ _ _))))
  exact wpAny_pure (wpAny_pure ⟨_,rfl,wpAny_pure (q _ ht' (Heap.SameBut.update ..))⟩)
theorem rawEnd {Q:Option Value→Shared→Prop} (hh:A.handled=none) (ht:s.heap.IsKeyIter it d es.size es.size ep) (ho:s.heap.get? d=some o) (hd:o.data=.dict es ep) (q:∀h',Heap.ExtBut it s.heap h'→Q none { s with heap:=h' }) :
    wpAny (model prog w) A (pyNext (.ref it)) Q E s:=by
  obtain ⟨oi,hi,ci,di⟩:=id ht
  unfold pyNext
  refine wpAny_bind (wpAny_attempt (wpAny_callSpecial?_slot (name:=Str.ofString "__next__") ht.typeIs F.slot_dict_keyiterator_next (wpAny_call_entry F.slot_dict_keyiterator_next ht.typeIs F.entry_dict_keyiterator_next ?_ (F.args_dict_keyiterator_next_1 _))))
  refine wpAny_bind (wpAny_pure (wpAny_bind (wpAny_bind ?_)))
  first | refine wpAny_bind (wpAny_typeNameOfWhole_keyiter ht.typeIs (wpAny_pure (wpAny_bind (wpAny_fieldsOf hi di ?_)))) | refine wpAny_bind (wpAny_typeNameOf_keyiter ht.typeIs (wpAny_pure (wpAny_bind (wpAny_fieldsOf hi di ?_))))
  simp only [show Builtin.Dict_items.ownsTuple "dict_keyiterator" = false by decide,Bool.false_eq_true,if_false]
  refine (?_:wpAny _ _ (if (Value.ref d == Value.none)=true then _ else _) _ _ s)
  rw [if_neg (show ¬ ((Value.ref d == Value.none)=true) from Bool.false_ne_true)];refine wpAny_bind (wpAny_pure (wpAny_bind (wpAny_dictEntries ho hd ?_)))
  rw [if_neg (by simp)];refine wpAny_bind (wpAny_pure (wpAny_bind (wpAny_dictEpoch ho hd ?_)))
  rw [if_neg (by simp)];refine wpAny_pure ?_
  simp only [show ¬ ((es.size:Int)<0) from by omega,if_false,Int.toNat_natCast,Array.getElem?_eq_none (Nat.le_refl es.size)]
  refine wpAny_bind ?_
  first | refine wpAny_bind (wpAny_typeNameOfWhole_keyiter ht.typeIs (wpAny_pure ?_)) | refine wpAny_bind (wpAny_typeNameOf_keyiter ht.typeIs (wpAny_pure ?_))
  refine (wpAny_bind (wpAny_setField hi di (by simp) ?_):wpAny _ _ (setField (.ref it) 0 .none >>= _) _ _ s)
  show wpAny _ _ (newExc (.type "StopIteration") [] >>= _) _ _ _;refine wpAny_bind ?_;simp only [newExc,newTuple]
  refine wpAny_bind (wpAny_newObj_type (wpAny_bind (m:=firstArgMember _ _) (wpAny_of_eq (a:=Value.none) (by first | rfl | (simp only [firstArgMember];rfl)) (wpAny_newObj_type ?_ (by size_fits)))) (by size_fits))
  simp only [raiseNew]
  refine wpAny_bind (wpAny_handled ?_)
  rw [show A.in1.handled=none from hh]
  refine wpAny_bind (wpAny_pure (wpAny_throw ?_));refine wpAny_bind (wpAny_isInstance (T := "StopIteration") (b:=true) ⟨_,Heap.get?_push_size _ rfl,rfl⟩ isSubtype_stop ?_)
  exact wpAny_pure (q _ (((Heap.SameBut.update ..).extBut.push _).push _))
theorem rawWalks (hh:A.handled=none) (I d:Addr) (hne:d≠I) {o:Obj} {es:Array DictEntry} {ep:Nat} (hd:o.data=.dict es ep) :
    Walks prog w A I [I,d] [I] es.size (fun i v=>∃e,es[i]?=some e∧v=e.key) (fun i h=>h.IsKeyIter I d i es.size ep∧h.get? d=some o) where
  sub:=fun b hb=>by simp at hb;simp [hb]
  frame:=fun _ _ _ st hk=>⟨st.1.at fun u e=>hk I (by simp) u e,hk d (by simp) _ st.2⟩
  item:=fun i s Q E hi st hQ=>rawNext st.1 st.2 hd hi fun h' ht' hs'=>hQ _ h' s.toks ⟨es[i],by simp [hi],rfl⟩ ⟨ht',(hs'.2 d hne).trans st.2⟩ fun b u hb e=>hs'.extBut b u (fun h=>hb (by simp [h])) e
  done:=fun s Q E st hQ=>rawEnd hh st.1 st.2 hd fun h' he'=>hQ h' s.toks fun b u hb e=>he' b u (fun h=>hb (by simp [h])) e
  self:=fun _ _ _ _ st hQ=>wpAny_pyIter_keyiter st.1 hQ
theorem rawSrc {d:Addr} (lo:(d == sysModules)=false) {o:Obj} {es:Array DictEntry} {ep:Nat} (hc:o.ExactDict) (hd:o.data=.dict es ep) :
    PySem.W.KdlSrc prog w "dict" d d es.size (fun i v=>∃e,es[i]?=some e∧v=e.key) (fun h=>h.get? d=some o) where
  type:=fun _ hm=>⟨o,hm,hc.1⟩
  there:=fun _ hm=>⟨Heap.lt_size hm,Heap.lt_size hm⟩
  keep:=fun _ _ hm hk=>hk d (.inl rfl) o hm
  notList:=by decide
  notTuple:=by decide
  hint:=fun _ _ _ _ hm hq=>PySem.W.kdl_hint_dict ⟨o,hm,hc.1⟩ hq
  iter:=fun _ _ hh hm=>⟨_,_,(fun _ _ hq=>rawIter lo hm hc hd hq),rawWalks hh _ d (Nat.ne_of_lt (Heap.lt_size hm)) hd,⟨⟨_,Heap.get?_push_size _ rfl,rfl,rfl⟩,Heap.get?_push_of_some _ hm⟩⟩
end
section
variable {X:Cx}
theorem vals_refs:∀bs:List Addr,Vals (bs.map V.ref) (bs.map Value.ref)
  | []=>.nil
  | b::bs=>.cons rfl (vals_refs bs)
def rListT:List V→Hp→VK→Prop:=fun xs H Q=>∃(a:Addr) (kvs:List (List Key×V)),xs=[.ref a]∧H a=some (.dT kvs)∧∀(l:Addr) (bs:List Addr),H l=none→Paired (fun b kv=>H b=some (.tup (kv.1.map kV))) bs kvs→Q (.ref l) (upd H l (.lst (bs.map V.ref)))
theorem call_listT (hh:X.calm=true):CallR X (.type "list") rListT:=by
  intro pins s σ H xs us Q I rv h
  obtain ⟨a,kvs,rfl,ha,q⟩:=h
  obtain ⟨u,rfl,ru⟩:=rv.one
  cases (show u=Value.ref a from ru)
  obtain ⟨z,hd,ys,rel,dd⟩:=dt_of I.hok ha
  have hl:=Paired.length rel
  obtain ⟨o,es,ep,ho,hc,hdat,he,_,_⟩:=id dd
  have hsz:es.size=ys.length:=size_of_entries he
  have hp:H s.heap.objs.size=none:=I.hok.fresh (Nat.le_refl _)
  refine PySem.W.kdl_call (rawSrc hd hc hdat) (I.ok.hd hh) ho (by omega) fun h' tk acc c kp hS hacc=>?_
  have ek:acc.toList=(ys.map fun y=>y.2.1).map Value.ref:=by
    refine List.ext_getElem? fun j=>?_
    rw [Array.getElem?_toList,List.map_map,List.getElem?_map]
    cases ej:acc[j]? with
    | none =>
      have:acc.size≤j:=Array.getElem?_eq_none_iff.mp ej
      rw [List.getElem?_eq_none (by rw [←hsz,←hacc.1];exact this)];rfl
    | some v =>
      obtain ⟨e,he1,rfl⟩:=hacc.2 j v ej
      rw [←Array.getElem?_toList,he,List.getElem?_map] at he1
      cases ey:ys[j]? with
      | none=>rw [ey] at he1;cases he1
      | some y=>rw [ey] at he1;cases he1;rfl
  have hpair:∀{l:List (List Key×V)} {m:List (List Key×Addr×Value)},KT H l m→Paired (fun b kv=>H b=some (.tup (kv.1.map kV))) (m.map fun y=>y.2.1) l:=by
    intro l m r
    induction r with
    | nil=>exact .nil
    | cons hq _ ih=>exact .cons hq.2.1 ih
  refine ⟨.ref s.heap.objs.size,_,I.laid (a:=s.heap.objs.size) (o:=.lst ((ys.map fun y=>y.2.1).map V.ref)) kp (Nat.le_refl _) ⟨by rw [List.length_map,List.length_map];omega,(ys.map fun y=>y.2.1).map Value.ref,c,vals_refs _,?_⟩,rfl,q _ _ hp (hpair rel)⟩
  rw [←ek,Array.toArray_toList];exact hS
end
section
variable {X:Cx}
def tDispT (tk tv:TE):TE:=fun σ H Q=>∀p,H p=none→tk σ (upd H p (.dT [])) fun y H1=>tv σ H1 fun x H2=>∃(b:Addr) (ks:List Key),y=.ref b∧H2 b=some (.tup (ks.map kV))∧H2 p=some (.dT [])∧Q (.ref p) (upd H2 p (.dT [(ks,x)]))
theorem pe_dispT {k v:Expr} {pos:Pos} {tk tv:TE} (hu:X.A.units+1<cLine) (hk:PE X k tk) (hv:PE X v tv):PE X (.Dict [some k] [v] pos) (tDispT tk tv):=by
  intro pins s σ H Q I q
  have hp:H s.heap.objs.size=none:=I.hok.fresh (Nat.le_refl _)
  have I1:=I.laid (a:=s.heap.objs.size) (o:=.dT []) (h':=s.heap.push { cls:=.type "dict",data:=.dict #[] }) (t':=s.toks) (fun _ _ q=>Heap.get?_push_of_some _ q) (Nat.le_refl _) (dt_empty s.heap I.big)
  rw [arm_eval_Dict,zip_pairTrees [some k] [v] X.env pos rfl rfl,dictDisplay_pairs _ (by intro z;cases z) (by show 1<17;decide)]
  refine wpAny_bind (wpAny_standAt (wpAny_bind ?_))
  unfold subDict
  refine wpAny_bind (wpAny_alloc (wpAny_bind (wpAny_holding ?_)))
  rw [if_pos (by show 1≤15;decide)]
  refine wpAny_bind (pairTrees_cons_walk (thn (hk pins _ σ _ _ I1 (q _ hp)) fun ku s1 ⟨y,H1,I2,r1,q1⟩=>thn (hv pins s1 σ H1 _ I2 q1) fun vu s2 ⟨x,H2,I3,r2,b,ks,ey,hb,hd,q2⟩=>pairTrees_nil_walk ?_))
  subst ey
  cases (show ku=Value.ref b from r1)
  obtain ⟨z,hs,ys,rel,dd⟩:=dt_of I3.hok hd
  cases rel
  refine wpAny_holding (wpAny_bind ?_)
  rw [List.forIn_cons]
  refine wpAny_bind (wpAny_bind (wpAny_dictSet_heap (hsz:=Nat.zero_le _) (show X.A.units<cLine by omega) (key_of I3.hok hb) dd fun h' dd' hsb=>wpAny_pure ?_))
  have rel:KT H2 [] []:=.nil
  have rel':=rel.put ks hb r2
  have ep0:putK ([]:List (List Key×V)) ks x=[(ks,x)]:=rfl
  rw [ep0] at rel'
  obtain ⟨qo,es,ep,hq,h2,h3,h4,_,h5⟩:=dd'
  show wpAny _ _ (forIn [] PUnit.unit _) _ _ _
  rw [List.forIn_nil]
  refine wpAny_pure (wpAny_pure (wpAny_pure (wpAny_pure ⟨.ref s.heap.objs.size,upd H2 s.heap.objs.size (.dT [(ks,x)]),d_write (ob:=.dT [(ks,x)]) I3 (by rw [hd];exact True.intro) hsb ⟨qo,hq⟩ ⟨by rw [sizeLine_eq];show 1≤_;omega,hs,_,rel'.keeps fun c ys ec=>?_,qo,es,ep,hq,h2,h3,h4,h5⟩,rfl,q2⟩)))
  rw [upd_ne (ne_of ec hd (fun z=>nomatch z))]
  exact ec
end
theorem bt_dict:bootBuiltins "dict" = some (.type "dict"):=by decide +kernel
def rowsD (rows:List (List Int)):List (List Key×V):=rows.map fun r=>(keyR r,V.bl true)
abbrev dRows (rows:List (List Int)):HO:=.dT (rowsD rows)
theorem call_dictT {X:Cx}:CallR X (.type "dict") (fun xs H Q=>∃(a:Addr) (rows:List (List Int)),xs=[.ref a]∧H a=some (dRows rows)∧rows≠[]∧(rows.map rowHash).Nodup∧∀p,H p=none→Q (.ref p) (upd H p (dRows rows))):=by
  intro pins s σ H xs us Q I rv h
  obtain ⟨a,rows,rfl,ha,ne,hn,q⟩:=h
  obtain ⟨u,rfl,ru⟩:=rv.one
  cases (show u=Value.ref a from ru)
  refine d_copyT I ha (fun z=>ne (List.map_eq_nil_iff.mp z)) ?_ fun p s' hp I'=>⟨.ref p,_,I',rfl,q p hp⟩
  have e:((rowsD rows).map fun kv=>tupleKeyHash (mixKind X.prog X.w) kv.1)=rows.map rowHash:=by
    unfold rowsD
    rw [List.map_map]
    exact List.map_congr_left fun r _=>keyR_hash r
  rw [e];exact hn
theorem keyR_inj {a b:List Int} (h:keyR a=keyR b):a=b:=by
  unfold keyR at h
  exact List.map_inj_right (fun _ _ z=>Sum.inl.inj z) |>.mp h
def addRow (rows:List (List Int)) (r:List Int):List (List Int):=if r∈rows then rows else rows++[r]
theorem putK_rows (rows:List (List Int)) (r:List Int):putK (rowsD rows) (keyR r) (.bl true)=rowsD (addRow rows r):=by
  unfold putK addRow
  have hm:((rowsD rows).any fun kv=>decide (kv.1=keyR r))=decide (r∈rows):=by
    unfold rowsD
    rw [Bool.eq_iff_iff,List.any_eq_true,decide_eq_true_iff]
    constructor
    · rintro ⟨kv,hk,e⟩
      obtain ⟨q,hq,rfl⟩:=List.mem_map.mp hk
      have:keyR q=keyR r:=by simpa using e
      rw [←keyR_inj this];exact hq
    · exact fun h=>⟨(keyR r,V.bl true),List.mem_map.mpr ⟨r,h,rfl⟩,by simp⟩
  rw [hm]
  by_cases h:r∈rows
  · rw [decide_eq_true h,if_pos rfl,if_pos h]
    unfold rowsD
    rw [List.map_map]
    refine List.map_congr_left fun q _=>?_
    show (if keyR q=keyR r then (keyR q,V.bl true) else (keyR q,V.bl true))=_
    split <;> rfl
  · rw [decide_eq_false h,if_neg Bool.false_ne_true,if_neg h]
    unfold rowsD
    rw [List.map_append];rfl
theorem addRow_mem {rows:List (List Int)} {r q:List Int}:q∈addRow rows r↔q∈rows∨q=r:=by
  unfold addRow
  split
  · rename_i h
    exact ⟨.inl,fun z=>z.elim id fun z=>z▸h⟩
  · simp
theorem addRow_nodup {rows:List (List Int)} {r:List Int} (h:rows.Nodup):(addRow rows r).Nodup:=by
  unfold addRow
  split
  · exact h
  · rename_i hn
    exact List.nodup_append.mpr ⟨h,by simp,fun a ha b hb z=>hn (by
      have:b=r:=by simpa using hb
      rw [←this,←z];exact ha)⟩
theorem call_tuple_ofK {X:Cx} {K:PySem.W.Frag} (h:X.K=K):CallR X (.type "tuple") (fun xs H Q=>∃p ys,xs=[.ref p]∧((SqL K H p ys∧∀l,H l=none→Q (.ref l) (upd H l (.tup ys)))∨(SqT K H p ys∧Q (.ref p) H))):=h▸call_tuple_of
end L2
namespace L2
open PySem PySem.Spec PyProof.Rows
inductive HT3 where
  | lf | nd (l:HT3) (k:Int) (r:HT3)
def HT3.has (x:Int):HT3→Prop
  | .lf=>False
  | .nd l k r=>x=k∨l.has x∨r.has x
def HT3.ord:HT3→Prop
  | .lf=>True
  | .nd l k r=>l.ord∧r.ord∧(∀y,l.has y→y<k)∧∀y,r.has y→k<y
def HT3.ins (x:Int):HT3→Option HT3
  | .lf=>some (.nd .lf x .lf)
  | .nd l k r=>if x<k then (l.ins x).map fun l'=>.nd l' k r else if k<x then (r.ins x).map fun r'=>.nd l k r' else none
theorem HT3.ins_ok {x:Int}:∀{t t':HT3},t.ord→t.ins x=some t'→t'.ord∧¬ t.has x∧∀y,t'.has y↔y=x∨t.has y
  | .lf,t',_,h=>by
    cases h
    exact ⟨⟨trivial,trivial,(fun _ h=>h.elim),(fun _ h=>h.elim)⟩,(fun h=>h),fun y=>by simp [HT3.has]⟩
  | .nd l k r,t',ho,h=>by
    obtain ⟨h1,h2,h3,h4⟩:=ho
    unfold HT3.ins at h
    split at h
    · rename_i hx
      obtain ⟨l',hl,rfl⟩:=Option.map_eq_some_iff.mp h
      obtain ⟨a,b,c⟩:=HT3.ins_ok h1 hl
      refine ⟨⟨a,h2,fun y hy=>?_,h4⟩,fun hh=>?_,fun y=>?_⟩
      · rcases (c y).mp hy with z | z
        · rw [z];exact hx
        · exact h3 y z
      · rcases hh with z | z | z
        · omega
        · exact b z
        · have:=h4 x z;omega
      · show y=k∨l'.has y∨r.has y↔y=x∨y=k∨l.has y∨r.has y
        rw [c]
        exact ⟨fun z=>z.elim (fun z=>.inr (.inl z)) fun z=>z.elim (fun z=>z.elim .inl fun z=>.inr (.inr (.inl z))) fun z=>.inr (.inr (.inr z)),fun z=>z.elim (fun z=>.inr (.inl (.inl z))) fun z=>z.elim .inl fun z=>z.elim (fun z=>.inr (.inl (.inr z))) fun z=>.inr (.inr z)⟩
    · split at h
      · rename_i hx
        obtain ⟨r',hr,rfl⟩:=Option.map_eq_some_iff.mp h
        obtain ⟨a,b,c⟩:=HT3.ins_ok h2 hr
        refine ⟨⟨h1,a,h3,fun y hy=>?_⟩,fun hh=>?_,fun y=>?_⟩
        · rcases (c y).mp hy with z | z
          · rw [z];exact hx
          · exact h4 y z
        · rcases hh with z | z | z
          · omega
          · have:=h3 x z;omega
          · exact b z
        · show y=k∨l.has y∨r'.has y↔y=x∨y=k∨l.has y∨r.has y
          rw [c]
          exact ⟨fun z=>z.elim (fun z=>.inr (.inl z)) fun z=>z.elim (fun z=>.inr (.inr (.inl z))) fun z=>z.elim .inl fun z=>.inr (.inr (.inr z)),fun z=>z.elim (fun z=>.inr (.inr (.inl z))) fun z=>z.elim .inl fun z=>z.elim (fun z=>.inr (.inl z)) fun z=>.inr (.inr (.inr z))⟩
      · cases h
def allIn:List Int→HT3→Bool
  | [],_=>true
  | x::l,t=>match t.ins x with
    | some t'=>allIn l t'
    | none=>false
theorem allIn_ok:∀{l:List Int} {t:HT3},t.ord→allIn l t=true→l.Nodup∧∀x∈l,¬ t.has x
  | [],_,_,_=>⟨List.nodup_nil,fun _ h=>nomatch h⟩
  | x::l,t,ho,h=>by
    unfold allIn at h
    cases e:t.ins x with
    | none=>rw [e] at h;cases h
    | some t' =>
      rw [e] at h
      obtain ⟨a,b,c⟩:=HT3.ins_ok ho e
      obtain ⟨d,f⟩:=allIn_ok a h
      refine ⟨List.nodup_cons.mpr ⟨fun z=>f x z ((c x).mpr (.inl rfl)),d⟩,fun y hy=>?_⟩
      rcases List.mem_cons.mp hy with z | z
      · rw [z];exact b
      · exact fun w=>f y z ((c y).mpr (.inr w))
def small12:Nat→List (List Int)
  | 0=>[[]]
  | w+1=>(small12 w).flatMap fun r=>[0,1,2,3,4,5,6,7,8,9,10,11].map fun i=>i::r
theorem mem_small:∀{w:Nat} {r:List Int},r.length=w→(∀x∈r,0≤x∧x<12)→r∈small12 w
  | 0,[],_,_=>by simp [small12]
  | w+1,i::r,hl,h=>by
    simp only [small12,List.mem_flatMap,List.mem_map]
    refine ⟨r,mem_small (by simpa using hl) fun x hx=>h x (List.mem_cons_of_mem _ hx),i,?_,rfl⟩
    have:=h i List.mem_cons_self
    have:i=0∨i=1∨i=2∨i=3∨i=4∨i=5∨i=6∨i=7∨i=8∨i=9∨i=10∨i=11:=by omega
    simpa using this
theorem hash_all:∀w,w≤3→((small12 w).map rowHash).Nodup:=by
  have h:∀w,w≤3→allIn ((small12 w).map rowHash) .lf=true:=by decide +kernel
  exact fun w hw=>(allIn_ok (t:=.lf) trivial (h w hw)).1
theorem nodup_inj {α β:Type} {f:α→β}:∀{l:List α},(l.map f).Nodup→∀a∈l,∀b∈l,f a=f b→a=b
  | x::l,h,a,ha,b,hb,e=>by
    rw [List.map_cons,List.nodup_cons] at h
    rcases List.mem_cons.mp ha with ha1 | ha1
    · rcases List.mem_cons.mp hb with hb1 | hb1
      · rw [ha1,hb1]
      · exact absurd (List.mem_map.mpr ⟨b,hb1,by rw [←e,ha1]⟩) h.1
    · rcases List.mem_cons.mp hb with hb1 | hb1
      · exact absurd (List.mem_map.mpr ⟨a,ha1,by rw [e,hb1]⟩) h.1
      · exact nodup_inj h.2 a ha1 b hb1 e
theorem hash_rows {w:Nat} (hw:w≤3) {rows:List (List Int)} (hn:rows.Nodup) (h:∀r∈rows,r.length=w∧∀x∈r,0≤x∧x<12):(rows.map rowHash).Nodup:=by
  unfold List.Nodup at hn ⊢
  rw [List.pairwise_map]
  refine hn.imp_of_mem fun {a b} ha hb hne e=>hne ?_
  exact nodup_inj (hash_all w hw) a (mem_small (h a ha).1 (h a ha).2) b (mem_small (h b hb).1 (h b hb).2) e
end L2
namespace E1
def quo (number part:Int):Int:=-((2*number+part).fdiv (2*part))
theorem quo_neg (a p:Int):quo (-a) (-p)=quo a p:=by
  unfold quo
  have e1:2*-a+-p=-(2*a+p):=by omega
  have e2:2*-p=-(2*p):=by omega
  rw [e1,e2,Int.neg_fdiv_neg]
theorem quo_rest' {a p:Int} (hp:0<p):2*(a+quo a p*p).natAbs≤p.natAbs:=by
  have e:(2*a+p)=(2*p)*((2*a+p).fdiv (2*p))+(2*a+p).fmod (2*p):=by
    have:=Int.mul_fdiv_add_fmod (2*a+p) (2*p)
    omega
  unfold quo
  generalize hf:(2*a+p).fdiv (2*p)=f at e
  generalize hr:(2*a+p).fmod (2*p)=r at e
  have e2:2*(a+-f*p)=r - p:=by
    have:(2*p)*f=2*(f*p):=by rw [Int.mul_assoc,Int.mul_comm p f]
    rw [this] at e
    have:-f*p=-(f*p):=Int.neg_mul f p
    rw [this];omega
  have h1:0≤r:=by rw [←hr];exact Int.fmod_nonneg_of_pos _ (by omega)
  have h2:r<2*p:=by rw [←hr];exact Int.fmod_lt_of_pos _ (by omega)
  omega
theorem quo_rest {a p:Int} (hp:p≠0):2*(a+quo a p*p).natAbs≤p.natAbs:=by
  by_cases h:0<p
  · exact quo_rest' h
  · have h2:=quo_rest' (a:=-a) (p:=-p) (by omega)
    rw [quo_neg] at h2
    have e:-a+quo a p*-p=-(a+quo a p*p):=by rw [Int.mul_neg];omega
    rw [e,Int.natAbs_neg,Int.natAbs_neg] at h2
    exact h2
theorem quo_size {a p:Int} (hp:p≠0):2*((quo a p).natAbs*p.natAbs)≤2*a.natAbs+p.natAbs:=by
  have h:=quo_rest (a:=a) hp
  have e:(quo a p).natAbs*p.natAbs=(quo a p*p).natAbs:=(Int.natAbs_mul _ _).symm
  rw [e];omega
theorem quo_exact {a p:Int} (hp:p≠0) (hd:p∣a):a+quo a p*p=0:=by
  have h:=quo_rest (a:=a) hp
  have hd2:p∣a+quo a p*p:=Int.dvd_add hd (Int.dvd_mul_left _ _)
  have hz:(a+quo a p*p).natAbs=0:=by
    have hd3:p.natAbs∣(a+quo a p*p).natAbs:=Int.natAbs_dvd_natAbs.mpr hd2
    have hpp:0<p.natAbs:=by omega
    rcases Nat.eq_zero_or_pos (a+quo a p*p).natAbs with z | z
    · exact z
    · have:=Nat.le_of_dvd z hd3
      omega
  omega
theorem quo_two {a p:Int} (hp:p≠0) (h:2*p.natAbs≤a.natAbs):2≤(quo a p).natAbs:=by
  have h1:=quo_rest (a:=a) hp
  have e:(quo a p*p).natAbs=(quo a p).natAbs*p.natAbs:=Int.natAbs_mul _ _
  have hpp:0<p.natAbs:=by omega
  have h3:3*p.natAbs≤2*(quo a p*p).natAbs:=by omega
  rw [e] at h3
  rcases Nat.lt_or_ge (quo a p).natAbs 2 with z | z
  · have:(quo a p).natAbs*p.natAbs≤1*p.natAbs:=Nat.mul_le_mul_right _ (by omega)
    omega
  · exact z
theorem quo_zero {a p:Int} (hp:p≠0) (h:2*a.natAbs<p.natAbs):quo a p=0:=by
  have h1:=quo_size (a:=a) hp
  have hpp:0<p.natAbs:=by omega
  rcases Nat.eq_zero_or_pos (quo a p).natAbs with z | z
  · omega
  · have:1*p.natAbs≤(quo a p).natAbs*p.natAbs:=Nat.mul_le_mul_right _ z
    omega
end E1
namespace E1
theorem quo_le {a p:Int} (hp:p≠0):(quo a p).natAbs≤a.natAbs:=by
  have h:=quo_size (a:=a) hp
  have hpp:0<p.natAbs:=by omega
  rcases Nat.eq_zero_or_pos (quo a p).natAbs with z | z
  · omega
  · have h2:(quo a p).natAbs*1≤(quo a p).natAbs*p.natAbs:=Nat.mul_le_mul_left _ hpp
    have h3:1*p.natAbs≤(quo a p).natAbs*p.natAbs:=Nat.mul_le_mul_right _ z
    have h4:((quo a p).natAbs - 1)*(p.natAbs - 1)+(quo a p).natAbs+p.natAbs=(quo a p).natAbs*p.natAbs+1:=by
      obtain ⟨s,hs⟩:∃s,(quo a p).natAbs=s+1:=⟨_,(Nat.succ_pred_eq_of_pos z).symm⟩
      obtain ⟨t,ht⟩:∃t,p.natAbs=t+1:=⟨_,(Nat.succ_pred_eq_of_pos hpp).symm⟩
      rw [hs,ht]
      simp only [Nat.add_sub_cancel]
      grind
    omega
theorem grow {q u u':Int} (hq:2≤q.natAbs) (h:u'.natAbs≤u.natAbs):u.natAbs≤(u'+q*u).natAbs:=by
  have e:(q*u).natAbs=q.natAbs*u.natAbs:=Int.natAbs_mul _ _
  have h2:2*u.natAbs≤q.natAbs*u.natAbs:=Nat.mul_le_mul_right _ hq
  omega
theorem small {a b x y z:Int} (h:a*y - b*x=z∨a*y - b*x=-z) (hx:x≠0) (hxy:2*y.natAbs≤x.natAbs) (hab:a.natAbs≤b.natAbs):b.natAbs≤2*z.natAbs:=by
  have h1:(b*x).natAbs≤z.natAbs+(a*y).natAbs:=by rcases h with h | h <;> omega
  rw [Int.natAbs_mul,Int.natAbs_mul] at h1
  have h2:a.natAbs*y.natAbs≤b.natAbs*y.natAbs:=Nat.mul_le_mul_right _ hab
  have h3:b.natAbs*(2*y.natAbs)≤b.natAbs*x.natAbs:=Nat.mul_le_mul_left _ hxy
  have h4:b.natAbs*(2*y.natAbs)=2*(b.natAbs*y.natAbs):=by rw [Nat.mul_left_comm]
  have h5:b.natAbs*1≤b.natAbs*x.natAbs:=Nat.mul_le_mul_left _ (by omega)
  omega
structure Co (x0 y0 u v u' v':Int):Prop where
  dt:u*v' - u'*v=1∨u*v' - u'*v=-1
  bu:u.natAbs≤1+2*y0.natAbs
  bu':u'.natAbs≤1+2*y0.natAbs
  bv:v.natAbs≤1+2*x0.natAbs
  bv':v'.natAbs≤1+2*x0.natAbs
theorem Co.init (x0 y0:Int):Co x0 y0 1 0 0 1:=⟨Or.inl rfl,by omega,by omega,by omega,by omega⟩
theorem Co.swap {x0 y0 u v u' v':Int} (h:Co x0 y0 u v u' v'):Co x0 y0 u' v' u v :=
  ⟨by rcases h.dt with z | z
      · exact Or.inr (by grind)
      · exact Or.inl (by grind),h.bu',h.bu,h.bv',h.bv⟩
theorem Co.y0 {x0 y0 u v u' v':Int} (h:Co x0 y0 u v u' v') :
    u*(u'*x0+v'*y0) - u'*(u*x0+v*y0)=y0∨u*(u'*x0+v'*y0) - u'*(u*x0+v*y0)=-y0:=by
  have e:u*(u'*x0+v'*y0) - u'*(u*x0+v*y0)=(u*v' - u'*v)*y0:=by grind
  rw [e]
  rcases h.dt with z | z
  · left;rw [z];omega
  · right;rw [z];omega
theorem Co.x0 {x0 y0 u v u' v':Int} (h:Co x0 y0 u v u' v') :
    v*(u'*x0+v'*y0) - v'*(u*x0+v*y0)=x0∨v*(u'*x0+v'*y0) - v'*(u*x0+v*y0)=-x0:=by
  have e:v*(u'*x0+v'*y0) - v'*(u*x0+v*y0)=-((u*v' - u'*v)*x0):=by grind
  rw [e]
  rcases h.dt with z | z
  · right;rw [z];omega
  · left;rw [z];omega
structure Head (x0 y0 u v u' v':Int):Prop where
  co:Co x0 y0 u v u' v'
  nz:u*x0+v*y0≠0
  st:u'*x0+v'*y0=0∨(u=1∧v=0∧u'=0∧v'=1) ∨
    (u'.natAbs≤u.natAbs∧v'.natAbs≤v.natAbs∧2*(u*x0+v*y0).natAbs≤(u'*x0+v'*y0).natAbs)
  keep:x0∣y0→u=1∧v=0
structure Mid (x0 y0 u v u' v':Int):Prop where
  co:Co x0 y0 u v u' v'
  nz:u*x0+v*y0≠0
  le:2*(u'*x0+v'*y0).natAbs≤(u*x0+v*y0).natAbs
  gv:v.natAbs≤v'.natAbs
  gu:u.natAbs≤u'.natAbs∨(u'=0∧u.natAbs=1)
  keep:x0∣y0→u=1∧v=0∧u'*x0+v'*y0=0
theorem head_init {x0 y0:Int} (h:x0≠0):Head x0 y0 1 0 0 1:=⟨Co.init ..,by simpa using h,Or.inr (Or.inl ⟨rfl,rfl,rfl,rfl⟩),fun _=>⟨rfl,rfl⟩⟩
theorem head_mid {x0 y0 u v u' v' q:Int} (h:Head x0 y0 u v u' v') (hy:u'*x0+v'*y0≠0)
    (hq:q=quo (u'*x0+v'*y0) (u*x0+v*y0)):Mid x0 y0 u v (u'+q*u) (v'+q*v):=by
  have e:(u'+q*u)*x0+(v'+q*v)*y0=(u'*x0+v'*y0)+q*(u*x0+v*y0):=by grind
  have hr:=quo_rest (a:=u'*x0+v'*y0) h.nz
  rw [←hq,←e] at hr
  have hd:u*(v'+q*v) - (u'+q*u)*v=1∨u*(v'+q*v) - (u'+q*u)*v=-1:=by
    have:u*(v'+q*v) - (u'+q*u)*v=u*v' - u'*v:=by grind
    rw [this];exact h.co.dt
  have gv:v.natAbs≤(v'+q*v).natAbs:=by
    rcases h.st with z | z | z
    · exact absurd z hy
    · obtain ⟨rfl,rfl,rfl,rfl⟩:=z;simp
    · exact grow (hq▸quo_two h.nz z.2.2) z.2.1
  have gu:u.natAbs≤(u'+q*u).natAbs∨(u'+q*u=0∧u.natAbs=1):=by
    rcases h.st with z | z | z
    · exact absurd z hy
    · obtain ⟨rfl,rfl,rfl,rfl⟩:=z
      by_cases hq0:q=0
      · right;subst hq0;simp
      · left;simp only [Int.mul_one,Int.zero_add];omega
    · exact Or.inl (grow (hq▸quo_two h.nz z.2.2) z.1)
  have c0:Co x0 y0 u v (u'+q*u) (v'+q*v)∨True:=Or.inr trivial
  have ey:u*((u'+q*u)*x0+(v'+q*v)*y0) - (u'+q*u)*(u*x0+v*y0)=y0 ∨
      u*((u'+q*u)*x0+(v'+q*v)*y0) - (u'+q*u)*(u*x0+v*y0)=-y0:=by
    have e3:u*((u'+q*u)*x0+(v'+q*v)*y0) - (u'+q*u)*(u*x0+v*y0)=(u*(v'+q*v) - (u'+q*u)*v)*y0:=by grind
    rw [e3]
    rcases hd with z | z
    · left;rw [z];omega
    · right;rw [z];omega
  have ex:v*((u'+q*u)*x0+(v'+q*v)*y0) - (v'+q*v)*(u*x0+v*y0)=x0 ∨
      v*((u'+q*u)*x0+(v'+q*v)*y0) - (v'+q*v)*(u*x0+v*y0)=-x0:=by
    have e3:v*((u'+q*u)*x0+(v'+q*v)*y0) - (v'+q*v)*(u*x0+v*y0)=-((u*(v'+q*v) - (u'+q*u)*v)*x0):=by grind
    rw [e3]
    rcases hd with z | z
    · right;rw [z];omega
    · left;rw [z];omega
  have bv':=small ex h.nz hr gv
  refine ⟨⟨hd,h.co.bu,?_,h.co.bv,by omega⟩,h.nz,hr,gv,gu,fun hk=>?_⟩
  · rcases gu with z | z
    · have:=small ey h.nz hr z;omega
    · rw [z.1];simp
  · obtain ⟨rfl,rfl⟩:=h.keep hk
    refine ⟨rfl,rfl,?_⟩
    rw [e,hq]
    refine quo_exact h.nz ?_
    simp only [Int.one_mul,Int.zero_mul,Int.add_zero]
    exact Int.dvd_add (Int.dvd_mul_left _ _) (Int.dvd_mul_of_dvd_right hk)
structure Tail (x0 y0 u v u' v':Int):Prop where
  co:Co x0 y0 u v u' v'
  nz:u'*x0+v'*y0≠0
  le:2*(u*x0+v*y0).natAbs≤(u'*x0+v'*y0).natAbs
  gv:v'.natAbs≤v.natAbs
  gu:u'.natAbs≤u.natAbs
  nk:¬ x0∣y0
theorem mid_tail {x0 y0 u v u' v' q:Int} (h:Mid x0 y0 u v u' v') (hy:u'*x0+v'*y0≠0)
    (hq:q=quo (u*x0+v*y0) (u'*x0+v'*y0)):Tail x0 y0 (u+q*u') (v+q*v') u' v':=by
  have e:(u+q*u')*x0+(v+q*v')*y0=(u*x0+v*y0)+q*(u'*x0+v'*y0):=by grind
  have hr:=quo_rest (a:=u*x0+v*y0) hy
  rw [←hq,←e] at hr
  have h2:2≤q.natAbs:=hq▸quo_two hy h.le
  have hd:(u+q*u')*v' - u'*(v+q*v')=1∨(u+q*u')*v' - u'*(v+q*v')=-1:=by
    have:(u+q*u')*v' - u'*(v+q*v')=u*v' - u'*v:=by grind
    rw [this];exact h.co.dt
  have gv:=grow h2 h.gv
  have gu:u'.natAbs≤(u+q*u').natAbs:=by
    rcases h.gu with z | z
    · exact grow h2 z
    · rw [z.1];simp
  have ey:u'*((u+q*u')*x0+(v+q*v')*y0) - (u+q*u')*(u'*x0+v'*y0)=y0 ∨
      u'*((u+q*u')*x0+(v+q*v')*y0) - (u+q*u')*(u'*x0+v'*y0)=-y0:=by
    have e3:u'*((u+q*u')*x0+(v+q*v')*y0) - (u+q*u')*(u'*x0+v'*y0)=-(((u+q*u')*v' - u'*(v+q*v'))*y0):=by grind
    rw [e3]
    rcases hd with z | z
    · right;rw [z];omega
    · left;rw [z];omega
  have ex:v'*((u+q*u')*x0+(v+q*v')*y0) - (v+q*v')*(u'*x0+v'*y0)=x0 ∨
      v'*((u+q*u')*x0+(v+q*v')*y0) - (v+q*v')*(u'*x0+v'*y0)=-x0:=by
    have e3:v'*((u+q*u')*x0+(v+q*v')*y0) - (v+q*v')*(u'*x0+v'*y0)=(((u+q*u')*v' - u'*(v+q*v'))*x0):=by grind
    rw [e3]
    rcases hd with z | z
    · left;rw [z];omega
    · right;rw [z];omega
  have bv:=small ex hy hr gv
  have bu:=small ey hy hr gu
  exact ⟨⟨hd,by omega,h.co.bu',by omega,h.co.bv'⟩,hy,hr,gv,gu,fun hk=>hy (h.keep hk).2.2⟩
theorem tail_head {x0 y0 u v u' v':Int} (h:Tail x0 y0 u v u' v') (hx:u*x0+v*y0≠0):Head x0 y0 u v u' v' :=
  ⟨h.co,hx,Or.inr (Or.inr ⟨h.gu,h.gv,h.le⟩),fun hk=>absurd hk h.nk⟩
theorem tail_swap {x0 y0 u v u' v':Int} (h:Tail x0 y0 u v u' v') (hx:u*x0+v*y0=0):Head x0 y0 u' v' u v :=
  ⟨h.co.swap,h.nz,Or.inl hx,fun hk=>absurd hk h.nk⟩
theorem mid_head {x0 y0 u v u' v':Int} (h:Mid x0 y0 u v u' v') (hy:u'*x0+v'*y0=0):Head x0 y0 u v u' v' :=
  ⟨h.co,h.nz,Or.inl hy,fun hk=>⟨(h.keep hk).1,(h.keep hk).2.1⟩⟩
theorem Head.ends {x0 y0 u v u' v':Int} (h:Head x0 y0 u v u' v') (hy:u'*x0+v'*y0=0) :
    ∃s:Int,(s=1∨s=-1)∧x0=s*v'*(u*x0+v*y0)∧y0=-(s*u'*(u*x0+v*y0)):=by
  have h1:=h.co.x0
  have h2:=h.co.y0
  have dt:=h.co.dt
  refine ⟨u*v' - u'*v,dt,?_,?_⟩
  · have e:(u*v' - u'*v)*v'*(u*x0+v*y0)=(u*v' - u'*v)*((u*v' - u'*v)*x0)+(u*v' - u'*v)*v*(u'*x0+v'*y0):=by grind
    rw [e,hy]
    rcases dt with z | z <;> rw [z] <;> omega
  · have e:-((u*v' - u'*v)*u'*(u*x0+v*y0))=(u*v' - u'*v)*((u*v' - u'*v)*y0) - (u*v' - u'*v)*u*(u'*x0+v'*y0):=by grind
    rw [e,hy]
    rcases dt with z | z <;> rw [z] <;> omega
theorem row_le {B u v t l x0 y0:Int} {b:Nat} (hu:u.natAbs≤1+2*y0.natAbs) (hv:v.natAbs≤1+2*x0.natAbs)
    (hx:x0.natAbs≤2^b) (hy:y0.natAbs≤2^b) (ht:t.natAbs≤2^b) (hl:l.natAbs≤2^b):(u*t+v*l).natAbs≤2^(2*b+3):=by
  have h1:(u*t).natAbs≤(1+2*2^b)*2^b:=by rw [Int.natAbs_mul];exact Nat.mul_le_mul (by omega) ht
  have h2:(v*l).natAbs≤(1+2*2^b)*2^b:=by rw [Int.natAbs_mul];exact Nat.mul_le_mul (by omega) hl
  have h3:(2:Nat)^(2*b+3)=8*(2^b*2^b):=by rw [Nat.pow_add,Nat.two_mul,Nat.pow_add];omega
  have h4:(1+2*2^b)*2^b=2^b+2*((2:Nat)^b*2^b):=by rw [Nat.add_mul,Nat.mul_assoc];omega
  have h5:(2:Nat)^b*1≤2^b*2^b:=Nat.mul_le_mul_left _ Nat.one_le_two_pow
  omega
end E1
namespace E1
abbrev Tab:=Nat→Nat→Int
inductive RC where
  | add (i j:Nat) (q:Int) | swap (i j:Nat) | turn (i:Nat)
def addR (e:Tab) (i j:Nat) (q:Int):Tab:=fun x y=>if x=i then e i y+q*e j y else e x y
def sw (i j x:Nat):Nat:=if x=i then j else if x=j then i else x
def swapR (e:Tab) (i j:Nat):Tab:=fun x y=>e (sw i j x) y
def turnR (e:Tab) (i:Nat):Tab:=fun x y=>if x=i then -e i y else e x y
def RC.app:RC→Tab→Tab
  | .add i j q,e=>addR e i j q
  | .swap i j,e=>swapR e i j
  | .turn i,e=>turnR e i
def rapps (L:List RC) (e:Tab):Tab:=L.foldl (fun e c=>c.app e) e
theorem rapps_nil (e:Tab):rapps [] e=e:=rfl
theorem rapps_cons (c:RC) (L:List RC) (e:Tab):rapps (c::L) e=rapps L (c.app e):=rfl
theorem rapps_app (L M:List RC) (e:Tab):rapps (L++M) e=rapps M (rapps L e):=List.foldl_append
def RC.ok (n:Nat):RC→Prop
  | .add i j _=>i<n∧j<n∧i≠j
  | .swap i j=>i<n∧j<n∧i≠j
  | .turn i=>i<n
def Le (c:Nat) (e:Tab):Prop:=∀x y,(e x y).natAbs≤2^c
theorem Le.mono {c d:Nat} {e:Tab} (h:Le c e) (hc:c≤d):Le d e:=fun x y=>Nat.le_trans (h x y) (Nat.pow_le_pow_right (by decide) hc)
theorem addR_zero (e:Tab) (i j:Nat):addR e i j 0=e:=by
  funext x y;unfold addR;split
  · rename_i h;subst h;simp
  · rfl
def lch (i j:Nat) (q:Int):List RC:=if q=0 then [] else [.add i j q]
theorem lch_app (e:Tab) (i j:Nat) (q:Int):rapps (lch i j q) e=addR e i j q:=by
  unfold lch;split
  · rename_i h;subst h;rw [addR_zero];rfl
  · rfl
theorem lch_len (i j:Nat) (q:Int):(lch i j q).length≤1:=by unfold lch;split <;> simp
theorem lch_ok {n i j:Nat} {q:Int} (hi:i<n) (hj:j<n) (hij:i≠j):∀c∈lch i j q,c.ok n:=by
  unfold lch;split
  · simp
  · intro c hc;simp at hc;subst hc;exact ⟨hi,hj,hij⟩
def lq (e:Tab) (i j p:Nat):Int:=quo (e i p) (e j p)
def less (e:Tab) (i j p:Nat):Tab:=addR e i j (lq e i j p)
theorem less_le {c:Nat} {e:Tab} {i j p:Nat} (h:Le c e) (hp:e j p≠0):Le (2*c+3) (less e i j p):=by
  intro x y
  unfold less addR
  have h3:(2:Nat)^(2*c+3)=8*(2^c*2^c):=by rw [Nat.pow_add,Nat.two_mul,Nat.pow_add];omega
  have h5:(2:Nat)^c*1≤2^c*2^c:=Nat.mul_le_mul_left _ Nat.one_le_two_pow
  split
  · have h1:(lq e i j p*e j y).natAbs≤2^c*2^c:=by
      rw [Int.natAbs_mul];exact Nat.mul_le_mul (Nat.le_trans (quo_le hp) (h i p)) (h j y)
    have:=h i y
    omega
  · have:=h x y;omega
theorem less_rest {e:Tab} {i j p:Nat} (hp:e j p≠0):2*(less e i j p i p).natAbs≤(e j p).natAbs:=by
  unfold less addR;rw [if_pos rfl];exact quo_rest hp
theorem less_other {e:Tab} {i j p x:Nat} (hx:x≠i) (y:Nat):less e i j p x y=e x y:=by unfold less addR;rw [if_neg hx]
theorem less_row {e:Tab} {i j p:Nat} (y:Nat):less e i j p i y=e i y+lq e i j p*e j y:=by unfold less addR;rw [if_pos rfl]
inductive MeetR (cap top low p:Nat):Tab→List RC→Tab→Prop
  | done {e:Tab}:Le cap e→e low p=0→MeetR cap top low p e [] e
  | half {e e1:Tab}:Le cap e→e low p≠0→e top p≠0→e1=less e low top p→Le cap e1→e1 low p=0 →
      MeetR cap top low p e (lch low top (lq e low top p)) e1
  | turn {e e1 e2 e':Tab} {L:List RC}:Le cap e→e low p≠0→e top p≠0→e1=less e low top p→Le cap e1→e1 low p≠0 →
      e2=less e1 top low p→Le cap e2→e2 top p≠0→MeetR cap top low p e2 L e' →
      MeetR cap top low p e (lch low top (lq e low top p)++(lch top low (lq e1 top low p)++L)) e'
  | swap {e e1 e2:Tab}:Le cap e→e low p≠0→e top p≠0→e1=less e low top p→Le cap e1→e1 low p≠0 →
      e2=less e1 top low p→Le cap e2→e2 top p=0 →
      MeetR cap top low p e (lch low top (lq e low top p)++(lch top low (lq e1 top low p)++[.swap top low])) (swapR e2 top low)
structure Sums (e0 e:Tab) (top low:Nat) (u v u' v':Int):Prop where
  t:∀y,e top y=u*e0 top y+v*e0 low y
  l:∀y,e low y=u'*e0 top y+v'*e0 low y
  o:∀x,x≠top→x≠low→∀y,e x y=e0 x y
theorem Sums.refl (e:Tab) (top low:Nat):Sums e e top low 1 0 0 1:=⟨fun y=>by simp,fun y=>by simp,fun _ _ _ _=>rfl⟩
theorem Sums.le {e0 e:Tab} {top low p c:Nat} {u v u' v':Int} (h:Sums e0 e top low u v u' v') (hc:Le c e0) (co:Co (e0 top p) (e0 low p) u v u' v'):Le (2*c+3) e:=by
  intro x y
  by_cases hx:x=top
  · subst hx;rw [h.t];exact row_le (B:=0) co.bu co.bv (hc _ _) (hc _ _) (hc _ _) (hc _ _)
  · by_cases hl:x=low
    · subst hl;rw [h.l];exact row_le (B:=0) co.bu' co.bv' (hc _ _) (hc _ _) (hc _ _) (hc _ _)
    · rw [h.o x hx hl];exact hc.mono (by omega) x y
theorem Sums.low {e0 e:Tab} {top low p:Nat} {u v u' v':Int} (h:Sums e0 e top low u v u' v') (htl:top≠low) :
    Sums e0 (less e low top p) top low u v (u'+lq e low top p*u) (v'+lq e low top p*v):=by
  refine ⟨fun y=>?_,fun y=>?_,fun x h1 h2 y=>?_⟩
  · rw [less_other htl];exact h.t y
  · rw [less_row,h.l,h.t];generalize lq e low top p=q;grind
  · rw [less_other h2];exact h.o x h1 h2 y
theorem Sums.top {e0 e:Tab} {top low p:Nat} {u v u' v':Int} (h:Sums e0 e top low u v u' v') (htl:top≠low) :
    Sums e0 (less e top low p) top low (u+lq e top low p*u') (v+lq e top low p*v') u' v':=by
  refine ⟨fun y=>?_,fun y=>?_,fun x h1 h2 y=>?_⟩
  · rw [less_row,h.l,h.t];generalize lq e top low p=q;grind
  · rw [less_other (Ne.symm htl)];exact h.l y
  · rw [less_other h1];exact h.o x h1 h2 y
theorem Sums.swap {e0 e:Tab} {top low:Nat} {u v u' v':Int} (h:Sums e0 e top low u v u' v') (htl:top≠low) :
    Sums e0 (swapR e top low) top low u' v' u v:=by
  refine ⟨fun y=>?_,fun y=>?_,fun x h1 h2 y=>?_⟩
  · simp only [swapR,sw,if_pos];exact h.l y
  · simp only [swapR,sw,if_neg (Ne.symm htl),if_pos];exact h.t y
  · simp only [swapR,sw,if_neg h1,if_neg h2];exact h.o x h1 h2 y
theorem meet_from {e0:Tab} {cap c top low p:Nat} (htl:top≠low) (hc:Le c e0) (hcap:2*c+3≤cap) :
    ∀(n:Nat) (e:Tab) (u v u' v':Int),Sums e0 e top low u v u' v'→Head (e0 top p) (e0 low p) u v u' v'→(e top p).natAbs<4^n →
      ∃L e' s t s' t',MeetR cap top low p e L e'∧Sums e0 e' top low s t s' t'∧Head (e0 top p) (e0 low p) s t s' t'∧e' low p=0 ∧
        rapps L e=e'∧L.length≤3*n∧(∀n,top<n→low<n→∀x∈L,x.ok n)
  | 0,e,u,v,u',v',hs,hh,hn=>by
    have:=hh.nz
    rw [←hs.t] at this
    simp at hn;omega
  | n+1,e,u,v,u',v',hs,hh,hn=>by
    have lc:∀{e:Tab} {u v u' v':Int},Sums e0 e top low u v u' v'→Co (e0 top p) (e0 low p) u v u' v'→Le cap e:=fun h co=>(h.le hc co).mono hcap
    have hx:e top p≠0:=by rw [hs.t];exact hh.nz
    by_cases hy:e low p=0
    · exact ⟨[],e,u,v,u',v',.done (lc hs hh.co) hy,hs,hh,hy,rfl,by simp,fun _ _ _ x hx=>absurd hx (by simp)⟩
    · have hs1:=hs.low (p:=p) htl
      have hm:=head_mid (q:=lq e low top p) hh (by rw [←hs.l];exact hy) (by unfold lq;rw [hs.l,hs.t])
      by_cases hy1:less e low top p low p=0
      · refine ⟨_,_,_,_,_,_,.half (lc hs hh.co) hy hx rfl (lc hs1 hm.co) hy1,hs1,mid_head hm (by rw [←hs1.l];exact hy1),hy1,lch_app ..,?_,fun n h1 h2=>lch_ok h2 h1 (Ne.symm htl)⟩
        have:=lch_len low top (lq e low top p);omega
      · have hs2:=hs1.top (p:=p) htl
        have ht:=mid_tail (q:=lq (less e low top p) top low p) hm (by rw [←hs1.l];exact hy1) (by unfold lq;rw [hs1.l,hs1.t];rfl)
        have l1:=lch_len low top (lq e low top p)
        have l2:=lch_len top low (lq (less e low top p) top low p)
        by_cases hx2:less (less e low top p) top low p top p=0
        · refine ⟨_,_,_,_,_,_,.swap (lc hs hh.co) hy hx rfl (lc hs1 hm.co) hy1 rfl (lc hs2 ht.co) hx2,hs2.swap htl,tail_swap ht (by rw [←hs2.t];exact hx2),?_,?_,?_,?_⟩
          · simp only [swapR,sw,if_neg (Ne.symm htl),if_pos];exact hx2
          · rw [rapps_app,rapps_app,lch_app,lch_app];rfl
          · simp only [List.length_append,List.length_cons,List.length_nil];omega
          · intro n h1 h2 x hx
            simp only [List.mem_append,List.mem_singleton] at hx
            rcases hx with z | z | z
            · exact lch_ok h2 h1 (Ne.symm htl) x z
            · exact lch_ok h1 h2 htl x z
            · subst z;exact ⟨h1,h2,htl⟩
        · have hlt:(less (less e low top p) top low p top p).natAbs<4^n:=by
            have r1:=less_rest (e:=e) (i:=low) hx
            have r2:=less_rest (e:=less e low top p) (i:=top) hy1
            rw [Nat.pow_succ] at hn
            omega
          obtain ⟨L,e',s,t,s',t',hR,a1,a2,a3,a4,a5,a6⟩:=meet_from htl hc hcap n _ _ _ _ _ hs2 (tail_head ht (by rw [←hs2.t];exact hx2)) hlt
          refine ⟨_,e',s,t,s',t',.turn (lc hs hh.co) hy hx rfl (lc hs1 hm.co) hy1 rfl (lc hs2 ht.co) hx2 hR,a1,a2,a3,?_,?_,?_⟩
          · rw [rapps_app,rapps_app,lch_app,lch_app];exact a4
          · simp only [List.length_append];omega
          · intro n h1 h2 x hx
            simp only [List.mem_append] at hx
            rcases hx with z | z | z
            · exact lch_ok h2 h1 (Ne.symm htl) x z
            · exact lch_ok h1 h2 htl x z
            · exact a6 n h1 h2 x z
structure Met (e e':Tab) (top low p:Nat) (s t s' t':Int):Prop where
  sums:Sums e e' top low s t s' t'
  co:Co (e top p) (e low p) s t s' t'
  nz:e' top p≠0
  zero:e' low p=0
  keep:e top p∣e low p→s=1∧t=0
  ends:∃g:Int,(g=1∨g=-1)∧e top p=g*t'*e' top p∧e low p=-(g*s'*e' top p)
theorem meet_ex {e:Tab} {cap c top low p n:Nat} (htl:top≠low) (hc:Le c e) (hcap:2*c+3≤cap) (hx:e top p≠0) (hn:(e top p).natAbs<4^n) :
    ∃L e' s t s' t',MeetR cap top low p e L e'∧Met e e' top low p s t s' t'∧Le (2*c+3) e'∧rapps L e=e'∧L.length≤3*n∧(∀n,top<n→low<n→∀x∈L,x.ok n):=by
  obtain ⟨L,e',s,t,s',t',hR,a1,a2,a3,a4,a5,a6⟩:=meet_from htl hc hcap n e 1 0 0 1 (Sums.refl e top low) (head_init hx) hn
  refine ⟨L,e',s,t,s',t',hR,⟨a1,a2.co,?_,a3,a2.keep,?_⟩,a1.le hc a2.co,a4,a5,a6⟩
  · rw [a1.t];exact a2.nz
  · have:=a2.ends (by rw [←a1.l];exact a3)
    rw [←a1.t] at this
    exact this
end E1
namespace E1
def ups:Nat→Nat→Nat
  | 0,c=>c
  | n+1,c=>ups n (2*c+3)
theorem ups_ge (n c:Nat):c≤ups n c:=by
  induction n generalizing c with
  | zero=>exact Nat.le_refl _
  | succ n ih=>exact Nat.le_trans (by omega) (ih (2*c+3))
theorem ups_mono (n:Nat) {c d:Nat} (h:c≤d):ups n c≤ups n d:=by
  induction n generalizing c d with
  | zero=>exact h
  | succ n ih=>exact ih (by omega)
theorem ups_add (a b c:Nat):ups (a+b) c=ups b (ups a c):=by
  induction a generalizing c with
  | zero=>simp [ups]
  | succ a ih=>rw [Nat.succ_add];exact ih _
theorem ups_le {a b:Nat} (h:a≤b) (c:Nat):ups a c≤ups b c:=by
  obtain ⟨d,rfl⟩:=Nat.exists_eq_add_of_le h
  rw [ups_add];exact ups_ge _ _
def fp (r:Nat→Int):Nat→Nat→Nat
  | y,0=>y
  | y,n+1=>if r y≠0 then y else fp r (y+1) n
theorem fp_zero (r:Nat→Int):∀n y z,y≤z→z<fp r y n→r z=0
  | 0,y,z,h1,h2=>by unfold fp at h2;omega
  | n+1,y,z,h1,h2=>by
    unfold fp at h2
    split at h2
    · omega
    · rename_i hr
      by_cases e:z=y
      · subst e;simpa using hr
      · exact fp_zero r n (y+1) z (by omega) h2
theorem fp_nz (r:Nat→Int):∀n y,fp r y n<y+n→r (fp r y n)≠0
  | 0,y,h=>by unfold fp at h;omega
  | n+1,y,h=>by
    unfold fp at h ⊢
    split
    · rename_i hr;exact hr
    · rename_i hr
      rw [if_neg hr] at h
      exact fp_nz r n (y+1) (by omega)
theorem fp_gt {r:Nat→Int} {w y:Nat} (hw:y<w) (h:∀z,z≤y→r z=0):y<fp r 0 w:=by
  apply Classical.byContradiction
  intro hn
  have:=fp_nz r w 0 (by omega)
  exact this (h _ (by omega))
def sat (st:List Nat) (i:Nat):Nat:=st.getD i 0
def Wide (e:Tab) (w:Nat):Prop:=∀x y,w≤y→e x y=0
structure Stairs (e:Tab) (st:List Nat) (w n:Nat):Prop where
  len:st.length≤n
  lt:∀i,i<st.length→sat st i<w
  mono:∀i j,i<j→j<st.length→sat st i<sat st j
  nz:∀i,i<st.length→e i (sat st i)≠0
  zl:∀i,i<st.length→∀y,y<sat st i→e i y=0
  zr:∀x,st.length≤x→x<n→∀y,e x y=0
def LRow (cap:Nat) (st:List Nat) (row:Nat):Nat→Nat→Tab→List RC→Tab→Prop
  | _,0,e,L,e'=>Le cap e∧L=[]∧e'=e
  | t,n+1,e,L,e'=>Le cap e∧e t (sat st t)≠0∧∃L2,LRow cap st row (t+1) n (less e row t (sat st t)) L2 e'∧L=lch row t (lq e row t (sat st t))++L2
theorem lrow_ex {cap:Nat} {st:List Nat} {row:Nat}:∀(n t:Nat) (e:Tab) (c:Nat),Le c e→ups n c≤cap→(∀i,t≤i→i<t+n→i≠row∧e i (sat st i)≠0) →
    ∃L e',LRow cap st row t n e L e'∧Le (ups n c) e'∧rapps L e=e'∧L.length≤n∧(∀k,row<k→t+n≤k→∀x∈L,x.ok k) ∧
      (∀x,x≠row→∀y,e' x y=e x y)∧(∀y,(∀i,t≤i→i<t+n→e i y=0)→e' row y=e row y) ∧
      ((∀i j,t≤i→i<j→j<t+n→e j (sat st i)=0)→∀i,t≤i→i<t+n→2*(e' row (sat st i)).natAbs≤(e i (sat st i)).natAbs)
  | 0,t,e,c,hc,hcap,h=>⟨[],e,⟨hc.mono hcap,rfl,rfl⟩,hc,rfl,by simp,fun _ _ _ x hx=>absurd hx (by simp),fun _ _ _=>rfl,fun _ _=>rfl,fun _ i h1 h2=>absurd h1 (by omega)⟩
  | n+1,t,e,c,hc,hcap,h=>by
    obtain ⟨hr,hz⟩:=h t (Nat.le_refl _) (by omega)
    have hl:=less_le (i:=row) hc hz
    obtain ⟨L2,e',a1,a2,a3,a4,a5,a6,a7,a8⟩:=lrow_ex n (t+1) (less e row t (sat st t)) (2*c+3) hl hcap (fun i h1 h2=>by
      obtain ⟨b1,b2⟩:=h i (by omega) (by omega)
      exact ⟨b1,by rw [less_other b1];exact b2⟩)
    refine ⟨_,e',⟨hc.mono (Nat.le_trans (ups_ge (n+1) c) hcap),hz,L2,a1,rfl⟩,a2,?_,?_,?_,?_,?_,?_⟩
    · rw [rapps_app,lch_app];exact a3
    · rw [List.length_append];have:=lch_len row t (lq e row t (sat st t));omega
    · intro k h1 h2 x hx
      rcases List.mem_append.mp hx with z | z
      · exact lch_ok h1 (by omega) (Ne.symm hr) x z
      · exact a5 k h1 (by omega) x z
    · intro x hx y;rw [a6 x hx,less_other hx]
    · intro y hy
      rw [a7 y (fun i h1 h2=>by rw [less_other (h i (by omega) (by omega)).1];exact hy i (by omega) (by omega)),less_row,hy t (Nat.le_refl _) (by omega)]
      simp
    · intro hj i h1 h2
      by_cases hi:i=t
      · subst hi
        rw [a7 _ (fun k h3 h4=>by rw [less_other (h k (by omega) (by omega)).1];exact hj i k (Nat.le_refl _) (by omega) (by omega))]
        exact less_rest hz
      · have:=a8 (fun a b h3 h4 h5=>by rw [less_other (h b (by omega) (by omega)).1];exact hj a b (by omega) h4 (by omega)) i (by omega) (by omega)
        rw [less_other (h i h1 (by omega)).1] at this
        exact this
inductive TakeR (cap low w:Nat) (st:List Nat):Nat→Tab→List RC→Nat→Tab→Prop
  | stop {top:Nat} {e:Tab}:Le cap e→¬ (top<st.length∧sat st top≤fp (e low) 0 w)→TakeR cap low w st top e [] top e
  | skip {top top':Nat} {e e':Tab} {L:List RC}:Le cap e→top<st.length→sat st top<fp (e low) 0 w→TakeR cap low w st (top+1) e L top' e'→TakeR cap low w st top e L top' e'
  | meet {top top':Nat} {e e1 e2 e3 e':Tab} {L1 L2 L3 L4:List RC}:Le cap e→top<st.length→sat st top=fp (e low) 0 w →
      MeetR cap top low (sat st top) e L1 e1→LRow cap st top (top+1) (st.length - (top+1)) e1 L2 e2→LRow cap st low (top+1) (st.length - (top+1)) e2 L3 e3 →
      TakeR cap low w st (top+1) e3 L4 top' e'→TakeR cap low w st top e (L1++(L2++(L3++L4))) top' e'
theorem wide_app {w:Nat} {e:Tab} (h:Wide e w):∀L:List RC,Wide (rapps L e) w:=by
  intro L
  induction L generalizing e with
  | nil=>exact h
  | cons c L ih =>
    rw [rapps_cons]
    apply ih
    intro x y hy
    cases c with
    | add i j q=>simp only [RC.app,addR];split <;> simp [h _ _ hy]
    | swap i j=>simp only [RC.app,swapR];exact h _ _ hy
    | turn i=>simp only [RC.app,turnR];split <;> simp [h _ _ hy]
theorem take_ex {cap low w n:Nat} {st:List Nat}:∀(k top:Nat) (e:Tab) (c:Nat),top+k=st.length→Stairs e st w low→Wide e w→Le c e→ups (k*k) c≤cap →
    (∀i,i<top→∀y,y≤sat st i→e low y=0)→(∀i,top≤i→i<st.length→(e i (sat st i)).natAbs<4^n) →
    ∃L top' e',TakeR cap low w st top e L top' e'∧Stairs e' st w low∧Le (ups (k*k) c) e'∧rapps L e=e'∧L.length≤k*(3*n+2*k)∧(∀x∈L,x.ok (low+1)) ∧
      top≤top'∧top'≤st.length∧(∀i,i<top'→∀y,y≤sat st i→e' low y=0)∧(top'<st.length→fp (e' low) 0 w<sat st top')∧(∀x,low<x→∀y,e' x y=e x y):=by
  intro k
  induction k with
  | zero =>
    intro top e c hk hs hw hc hcap hz hn
    exact ⟨[],top,e,.stop (hc.mono hcap) (fun h=>by omega),hs,hc,rfl,by simp,fun x hx=>absurd hx (by simp),Nat.le_refl _,by omega,hz,fun h=>by omega,fun _ _ _=>rfl⟩
  | succ k ih =>
    intro top e c hk hs hw hc hcap hz hn
    have htop:top<st.length:=by omega
    have htl:top≠low:=by have:=hs.len;omega
    have hsq:(k+1)*(k+1)=(1+k+k)+k*k:=by grind
    by_cases h1:sat st top≤fp (e low) 0 w
    · by_cases h2:sat st top=fp (e low) 0 w
      · -- they meet
        have hzlow:∀y,y<sat st top→e low y=0:=fun y hy=>fp_zero (e low) w 0 y (by omega) (by omega)
        rw [hsq,ups_add,ups_add,ups_add] at hcap
        have hcap1:2*c+3≤cap:=Nat.le_trans (Nat.le_trans (Nat.le_trans (ups_ge _ _) (ups_ge _ _)) (ups_ge _ _)) hcap
        obtain ⟨L1,e1,s,t,s',t',m1,m2,m3,m4,m5,m6⟩:=meet_ex htl hc hcap1 (hs.nz top htop) (hn top (Nat.le_refl _) htop)
        have m3':Le (ups 1 c) e1:=m3
        have r1:∀x,x≠top→x≠low→∀y,e1 x y=e x y:=m2.sums.o
        have z1:∀y,y<sat st top→e1 top y=0:=fun y hy=>by rw [m2.sums.t,hs.zl top htop y hy,hzlow y hy];simp
        have y1:∀y,y≤sat st top→e1 low y=0:=fun y hy=>by
          rcases Nat.lt_or_eq_of_le hy with z | z
          · rw [m2.sums.l,hs.zl top htop y z,hzlow y z];simp
          · rw [z];exact m2.zero
        have lown:∀i,i<st.length→i≠low:=fun i hi=>by have:=hs.len;omega
        obtain ⟨L2,e2,a1,a2,a3,a4,a5,a6,a7,_⟩:=lrow_ex (cap:=cap) (st:=st) (row:=top) k (top+1) e1 (ups 1 c) m3' (Nat.le_trans (Nat.le_trans (ups_ge _ _) (ups_ge _ _)) hcap) (fun i h3 h4=>⟨by omega,by rw [r1 i (by omega) (lown i (by omega))];exact hs.nz i (by omega)⟩)
        obtain ⟨L3,e3,b1,b2,b3,b4,b5,b6,b7,_⟩:=lrow_ex (cap:=cap) (st:=st) (row:=low) k (top+1) e2 (ups k (ups 1 c)) a2 (Nat.le_trans (ups_ge _ _) hcap) (fun i h3 h4=>⟨lown i (by omega),by rw [a6 i (by omega),r1 i (by omega) (lown i (by omega))];exact hs.nz i (by omega)⟩)
        have zt:∀y,y≤sat st top→∀i,top+1≤i→i<top+1+k→e i y=0:=fun y hy i h3 h4=>hs.zl i (by omega) y (by have:=hs.mono top i (by omega) (by omega);omega)
        have q3:∀x,x≠top→x≠low→∀y,e3 x y=e x y:=fun x h3 h4 y=>by rw [b6 x h4,a6 x h3,r1 x h3 h4]
        have t3:∀y,y≤sat st top→e3 top y=e1 top y:=fun y hy=>by
          rw [b6 top htl,a7 y (fun i h3 h4=>by rw [r1 i (by omega) (lown i (by omega))];exact zt y hy i h3 h4)]
        have l3:∀y,y≤sat st top→e3 low y=0:=fun y hy=>by
          rw [b7 y (fun i h3 h4=>by rw [a6 i (by omega),r1 i (by omega) (lown i (by omega))];exact zt y hy i h3 h4),a6 low (Ne.symm htl)]
          exact y1 y hy
        have hs3:Stairs e3 st w low:=by
          refine ⟨hs.len,hs.lt,hs.mono,fun i hi=>?_,fun i hi y hy=>?_,fun x h3 h4 y=>?_⟩
          · by_cases hi2:i=top
            · subst hi2;rw [t3 _ (Nat.le_refl _)];exact m2.nz
            · rw [q3 i hi2 (lown i hi)];exact hs.nz i hi
          · by_cases hi2:i=top
            · subst hi2;rw [t3 _ (by omega)];exact z1 y hy
            · rw [q3 i hi2 (lown i hi)];exact hs.zl i hi y hy
          · rw [q3 x (by omega) (by omega)];exact hs.zr x h3 h4 y
        have hL:st.length - (top+1)=k:=by omega
        have e3':rapps (L1++(L2++L3)) e=e3:=by rw [rapps_app,rapps_app,m4,a3,b3]
        obtain ⟨L4,top',e',c1,c2,c3,c4,c5,c6,c7,c8,c9,c10,c11⟩:=ih (top+1) e3 (ups k (ups k (ups 1 c))) (by omega) hs3 (e3'▸wide_app hw _) b2 hcap
          (fun i hi y hy=>by
            by_cases hi2:i=top
            · subst hi2;exact l3 y hy
            · have:=hs.mono i top (by omega) htop
              exact l3 y (by omega))
          (fun i h3 h4=>by rw [q3 i (by omega) (lown i h4)];exact hn i (by omega) h4)
        refine ⟨_,top',e',.meet (hc.mono (Nat.le_trans (Nat.le_trans (ups_ge 1 c) (Nat.le_trans (ups_ge _ _) (Nat.le_trans (ups_ge _ _) (ups_ge _ _)))) hcap)) htop h2 m1 (by rw [hL];exact a1) (by rw [hL];exact b1) c1,c2,?_,?_,?_,?_,by omega,c8,c9,c10,?_⟩
        · rw [hsq,ups_add,ups_add,ups_add];exact c3
        · rw [←c4,←e3'];simp only [rapps_app]
        · simp only [List.length_append]
          have e4:(k+1)*(3*n+2*(k+1))=k*(3*n+2*k)+2*k+(3*n+2*k+2):=by grind
          omega
        · intro x hx
          simp only [List.mem_append] at hx
          have:=hs.len
          rcases hx with z | z | z | z
          · exact m6 _ (by omega) (by omega) x z
          · exact a5 _ (by omega) (by omega) x z
          · exact b5 _ (by omega) (by omega) x z
          · exact c6 x z
        · intro x hx y
          have:=hs.len
          rw [c11 x hx,q3 x (by omega) (by omega)]
      · -- on to the next step
        have hlt:sat st top<fp (e low) 0 w:=by omega
        have hcap':ups (k*k) c≤cap:=Nat.le_trans (ups_le (by omega) c) hcap
        obtain ⟨L,top',e',c1,c2,c3,c4,c5,c6,c7,c8,c9,c10,c11⟩:=ih (top+1) e c (by omega) hs hw hc hcap'
          (fun i hi y hy=>by
            by_cases hi2:i=top
            · subst hi2;exact fp_zero (e low) w 0 y (by omega) (by omega)
            · exact hz i (by omega) y hy)
          (fun i h3 h4=>hn i (by omega) h4)
        refine ⟨L,top',e',.skip (hc.mono (Nat.le_trans (ups_ge _ _) hcap)) htop hlt c1,c2,c3.mono (ups_le (by omega) c),c4,?_,c6,by omega,c8,c9,c10,c11⟩
        have e4:(k+1)*(3*n+2*(k+1))=k*(3*n+2*k)+2*k+(3*n+2*k+2):=by grind
        omega
    · exact ⟨[],top,e,.stop (hc.mono (Nat.le_trans (ups_ge _ _) hcap)) (fun h=>h1 h.2),hs,hc.mono (ups_ge _ _),rfl,by simp,fun x hx=>absurd hx (by simp),Nat.le_refl _,by omega,hz,fun h=>by omega,fun _ _ _=>rfl⟩
end E1
namespace Dt
section
variable {R C:Type}
def S (f:List C→Int) (e:C→Int):List C→List C→Int
  | _,[]=>0
  | pre,c::post=>e c*f (pre++post) - S f e (pre++[c]) post
def det (e:R→C→Int):List R→List C→Int
  | [],[]=>1
  | [],_::_=>0
  | r::rs,J=>S (det e rs) (e r) [] J
theorem S_lin_e {f:List C→Int} {e u v:C→Int} {m:Int} (h:∀c,e c=u c+m*v c) :
    ∀post pre,S f e pre post=S f u pre post+m*S f v pre post
  | [],pre=>by simp [S]
  | c::post,pre=>by
    simp only [S]
    rw [S_lin_e h post,h c]
    grind
theorem S_lin_f {f g k:List C→Int} {e:C→Int} {m:Int} (h:∀l,f l=g l+m*k l) :
    ∀post pre,S f e pre post=S g e pre post+m*S k e pre post
  | [],pre=>by simp [S]
  | c::post,pre=>by
    simp only [S]
    rw [S_lin_f h post,h]
    grind
theorem S_zero_f {f:List C→Int} {e:C→Int} (h:∀l,f l=0):∀post pre,S f e pre post=0
  | [],pre=>by simp [S]
  | c::post,pre=>by simp only [S];rw [S_zero_f h post,h];simp
theorem S_zero_e {f:List C→Int} {e:C→Int}:∀post pre,(∀c∈post,e c=0)→S f e pre post=0
  | [],pre,_=>by simp [S]
  | c::post,pre,h=>by
    simp only [S]
    rw [S_zero_e post _ (fun x hx=>h x (List.mem_cons_of_mem _ hx)),h c (List.mem_cons_self ..)];simp
theorem S_scale_f {f g:List C→Int} {e:C→Int} {m:Int} (h:∀l,f l=m*g l) :
    ∀post pre,S f e pre post=m*S g e pre post
  | [],pre=>by simp [S]
  | c::post,pre=>by
    simp only [S];rw [S_scale_f h post,h];grind
theorem det_row {e:R→C→Int} {w u v:R} {m:Int} (h:∀c,e w c=e u c+m*e v c) (Q:List R) :
    ∀(P:List R) (J:List C),det e (P++w::Q) J=det e (P++u::Q) J+m*det e (P++v::Q) J
  | [],J=>by simp only [List.nil_append,det];exact S_lin_e h J []
  | r::P,J=>by
    simp only [List.cons_append,det]
    exact S_lin_f (fun l=>det_row h Q P l) J []
theorem S_col_pre {f:List C→Int} {e:C→Int} {w u v:C} {m:Int}
    (hf:∀P Q,f (P++w::Q)=f (P++u::Q)+m*f (P++v::Q)) (P:List C) :
    ∀post Q,S f e (P++w::Q) post=S f e (P++u::Q) post+m*S f e (P++v::Q) post
  | [],Q=>by simp [S]
  | c::post,Q=>by
    simp only [S,List.append_assoc,List.cons_append]
    rw [hf,S_col_pre hf P post (Q++[c])]
    grind
theorem S_col {f:List C→Int} {e:C→Int} {w u v:C} {m:Int}
    (hf:∀P Q,f (P++w::Q)=f (P++u::Q)+m*f (P++v::Q)) (he:e w=e u+m*e v)
    (hff:∀P Q,f (P++w::Q)=f (P++w::Q)) (Q:List C) :
    ∀P pre,S f e pre (P++w::Q)=S f e pre (P++u::Q)+m*S f e pre (P++v::Q)
  | [],pre=>by
    simp only [List.nil_append,S]
    rw [he,S_col_pre hf pre Q []]
    grind
  | c::P,pre=>by
    simp only [List.cons_append,S]
    rw [S_col hf he hff Q P]
    have:=hf (pre++P) Q
    simp only [List.append_assoc] at this
    rw [this]
    grind
theorem det_col {e:R→C→Int} {w u v:C} {m:Int}:∀(I:List R),(∀r∈I,e r w=e r u+m*e r v)→∀(P Q:List C),
    det e I (P++w::Q)=det e I (P++u::Q)+m*det e I (P++v::Q)
  | [],_,P,Q=>by cases P <;> simp [det]
  | r::I,h,P,Q=>by
    simp only [det]
    exact S_col (fun P Q=>det_col I (fun x hx=>h x (List.mem_cons_of_mem _ hx)) P Q) (h r (List.mem_cons_self ..)) (fun _ _=>rfl) Q P []
theorem det_col_zero {e:R→C→Int} {w:C} {I:List R} (h:∀r∈I,e r w=0) (P Q:List C):det e I (P++w::Q)=0:=by
  have:=det_col (e:=e) (w:=w) (u:=w) (v:=w) (m:=-1) I (fun r hr=>by rw [h r hr];rfl) P Q
  omega
theorem det_row_zero {e:R→C→Int} {w:R}:∀{I:List R},w∈I→∀{J:List C},(∀c∈J,e w c=0)→det e I J=0:=by
  intro I hw J hJ
  obtain ⟨P,Q,rfl⟩:=List.append_of_mem hw
  clear hw
  induction P generalizing J with
  | nil=>simp only [List.nil_append,det];exact S_zero_e J [] hJ
  | cons r P ih =>
    simp only [List.cons_append,det]
    have key:∀post pre,(∀c∈pre++post,e w c=0)→S (det e (P++w::Q)) (e r) pre post=0:=by
      intro post
      induction post with
      | nil=>intros;simp [S]
      | cons c post ihp =>
        intro pre hc
        simp only [S]
        rw [ih (J:=pre++post) (fun x hx=>hc x (by simp at hx ⊢;rcases hx with z | z <;> simp [z])),ihp _ (fun x hx=>hc x (by simp at hx ⊢;rcases hx with z | z | z <;> simp [z]))]
        simp
    exact key J [] (by simpa using hJ)
theorem S_map {D:Type} {f:List C→Int} {e:C→Int} (p:D→C):∀post pre,S f e (pre.map p) (post.map p)=S (fun l=>f (l.map p)) (fun d=>e (p d)) pre post
  | [],pre=>by simp [S]
  | c::post,pre=>by
    simp only [List.map_cons,S,List.map_append]
    have:=S_map (f:=f) (e:=e) p post (pre++[c])
    simp only [List.map_append,List.map_cons,List.map_nil] at this
    rw [this]
theorem det_map {R' C':Type} (e:R→C→Int) (p:R'→R) (q:C'→C):∀I J,det e (I.map p) (J.map q)=det (fun i j=>e (p i) (q j)) I J
  | [],J=>by cases J <;> simp [det]
  | r::I,J=>by
    simp only [List.map_cons,det]
    have:=S_map (f:=det e (I.map p)) (e:=e (p r)) q J []
    simp only [List.map_nil] at this
    rw [this]
    congr 1
    funext l
    exact det_map e p q I l
def W (f:List C→Int) (e:C→Int):List C→List C→List C→Int
  | _,[],_=>0
  | A,c::B,D=>e c*f (A++B++D) - W f e (A++[c]) B D
def sg:Nat→Int
  | 0=>1
  | n+1=>- sg n
theorem S_W (f:List C→Int) (e:C→Int):∀post pre,S f e pre post=W f e pre post []
  | [],_=>by simp [S,W]
  | c::post,pre=>by simp only [S,W,List.append_nil];rw [S_W f e post]
theorem W_app (f:List C→Int) (e:C→Int):∀B A D E,W f e A (B++D) E=W f e A B (D++E)+sg B.length*W f e (A++B) D E
  | [],A,D,E=>by simp [W,sg]
  | c::B,A,D,E=>by
    simp only [List.cons_append,W,List.length_cons,sg]
    rw [W_app f e B (A++[c]) D E]
    simp only [List.append_assoc,List.cons_append,List.nil_append]
    grind
def X (f:List C→Int) (e:C→Int):List C→List C→List C→Int
  | _,_,[]=>0
  | pre,don,c::post=>e c*W f e [] pre (don++post) - X f e pre (don++[c]) post
theorem X_step (f:List C→Int) (e:C→Int) (c:C) (pre:List C) :
    ∀post don,X f e (pre++[c]) don post=X f e pre (c::don) post+sg pre.length*(e c*W f e (pre++don) post [])
  | [],don=>by simp [X,W]
  | d::post,don=>by
    simp only [X,W]
    rw [X_step f e c pre post (don++[d]),W_app]
    simp only [W,List.nil_append,List.append_assoc,List.cons_append,List.append_nil]
    grind
theorem Q_X (f:List C→Int) (e:C→Int):∀post pre,S (S f e []) e pre post=X f e pre [] post
  | [],pre=>by simp [S,X]
  | c::post,pre=>by
    simp only [S,X]
    rw [Q_X f e post,X_step,S_W,W_app]
    simp only [List.nil_append,List.append_nil]
    grind
theorem X_nil (f:List C→Int) (e:C→Int):∀post don,X f e [] don post=0
  | [],_=>by simp [X]
  | c::post,don=>by simp only [X,W];rw [X_nil f e post];simp
theorem det_row_two {e:R→C→Int} (r:R) (I:List R) (J:List C):det e (r::r::I) J=0:=by
  have:det e (r::r::I) J=S (S (det e I) (e r) []) (e r) [] J:=by simp only [det]
  rw [this,Q_X,X_nil]
end
section
variable {C:Type}
def ap (r:C→Int) (c:C):Int:=r c
theorem det_ap {R:Type} (e:R→C→Int) (I:List R) (J:List C):det e I J=det ap (I.map e) J:=by
  have:=det_map (ap (C:=C)) e (id:C→C) I J
  simp only [List.map_id] at this
  rw [this];rfl
theorem row_swap (f g:C→Int) (I:List (C→Int)) (J:List C):det ap (f::g::I) J=- det ap (g::f::I) J:=by
  have hw:∀c,ap (fun c=>f c+g c) c=ap f c+1*ap g c:=fun c=>by simp [ap]
  have h0:=det_row_two (e:=ap) (fun c=>f c+g c) I J
  have h1:=det_row (e:=ap) hw ((fun c=>f c+g c)::I) [] J
  have h2:=det_row (e:=ap) hw I [f] J
  have h3:=det_row (e:=ap) hw I [g] J
  have h4:=det_row_two (e:=ap) f I J
  have h5:=det_row_two (e:=ap) g I J
  simp only [List.nil_append,List.cons_append] at h1 h2 h3
  omega
theorem row_perm' {I I':List (C→Int)} (h:I.Perm I'):∃s:Int,(s=1∨s=-1)∧∀J,det ap I' J=s*det ap I J:=by
  induction h with
  | nil=>exact ⟨1,Or.inl rfl,fun J=>by simp⟩
  | cons x _ ih =>
    obtain ⟨s,hs,h⟩:=ih
    refine ⟨s,hs,fun J=>?_⟩
    simp only [det]
    exact S_scale_f h J []
  | swap x y l=>exact ⟨-1,Or.inr rfl,fun J=>by rw [row_swap];omega⟩
  | trans _ _ ih1 ih2 =>
    obtain ⟨s,hs,h⟩:=ih1
    obtain ⟨t,ht,h'⟩:=ih2
    refine ⟨t*s,?_,fun J=>by rw [h',h,Int.mul_assoc]⟩
    rcases hs with rfl | rfl <;> rcases ht with rfl | rfl <;> simp
theorem row_perm {R:Type} {e:R→C→Int} {I I':List R} (h:I.Perm I'):∃s:Int,(s=1∨s=-1)∧∀J,det e I' J=s*det e I J:=by
  obtain ⟨s,hs,h⟩:=row_perm' (h.map e)
  exact ⟨s,hs,fun J=>by rw [det_ap,h,←det_ap]⟩
theorem row_dup {R:Type} [DecidableEq R] {e:R→C→Int}:∀{I:List R},¬ I.Nodup→∀J,det e I J=0
  | [],h,J=>absurd List.nodup_nil h
  | x::I,h,J=>by
    by_cases hx:x∈I
    · obtain ⟨s,_,hp⟩:=row_perm (e:=e) ((List.perm_cons_erase hx).symm.cons x)
      have:=hp J
      rw [det_row_two] at this
      have h2:∃s:Int,(s=1∨s=-1)∧∀J,det e (x::I) J=s*det e (x::x::I.erase x) J:=row_perm ((List.perm_cons_erase hx).symm.cons x)
      obtain ⟨s,_,h2⟩:=h2
      rw [h2,det_row_two];simp
    · simp only [det]
      exact S_zero_f (fun l=>row_dup (fun hn=>h (List.nodup_cons.mpr ⟨hx,hn⟩)) l) J []
end
section
variable {R:Type}
def pa (r:R) (c:R→Int):Int:=c r
end
theorem rows_go {R C:Type} {e:R→C→Int} {e':R→C→Int} {g:Int} {J:List C} {k:Nat}
    (h:∀x,∃u v m,∀c,e' x c=e u c+m*e v c) (hg:∀I,I.length=k→g∣det e I J):∀I,I.length=k→g∣det e' I J:=by
  have key:∀(I2 I1:List R),I1.length+I2.length=k→g∣det ap (I1.map e++I2.map e') J:=by
    intro I2
    induction I2 with
    | nil=>intro I1 hl;simp only [List.map_nil,List.append_nil];rw [←det_ap];exact hg I1 (by simpa using hl)
    | cons x I2 ih =>
      intro I1 hl
      obtain ⟨u,v,m,hc⟩:=h x
      simp only [List.map_cons]
      rw [det_row (e:=ap) (w:=e' x) (u:=e u) (v:=e v) hc]
      have h1:=ih (I1++[u]) (by simp at hl ⊢;omega)
      have h2:=ih (I1++[v]) (by simp at hl ⊢;omega)
      simp only [List.map_append,List.map_cons,List.map_nil,List.append_assoc,List.cons_append,List.nil_append] at h1 h2
      exact Int.dvd_add h1 (Int.dvd_mul_of_dvd_right h2)
  intro I hl
  rw [det_ap]
  simpa using key I [] (by simpa using hl)
section
variable {R C:Type}
theorem peel_low {e:R→C→Int} {i:R} {I:List R} {c:C} {J:List C} (h:∀d∈J,e i d=0):det e (i::I) (c::J)=e i c*det e I J:=by
  simp only [det,S,List.nil_append]
  rw [S_zero_e J _ h];simp
theorem peel_up {e:R→C→Int} {i:R} {I:List R} {c:C} {J:List C} (h:∀r∈I,e r c=0):det e (i::I) (c::J)=e i c*det e I J:=by
  simp only [det,S,List.nil_append]
  have key:∀post pre,S (det e I) (e i) (c::pre) post=0:=by
    intro post
    induction post with
    | nil=>intro;simp [S]
    | cons d post ih =>
      intro pre
      simp only [S,List.cons_append]
      have:=det_col_zero (e:=e) (I:=I) h [] (pre++post)
      simp only [List.nil_append] at this
      rw [this,ih];simp
  rw [key J []];simp
def fac:Nat→Nat
  | 0=>1
  | n+1=>(n+1)*fac n
theorem S_le {f:List C→Int} {e:C→Int} {B F n:Nat} (he:∀c,(e c).natAbs≤B) (hf:∀l,l.length=n→(f l).natAbs≤F) :
    ∀post pre,pre.length+post.length=n+1→(S f e pre post).natAbs≤post.length*(B*F)
  | [],pre,_=>by simp [S]
  | c::post,pre,h=>by
    simp only [S,List.length_cons]
    have h1:=S_le he hf post (pre++[c]) (by simp at h ⊢;omega)
    have h2:(e c*f (pre++post)).natAbs≤B*F:=by
      rw [Int.natAbs_mul];exact Nat.mul_le_mul (he c) (hf _ (by simp at h ⊢;omega))
    have h3:(post.length+1)*(B*F)=post.length*(B*F)+B*F:=Nat.succ_mul _ _
    omega
theorem det_le {e:R→C→Int} {B:Nat}:∀(I:List R),(∀r∈I,∀c,(e r c).natAbs≤B)→∀J:List C,J.length=I.length→(det e I J).natAbs≤fac I.length*B^I.length
  | [],_,J,hJ=>by
    have:J=[]:=List.length_eq_zero_iff.mp (by simpa using hJ)
    subst this;simp [det,fac]
  | r::I,h,J,hJ=>by
    simp only [det]
    have h1:=S_le (f:=det e I) (e:=e r) (F:=fac I.length*B^I.length) (n:=I.length) (h r (List.mem_cons_self ..)) (fun l hl=>det_le I (fun x hx=>h x (List.mem_cons_of_mem _ hx)) l hl) J [] (by simpa using hJ)
    have h2:J.length*(B*(fac I.length*B^I.length))=fac (r::I).length*B^(r::I).length:=by
      rw [hJ];simp only [List.length_cons,fac,Nat.pow_succ];grind
    omega
def pr (d:R→Int):List R→Int
  | []=>1
  | i::I=>d i*pr d I
theorem pr_perm {d:R→Int} {I I':List R} (h:I.Perm I'):pr d I=pr d I':=by
  induction h with
  | nil=>rfl
  | cons x _ ih=>simp only [pr,ih]
  | swap x y l=>simp only [pr];grind
  | trans _ _ ih1 ih2=>rw [ih1,ih2]
theorem pr_app {d:R→Int} (I I':List R):pr d (I++I')=pr d I*pr d I':=by
  induction I with
  | nil=>simp [pr]
  | cons x I ih=>simp only [List.cons_append,pr,ih];grind
theorem pr_zero {d:R→Int} {I:List R}:pr d I=0↔∃i∈I,d i=0:=by
  induction I with
  | nil=>simp [pr]
  | cons x I ih=>simp only [pr,Int.mul_eq_zero,ih];simp
end
theorem pigeon:∀(n:Nat) {I:List Nat},I.Nodup→(∀x∈I,x<n)→I.length≤n
  | 0,I,_,h=>by
    cases I with
    | nil=>simp
    | cons x I=>exact absurd (h x (List.mem_cons_self ..)) (by omega)
  | n+1,I,hn,h=>by
    by_cases hx:n∈I
    · have h1:=List.length_erase_of_mem hx
      have h2:=pigeon n (hn.erase n) (fun x hx'=>by
        have h3:=h x (List.mem_of_mem_erase hx')
        have h4:x≠n:=fun e=>by subst e;exact hn.not_mem_erase hx'
        omega)
      omega
    · have:=pigeon n hn (fun x hx'=>by
        have h3:=h x hx'
        have h4:x≠n:=fun e=>hx (e▸hx')
        omega)
      omega
theorem perm_range:∀(n:Nat) {I:List Nat},I.Nodup→(∀x∈I,x<n)→I.length=n→I.Perm (List.range n)
  | 0,I,_,_,hl=>by
    have:I=[]:=List.length_eq_zero_iff.mp hl
    subst this;exact List.Perm.refl _
  | n+1,I,hn,h,hl=>by
    by_cases hx:n∈I
    · have h1:=List.length_erase_of_mem hx
      have h2:=perm_range n (hn.erase n) (fun x hx'=>by
        have h3:=h x (List.mem_of_mem_erase hx')
        have h4:x≠n:=fun e=>by subst e;exact hn.not_mem_erase hx'
        omega) (by omega)
      rw [List.range_succ]
      refine (List.perm_cons_erase hx).trans ?_
      refine (h2.cons n).trans ?_
      exact (List.perm_append_singleton n (List.range n)).symm
    · have:=pigeon n hn (fun x hx'=>by
        have h3:=h x hx'
        have h4:x≠n:=fun e=>hx (e▸hx')
        omega)
      omega
end Dt
namespace E1
def downs (top:Nat):Nat→List RC
  | 0=>[]
  | k+1=>.swap (top+k+1) (top+k)::downs top k
theorem downs_app (top:Nat):∀(k:Nat) (e:Tab) (x y:Nat),rapps (downs top k) e x y=e (if x<top then x else if x=top then top+k else if x≤top+k then x - 1 else x) y
  | 0,e,x,y=>by
    simp only [downs,rapps_nil,Nat.add_zero]
    congr 1
    split
    · rfl
    · split
      · assumption
      · rw [if_neg (by omega)]
  | k+1,e,x,y=>by
    simp only [downs,rapps_cons]
    rw [downs_app top k]
    simp only [RC.app,swapR,sw]
    congr 1
    by_cases h1:x<top
    · simp only [if_pos h1];rw [if_neg (by omega),if_neg (by omega)]
    · simp only [if_neg h1]
      by_cases h2:x=top
      · simp only [if_pos h2];rw [if_neg (by omega),if_pos trivial];omega
      · simp only [if_neg h2]
        by_cases h3:x≤top+k
        · simp only [if_pos h3];rw [if_neg (by omega),if_neg (by omega),if_pos (by omega)]
        · simp only [if_neg h3]
          by_cases h4:x=top+k+1
          · rw [if_pos h4,if_pos (by omega)];omega
          · rw [if_neg h4,if_neg (by omega),if_neg (by omega)]
def liftL (low top m:Nat):List RC:=(if low=m then [] else [.swap low m])++downs top (m - top)
theorem lift_app {low top m:Nat} (h1:top≤m) (h2:m≤low) (e:Tab) (x y:Nat) :
    rapps (liftL low top m) e x y=e (if x<top then x else if x=top then low else if x≤m then x - 1 else if x=low then m else x) y:=by
  unfold liftL
  rw [rapps_app,downs_app]
  by_cases hl:low=m
  · subst hl
    simp only [if_pos,rapps_nil]
    have:top+(low - top)=low:=by omega
    rw [this]
    congr 1
    by_cases h3:x<top
    · simp only [if_pos h3]
    · simp only [if_neg h3]
      by_cases h4:x=top
      · simp only [if_pos h4]
      · simp only [if_neg h4]
        by_cases h5:x≤low
        · simp only [if_pos h5]
        · simp only [if_neg h5];rw [if_neg (by omega)]
  · simp only [if_neg hl,rapps_cons,rapps_nil,RC.app,swapR,sw]
    have:top+(m - top)=m:=by omega
    rw [this]
    congr 1
    by_cases h3:x<top
    · simp only [if_pos h3];rw [if_neg (by omega),if_neg (by omega)]
    · simp only [if_neg h3]
      by_cases h4:x=top
      · simp only [if_pos h4];rw [if_neg (by omega),if_pos trivial]
      · simp only [if_neg h4]
        by_cases h5:x≤m
        · simp only [if_pos h5];rw [if_neg (by omega),if_neg (by omega)]
        · simp only [if_neg h5]
          by_cases h6:x=low
          · simp only [if_pos h6]
          · simp only [if_neg h6];rw [if_neg (by omega)]
theorem downs_ok {top:Nat}:∀{k n:Nat},top+k<n→∀c∈downs top k,c.ok n
  | 0,n,_,c,hc=>absurd hc (by simp [downs])
  | k+1,n,h,c,hc=>by
    simp only [downs,List.mem_cons] at hc
    rcases hc with z | z
    · subst z;exact ⟨by omega,by omega,by omega⟩
    · exact downs_ok (by omega) c z
theorem downs_len (top:Nat):∀k,(downs top k).length=k
  | 0=>rfl
  | k+1=>by simp [downs,downs_len top k]
theorem lift_ok {low top m:Nat} (h1:top≤m) (h2:m≤low):∀c∈liftL low top m,c.ok (low+1):=by
  intro c hc
  unfold liftL at hc
  rcases List.mem_append.mp hc with z | z
  · split at z
    · simp at z
    · simp at z;subst z;exact ⟨by omega,by omega,by assumption⟩
  · exact downs_ok (by omega) c z
theorem lift_len (low top m:Nat):(liftL low top m).length≤m+1:=by
  unfold liftL
  rw [List.length_append,downs_len]
  split <;> simp <;> omega
theorem Le.app_swap {c:Nat} {e e':Tab} (h:Le c e) (f:Nat→Nat) (he:∀x y,e' x y=e (f x) y):Le c e':=fun x y=>by rw [he];exact h _ _
def ins (st:List Nat) (top place:Nat):List Nat:=st.take top++place::st.drop top
theorem ins_len {st:List Nat} {top place:Nat} (h:top≤st.length):(ins st top place).length=st.length+1:=by
  unfold ins;simp;omega
theorem ins_sat {st:List Nat} {top place:Nat} (h:top≤st.length) (i:Nat):sat (ins st top place) i=if i<top then sat st i else if i=top then place else sat st (i - 1):=by
  unfold sat ins
  simp only [List.getD_eq_getElem?_getD]
  by_cases h1:i<top
  · rw [if_pos h1,List.getElem?_append_left (by simp;omega),List.getElem?_take_of_lt h1]
  · rw [if_neg h1,List.getElem?_append_right (by simp;omega)]
    have:(st.take top).length=top:=by simp;omega
    rw [this]
    by_cases h2:i=top
    · rw [if_pos h2,h2];simp
    · rw [if_neg h2]
      obtain ⟨d,hd⟩:∃d,i=top+d+1:=⟨i - top - 1,by omega⟩
      subst hd
      have:top+d+1 - top=d+1:=by omega
      rw [this,List.getElem?_cons_succ,List.getElem?_drop]
      have:top+d+1 - 1=top+d:=by omega
      rw [this]
theorem lift_stairs {e e':Tab} {st:List Nat} {w low top:Nat} (hs:Stairs e st w low) (ht:top≤st.length)
    (hz:∀i,i<top→∀y,y≤sat st i→e low y=0) (hf:top<st.length→fp (e low) 0 w<sat st top) (hp:fp (e low) 0 w<w)
    (he:e'=rapps (liftL low top st.length) e):Stairs e' (ins st top (fp (e low) 0 w)) w (low+1):=by
  have ha:∀x y,e' x y=e (if x<top then x else if x=top then low else if x≤st.length then x - 1 else if x=low then st.length else x) y:=fun x y=>by
    rw [he];exact lift_app ht hs.len e x y
  have hnz:=fp_nz (e low) w 0 (by omega)
  have hfz:∀y,y<fp (e low) 0 w→e low y=0:=fun y hy=>fp_zero (e low) w 0 y (by omega) hy
  have hgt:∀i,i<top→sat st i<fp (e low) 0 w:=fun i hi=>fp_gt (hs.lt i (by omega)) (fun z hzz=>hz i hi z hzz)
  have hlen:=hs.len
  refine ⟨by rw [ins_len ht];omega,?_,?_,?_,?_,?_⟩
  · intro i hi
    rw [ins_len ht] at hi
    rw [ins_sat ht]
    by_cases h1:i<top
    · rw [if_pos h1];exact hs.lt i (by omega)
    · rw [if_neg h1]
      by_cases h2:i=top
      · rw [if_pos h2];exact hp
      · rw [if_neg h2];exact hs.lt _ (by omega)
  · intro i j hij hj
    rw [ins_len ht] at hj
    rw [ins_sat ht,ins_sat ht]
    by_cases h1:j<top
    · rw [if_pos h1,if_pos (by omega)];exact hs.mono i j hij (by omega)
    · rw [if_neg h1]
      by_cases h2:j=top
      · rw [if_pos h2,if_pos (by omega)];exact hgt i (by omega)
      · rw [if_neg h2]
        by_cases h3:i<top
        · rw [if_pos h3];exact hs.mono i (j - 1) (by omega) (by omega)
        · rw [if_neg h3]
          by_cases h4:i=top
          · rw [if_pos h4]
            have h5:=hf (by omega)
            rcases Nat.lt_or_ge top (j - 1) with z | z
            · have:=hs.mono top (j - 1) z (by omega);omega
            · have:j - 1=top:=by omega
              rw [this];exact h5
          · rw [if_neg h4];exact hs.mono _ _ (by omega) (by omega)
  · intro i hi
    rw [ins_len ht] at hi
    rw [ins_sat ht,ha]
    by_cases h1:i<top
    · simp only [if_pos h1];exact hs.nz i (by omega)
    · simp only [if_neg h1]
      by_cases h2:i=top
      · simp only [if_pos h2];exact hnz
      · simp only [if_neg h2];rw [if_pos (by omega)];exact hs.nz _ (by omega)
  · intro i hi y hy
    rw [ins_len ht] at hi
    rw [ins_sat ht] at hy
    rw [ha]
    by_cases h1:i<top
    · simp only [if_pos h1] at hy ⊢;exact hs.zl i (by omega) y hy
    · simp only [if_neg h1] at hy ⊢
      by_cases h2:i=top
      · simp only [if_pos h2] at hy ⊢;exact hfz y hy
      · simp only [if_neg h2] at hy ⊢;rw [if_pos (by omega)];exact hs.zl _ (by omega) y hy
  · intro x h1 h2 y
    rw [ins_len ht] at h1
    rw [ha,if_neg (by omega),if_neg (by omega),if_neg (by omega)]
    by_cases h3:x=low
    · rw [if_pos h3];exact hs.zr _ (Nat.le_refl _) (by omega) y
    · rw [if_neg h3];exact hs.zr x (by omega) (by omega) y
def Red (cap:Nat) (st:List Nat):Nat→Tab→List RC→Tab→Prop
  | 0,e,L,e'=>Le cap e∧L=[]∧e'=e
  | k+1,e,L,e'=>∃L1 e1 L2,LRow cap st k (k+1) (st.length - (k+1)) e L1 e1∧Red cap st k e1 L2 e'∧L=L1++L2
def so (m:Nat):Nat→Nat
  | 0=>0
  | k+1=>(m - (k+1))+so m k
theorem red_ex {cap w n:Nat} {st:List Nat}:∀(k:Nat) (e:Tab) (c:Nat),k≤st.length→Stairs e st w n→Le c e→ups (so st.length k) c≤cap →
    ∃L e',Red cap st k e L e'∧Stairs e' st w n∧Le (ups (so st.length k) c) e'∧rapps L e=e'∧L.length≤so st.length k∧(∀x∈L,x.ok n) ∧
      (∀x,k≤x→∀y,e' x y=e x y)∧(∀i,i<st.length→e' i (sat st i)=e i (sat st i)) ∧
      (∀i t,i<k→i<t→t<st.length→2*(e' i (sat st t)).natAbs≤(e' t (sat st t)).natAbs)
  | 0,e,c,hk,hs,hc,hcap=>⟨[],e,⟨hc.mono hcap,rfl,rfl⟩,hs,hc,rfl,by simp,fun x hx=>absurd hx (by simp),fun _ _ _=>rfl,fun _ _=>rfl,fun i t h _ _=>absurd h (by omega)⟩
  | k+1,e,c,hk,hs,hc,hcap=>by
    simp only [so] at hcap ⊢
    rw [ups_add] at hcap
    obtain ⟨L1,e1,a1,a2,a3,a4,a5,a6,a7,a8⟩:=lrow_ex (cap:=cap) (st:=st) (row:=k) (st.length - (k+1)) (k+1) e c hc (Nat.le_trans (ups_ge _ _) hcap)
      (fun i h1 h2=>⟨by omega,hs.nz i (by omega)⟩)
    have zt:∀y,y≤sat st k→∀i,k+1≤i→i<k+1+(st.length - (k+1))→e i y=0:=fun y hy i h3 h4=>hs.zl i (by omega) y (by have:=hs.mono k i (by omega) (by omega);omega)
    have hk1:∀y,y≤sat st k→e1 k y=e k y:=fun y hy=>a7 y (zt y hy)
    have hs1:Stairs e1 st w n:=by
      refine ⟨hs.len,hs.lt,hs.mono,fun i hi=>?_,fun i hi y hy=>?_,fun x h3 h4 y=>?_⟩
      · by_cases h:i=k
        · subst h;rw [hk1 _ (Nat.le_refl _)];exact hs.nz i hi
        · rw [a6 i h];exact hs.nz i hi
      · by_cases h:i=k
        · subst h;rw [hk1 _ (by omega)];exact hs.zl i hi y hy
        · rw [a6 i h];exact hs.zl i hi y hy
      · rw [a6 x (by omega)];exact hs.zr x h3 h4 y
    obtain ⟨L2,e',b1,b2,b3,b4,b5,b6,b7,b8,b9⟩:=red_ex k e1 (ups (st.length - (k+1)) c) (by omega) hs1 a2 hcap
    refine ⟨L1++L2,e',⟨L1,e1,L2,a1,b1,rfl⟩,b2,by rw [ups_add];exact b3,by rw [rapps_app,a3,b4],by rw [List.length_append];omega,?_,?_,?_,?_⟩
    · intro x hx
      have:=hs.len
      rcases List.mem_append.mp hx with z | z
      · exact a5 n (by omega) (by omega) x z
      · exact b6 x z
    · intro x hx y;rw [b7 x (by omega),a6 x (by omega)]
    · intro i hi
      rw [b8 i hi]
      by_cases h:i=k
      · subst h;exact hk1 _ (Nat.le_refl _)
      · exact a6 i h _
    · intro i t h1 h2 h3
      by_cases h:i=k
      · subst h
        have:=a8 (fun p q h4 h5 h6=>hs.zl q (by omega) _ (hs.mono p q h5 (by omega))) t (by omega) (by omega)
        rw [b7 i (Nat.le_refl _),b7 t (by omega),a6 t (by omega)]
        exact this
      · exact b9 i t (by omega) h2 h3
open Dt
def cut (n:Nat) (e:Tab):Tab:=fun x y=>if x<n then e x y else 0
def Cmb (e e':Tab):Prop:=∀x,∃u v m,∀c,e' x c=e u c+m*e v c
theorem cmb_app {n:Nat} {c:RC} (h:c.ok n) (e:Tab):Cmb (cut n e) (cut n (c.app e))∧Cmb (cut n (c.app e)) (cut n e):=by
  cases c with
  | add i j q =>
    obtain ⟨hi,hj,hij⟩:=h
    refine ⟨fun x=>?_,fun x=>?_⟩
    · by_cases hx:x=i
      · subst hx;exact ⟨x,j,q,fun c=>by simp [cut,RC.app,addR,hi,hj]⟩
      · exact ⟨x,x,0,fun c=>by simp [cut,RC.app,addR,hx]⟩
    · by_cases hx:x=i
      · subst hx;exact ⟨x,j,-q,fun c=>by simp [cut,RC.app,addR,hi,hj,Ne.symm hij];grind⟩
      · exact ⟨x,x,0,fun c=>by simp [cut,RC.app,addR,hx]⟩
  | swap i j =>
    obtain ⟨hi,hj,hij⟩:=h
    have hs:∀x,sw i j x<n↔x<n:=fun x=>by
      unfold sw;split
      · omega
      · split <;> omega
    have hss:∀x,sw i j (sw i j x)=x:=fun x=>by
      unfold sw
      by_cases h1:x=i
      · simp only [if_pos h1];rw [if_neg (Ne.symm hij),if_pos trivial];exact h1.symm
      · by_cases h2:x=j
        · simp only [if_neg h1,if_pos h2,if_pos];exact h2.symm
        · simp only [if_neg h1,if_neg h2]
    refine ⟨fun x=>⟨sw i j x,x,0,fun c=>?_⟩,fun x=>⟨sw i j x,x,0,fun c=>?_⟩⟩
    · simp only [cut,RC.app,swapR,hs];omega
    · simp only [cut,RC.app,swapR,hs,hss];omega
  | turn i =>
    have hi:i<n:=h
    refine ⟨fun x=>?_,fun x=>?_⟩
    · by_cases hx:x=i
      · subst hx;exact ⟨x,x,-2,fun c=>by simp [cut,RC.app,turnR,hi];omega⟩
      · exact ⟨x,x,0,fun c=>by simp [cut,RC.app,turnR,hx]⟩
    · by_cases hx:x=i
      · subst hx;exact ⟨x,x,-2,fun c=>by simp [cut,RC.app,turnR,hi];omega⟩
      · exact ⟨x,x,0,fun c=>by simp [cut,RC.app,turnR,hx]⟩
theorem go_rows {n k:Nat} {g:Int} {J:List Nat}:∀(L:List RC) (e:Tab),(∀c∈L,c.ok n) →
    ((∀I:List Nat,I.length=k→g∣det (cut n e) I J)↔(∀I:List Nat,I.length=k→g∣det (cut n (rapps L e)) I J))
  | [],e,_=>Iff.rfl
  | c::L,e,h=>by
    rw [rapps_cons,←go_rows L (c.app e) (fun x hx=>h x (List.mem_cons_of_mem _ hx))]
    obtain ⟨h1,h2⟩:=cmb_app (h c (List.mem_cons_self ..)) e
    exact ⟨fun hg=>rows_go h1 hg,fun hg=>rows_go h2 hg⟩
theorem S_le2 {C:Type} {f:List C→Int} {e:C→Int} {B F n:Nat} (hf:∀l,l.length=n→(f l).natAbs≤F) :
    ∀post pre,(∀c∈post,(e c).natAbs≤B)→pre.length+post.length=n+1→(S f e pre post).natAbs≤post.length*(B*F)
  | [],pre,_,_=>by simp [S]
  | c::post,pre,he,h=>by
    simp only [S,List.length_cons]
    have h1:=S_le2 hf post (pre++[c]) (fun x hx=>he x (List.mem_cons_of_mem _ hx)) (by simp at h ⊢;omega)
    have h2:(e c*f (pre++post)).natAbs≤B*F:=by
      rw [Int.natAbs_mul];exact Nat.mul_le_mul (he c (List.mem_cons_self ..)) (hf _ (by simp at h ⊢;omega))
    have h3:(post.length+1)*(B*F)=post.length*(B*F)+B*F:=Nat.succ_mul _ _
    omega
theorem peel_steps {e:Tab} {s:Nat→Nat} {k m:Nat} (J:List Nat):∀(b a:Nat),a+b+k=m→(∀i j,i<j→j<m→e j (s i)=0) →
    det e (List.range' a (b+k)) ((List.range' a b).map s++J)=pr (fun i=>e i (s i)) (List.range' a b)*det e (List.range' (a+b) k) J
  | 0,a,_,_=>by simp [pr]
  | b+1,a,hm,h=>by
    have:b+1+k=(b+k)+1:=by omega
    rw [this,List.range'_succ,List.range'_succ]
    simp only [List.map_cons,List.cons_append,pr]
    rw [peel_up (fun r hr=>by
      have:=List.mem_range'_1.mp hr
      exact h a r (by omega) (by omega)),peel_steps J b (a+1) (by omega) h]
    have:a+1+b=a+(b+1):=by omega
    rw [this];grind
theorem reset {n w B:Nat} {st:List Nat} {e0 e:Tab} {L:List RC} (hL:∀c∈L,c.ok n) (hB:∀x,x<n→∀y,(e0 x y).natAbs≤B) (he:rapps L e0=e)
    (hs:Stairs e st w n) (hred:∀i t,i<t→t<st.length→2*(e i (sat st t)).natAbs≤(e t (sat st t)).natAbs) :
    ∀x,x<n→∀y,(e x y).natAbs≤st.length*(fac st.length*B^st.length):=by
  let m:=st.length
  let D:=fac m*B^m
  have hmn:m≤n:=hs.len
  have hcut:∀x y,x<n→cut n e x y=e x y:=fun x y h=>by simp [cut,h]
  have c1:∀J:List Nat,J.length=m→(det (cut n e) (List.range m) J).natAbs≤D:=by
    intro J hJ
    have hg:∀I:List Nat,I.length=m→det (cut n e) (List.range m) J∣det (cut n e) I J:=by
      intro I hI
      by_cases h1:I.Nodup
      · by_cases h2:∀x∈I,x<m
        · obtain ⟨s,_,hp⟩:=row_perm (e:=cut n e) (perm_range m h1 h2 hI).symm
          rw [hp];exact Int.dvd_mul_left _ _
        · have:∃x∈I,m≤x:=by
            apply Classical.byContradiction
            intro hc'
            exact h2 (fun x hx=>by
              apply Classical.byContradiction
              intro hlt
              exact hc' ⟨x,hx,by omega⟩)
          obtain ⟨x,hx,hxr⟩:=this
          rw [det_row_zero hx (fun c _=>by
            unfold cut;split
            · exact hs.zr x hxr (by assumption) c
            · rfl)]
          exact Int.dvd_zero _
      · rw [row_dup h1];exact Int.dvd_zero _
    rw [←he] at hg
    have hg0:=(go_rows L e0 hL).mpr hg
    rw [he] at hg0
    by_cases hz:∀I:List Nat,I.length=m→det (cut n e0) I J=0
    · have:=(go_rows (g:=0) (J:=J) (k:=m) L e0 hL).mp (fun I hI=>by rw [hz I hI];exact Int.dvd_refl _) (List.range m) (by simp)
      rw [he] at this
      rw [Int.zero_dvd.mp this];simp
    · have:∃I:List Nat,I.length=m∧det (cut n e0) I J≠0:=by
        apply Classical.byContradiction
        intro hc'
        exact hz (fun I hI=>by
          apply Classical.byContradiction
          intro hne
          exact hc' ⟨I,hI,hne⟩)
      obtain ⟨I,hI,hne⟩:=this
      have h1:=Nat.le_of_dvd (by omega) (Int.natAbs_dvd_natAbs.mpr (hg0 I hI))
      have h2:=det_le (e:=cut n e0) (B:=B) I (fun r _ c=>by
        unfold cut;split
        · exact hB r (by assumption) c
        · simp) J (by omega)
      rw [hI] at h2
      exact Nat.le_trans h1 h2
  have hz:∀i j,i<j→j<m→cut n e j (sat st i)=0:=fun i j h1 h2=>by
    rw [hcut j _ (by omega)];exact hs.zl j h2 _ (hs.mono i j h1 h2)
  have hpnz:∀a b,a+b≤m→pr (fun i=>cut n e i (sat st i)) (List.range' a b)≠0:=by
    intro a b hab h
    obtain ⟨i,hi,h0⟩:=pr_zero.mp h
    have:=List.mem_range'_1.mp hi
    rw [hcut i _ (by omega)] at h0
    exact hs.nz i (show i<m by omega) h0
  have c2:∀(i k:Nat),i+k=m→∀J:List Nat,J.length=k→(det (cut n e) (List.range' i k) J).natAbs≤D:=by
    intro i k hik J hJ
    have h1:=peel_steps (e:=cut n e) (s:=sat st) (k:=k) (m:=m) J i 0 (by omega) hz
    have h2:=c1 ((List.range' 0 i).map (sat st)++J) (by simp;omega)
    rw [List.range_eq_range',←hik,h1,Int.natAbs_mul,Nat.zero_add] at h2
    have h3:1*(det (cut n e) (List.range' i k) J).natAbs≤(pr (fun i=>cut n e i (sat st i)) (List.range' 0 i)).natAbs*(det (cut n e) (List.range' i k) J).natAbs :=
      Nat.mul_le_mul_right _ (by have:=hpnz 0 i (by omega);omega)
    omega
  intro x hx y
  by_cases hxm:x<m
  · obtain ⟨k,hk⟩:∃k,m=x+k+1:=⟨m - x - 1,by omega⟩
    have h1:=c2 x (k+1) (by omega) (y::(List.range' (x+1) k).map (sat st)) (by simp)
    have h2:=peel_steps (e:=cut n e) (s:=sat st) (k:=0) (m:=m) [] k (x+1) (by omega) hz
    simp only [List.append_nil,List.range'_zero,det,Int.mul_one,Nat.add_zero] at h2
    have hP:=hpnz (x+1) k (by omega)
    rw [List.range'_succ] at h1
    simp only [det,S,List.nil_append] at h1
    rw [h2,hcut x y hx] at h1
    generalize hPd:pr (fun i=>cut n e i (sat st i)) (List.range' (x+1) k)=P at h1 h2 hP
    have h3:=S_le2 (e:=cut n e x) (f:=det (cut n e) (List.range' (x+1) k)) (B:=P.natAbs) (F:=D) (n:=k) (fun l hl=>c2 (x+1) k (by omega) l hl) ((List.range' (x+1) k).map (sat st)) [y]
      (fun c hc=>by
        obtain ⟨t,ht,rfl⟩:=List.mem_map.mp hc
        have ht':=List.mem_range'_1.mp ht
        have hr:=hred x t (by omega) (show t<m by omega)
        rw [hcut x _ hx]
        have hdv:cut n e t (sat st t)∣P:=by
          rw [←hPd]
          have:(List.range' (x+1) k).Perm (t::(List.range' (x+1) k).erase t):=List.perm_cons_erase ht
          rw [pr_perm this]
          exact Int.dvd_mul_right _ _
        rw [hcut t _ (by omega)] at hdv
        have:=Nat.le_of_dvd (by omega) (Int.natAbs_dvd_natAbs.mpr hdv)
        omega) (by simp;omega)
    rw [List.length_map,List.length_range'] at h3
    generalize S (det (cut n e) (List.range' (x+1) k)) (cut n e x) [y] ((List.range' (x+1) k).map (sat st))=Z at h1 h3
    have h4:(e x y).natAbs*P.natAbs≤D+k*(P.natAbs*D):=by
      rw [←Int.natAbs_mul];omega
    have h5:D≤P.natAbs*D:=by
      have:1*D≤P.natAbs*D:=Nat.mul_le_mul_right _ (by omega)
      omega
    have h6:D+k*(P.natAbs*D)≤(m*D)*P.natAbs:=by
      have:(m*D)*P.natAbs=x*(P.natAbs*D)+k*(P.natAbs*D)+P.natAbs*D:=by rw [hk];grind
      omega
    exact Nat.le_of_mul_le_mul_right (Nat.le_trans h4 h6) (by omega)
  · rw [hs.zr x (by omega) hx];simp
end E1
namespace E1
open Dt
def Build (cap w:Nat):Nat→Nat→List Nat→Tab→List RC→List Nat→Tab→Prop
  | 0,_,st,e,L,st',e'=>Le cap e∧L=[]∧st'=st∧e'=e
  | k+1,low,st,e,L,st',e'=>∃L1 top e1 st1 L2 e2 L3 e3 L4,TakeR cap low w st 0 e L1 top e1∧top≤st.length∧st.length≤low ∧
      ((fp (e1 low) 0 w<w∧st1=ins st top (fp (e1 low) 0 w)∧L2=liftL low top st.length∧e2=rapps L2 e1) ∨
       (¬ fp (e1 low) 0 w<w∧st1=st∧L2=[]∧e2=e1)) ∧
      Red cap st1 st1.length e2 L3 e3∧Build cap w k (low+1) st1 e3 L4 st' e'∧L=L1++(L2++(L3++L4))
def Redd (e:Tab) (st:List Nat):Prop:=∀i t,i<t→t<st.length→2*(e i (sat st t)).natAbs≤(e t (sat st t)).natAbs
theorem RC.ok.mono {n m:Nat} {c:RC} (h:c.ok n) (hm:n≤m):c.ok m:=by
  cases c with
  | add i j q=>exact ⟨Nat.lt_of_lt_of_le h.1 hm,Nat.lt_of_lt_of_le h.2.1 hm,h.2.2⟩
  | swap i j=>exact ⟨Nat.lt_of_lt_of_le h.1 hm,Nat.lt_of_lt_of_le h.2.1 hm,h.2.2⟩
  | turn i=>exact Nat.lt_of_lt_of_le h hm
theorem Stairs.sat_ge {e:Tab} {st:List Nat} {w n:Nat} (h:Stairs e st w n):∀i,i<st.length→i≤sat st i
  | 0,_=>Nat.zero_le _
  | i+1,hi=>by
    have h1:=h.sat_ge i (by omega)
    have h2:=h.mono i (i+1) (by omega) hi
    omega
theorem Stairs.len_w {e:Tab} {st:List Nat} {w n:Nat} (h:Stairs e st w n):st.length≤w:=by
  rcases Nat.eq_zero_or_pos st.length with z | z
  · omega
  · have h1:=h.sat_ge (st.length - 1) (by omega)
    have h2:=h.lt (st.length - 1) (by omega)
    omega
structure Known (e0:Tab) (w n c N:Nat):Prop where
  row:∀x y,(e0 x y).natAbs≤2^c
  bd:∀low,low≤n→∀(L:List RC) (st:List Nat),(∀x∈L,x.ok low)→Stairs (rapps L e0) st w low→Redd (rapps L e0) st→∀x,x<low→∀y,(rapps L e0 x y).natAbs≤2^c
  piv:∀low,low≤n→∀(L:List RC) (st:List Nat),(∀x∈L,x.ok low)→Stairs (rapps L e0) st w low→Redd (rapps L e0) st→∀i,i<st.length→(rapps L e0 i (sat st i)).natAbs<4^N
def sumP (P:Nat→Nat) (low:Nat):Nat→Nat
  | 0=>0
  | k+1=>P low+sumP P (low+1) k
def Step (cap w low:Nat) (st:List Nat) (e:Tab) (L:List RC) (st1:List Nat) (e3:Tab):Prop :=
  ∃L1 top e1 L2 e2 L3,TakeR cap low w st 0 e L1 top e1∧top≤st.length∧st.length≤low ∧
      ((fp (e1 low) 0 w<w∧st1=ins st top (fp (e1 low) 0 w)∧L2=liftL low top st.length∧e2=rapps L2 e1) ∨
       (¬ fp (e1 low) 0 w<w∧st1=st∧L2=[]∧e2=e1)) ∧
      Stairs e2 st1 w (low+1) ∧
      Red cap st1 st1.length e2 L3 e3∧L=L1++(L2++L3)
theorem build_ex {e0:Tab} {cap w n c N K:Nat} {P:Nat→Nat} {J:Nat→Tab→Prop} (hw:Wide e0 w) (hk:Known e0 w n c N)
    (hK:∀m m',m<n→m≤w→m'≤m+1→m'≤w→m*m+so m' m'≤K) (hcap:ups K c≤cap)
    (hP:∀low m m',low<n→m≤low→m≤w→m'≤m+1→m'≤w→m*(3*N+2*m)+(m+1)+so m' m'≤P low)
    (hJ:∀low,low<n→∀(L0:List RC) (st:List Nat),(∀x∈L0,x.ok low)→Stairs (rapps L0 e0) st w low→Redd (rapps L0 e0) st→(∀x,low≤x→∀y,rapps L0 e0 x y=e0 x y) →
      J low (rapps L0 e0)→∀L st1 e3,Step cap w low st (rapps L0 e0) L st1 e3→J (low+1) e3) :
    ∀(k low:Nat) (L0:List RC) (st:List Nat),low+k=n→(∀x∈L0,x.ok low)→Stairs (rapps L0 e0) st w low→Redd (rapps L0 e0) st→(∀x,low≤x→∀y,rapps L0 e0 x y=e0 x y)→J low (rapps L0 e0) →
      ∃L st' e',Build cap w k low st (rapps L0 e0) L st' e'∧rapps (L0++L) e0=e'∧Stairs e' st' w n∧Redd e' st'∧(∀x∈L,x.ok n)∧L.length≤sumP P low k∧(∀x,n≤x→∀y,e' x y=e0 x y)∧J n e':=by
  intro k
  induction k with
  | zero =>
    intro low L0 st hn hok hs hr ho hj
    have hc:Le c (rapps L0 e0):=fun x y=>by
      by_cases hx:x<low
      · exact hk.bd low (by omega) L0 st hok hs hr x hx y
      · rw [ho x (by omega)];exact hk.row x y
    have hn':low=n:=by omega
    refine ⟨[],st,_,⟨hc.mono (Nat.le_trans (ups_ge _ _) hcap),rfl,rfl,rfl⟩,by rw [List.append_nil],hn'▸hs,hr,fun x hx=>absurd hx (by simp),by simp,fun x hx y=>ho x (by omega) y,hn'▸hj⟩
  | succ k ih =>
    intro low L0 st hn hok hs hr ho hj
    have hc:Le c (rapps L0 e0):=fun x y=>by
      by_cases hx:x<low
      · exact hk.bd low (by omega) L0 st hok hs hr x hx y
      · rw [ho x (by omega)];exact hk.row x y
    have hm:=hs.len
    have hmw:=hs.len_w
    have hcap1:ups (st.length*st.length) c≤cap:=by
      have:=hK st.length 0 (by omega) hmw (by omega) (by omega)
      exact Nat.le_trans (ups_le (by omega) c) hcap
    obtain ⟨L1,top,e1,t1,t2,t3,t4,t5,t6,_,t8,t9,t10,t11⟩:=take_ex (n:=N) st.length 0 (rapps L0 e0) c (by omega) hs (wide_app hw L0) hc hcap1 (fun i hi=>absurd hi (by omega)) (fun i _ h2=>hk.piv low (by omega) L0 st hok hs hr i h2)
    have hex:∃st1 L2 e2,((fp (e1 low) 0 w<w∧st1=ins st top (fp (e1 low) 0 w)∧L2=liftL low top st.length∧e2=rapps L2 e1) ∨
       (¬ fp (e1 low) 0 w<w∧st1=st∧L2=[]∧e2=e1))∧Stairs e2 st1 w (low+1)∧st1.length≤st.length+1∧Le (ups (st.length*st.length) c) e2∧rapps L2 e1=e2∧L2.length≤st.length+1 ∧
       (∀x∈L2,x.ok (low+1))∧(∀x,low<x→∀y,e2 x y=e1 x y):=by
      by_cases hp:fp (e1 low) 0 w<w
      · refine ⟨_,_,_,Or.inl ⟨hp,rfl,rfl,rfl⟩,lift_stairs t2 t8 t9 t10 hp rfl,by rw [ins_len t8];omega,t3.app_swap _ (fun x y=>lift_app t8 hm e1 x y),rfl,lift_len ..,lift_ok t8 hm,?_⟩
        intro x hx y
        rw [lift_app t8 hm,if_neg (by omega),if_neg (by omega),if_neg (by omega),if_neg (by omega)]
      · refine ⟨_,_,_,Or.inr ⟨hp,rfl,rfl,rfl⟩,?_,by omega,t3,rfl,by simp,fun x hx=>absurd hx (by simp),fun _ _ _=>rfl⟩
        refine ⟨by omega,t2.lt,t2.mono,t2.nz,t2.zl,fun x h1 h2 y=>?_⟩
        by_cases hx:x=low
        · subst hx
          by_cases hy:y<w
          · exact fp_zero (e1 x) w 0 y (by omega) (by omega)
          · have:=wide_app (wide_app hw L0) L1
            rw [t4] at this
            exact this x y (by omega)
        · exact t2.zr x h1 (by omega) y
    obtain ⟨st1,L2,e2,u1,u2,u3,u4,u5,u6,u7,u8⟩:=hex
    have hm1w:=u2.len_w
    have hK1:=hK st.length st1.length (by omega) hmw u3 hm1w
    have hcap2:ups (so st1.length st1.length) (ups (st.length*st.length) c)≤cap:=by
      rw [←ups_add];exact Nat.le_trans (ups_le hK1 c) hcap
    obtain ⟨L3,e3,r1,r2,r3,r4,r5,r6,r7,r8,r9⟩:=red_ex st1.length e2 _ (Nat.le_refl _) u2 u4 hcap2
    have he3:rapps (L0++(L1++(L2++L3))) e0=e3:=by simp only [rapps_app];rw [t4,u5,r4]
    obtain ⟨L4,st',e',b1,b2,b3,b4,b5,b6,b7,b8⟩:=ih (low+1) (L0++(L1++(L2++L3))) st1 (by omega)
      (fun x hx=>by
        simp only [List.mem_append] at hx
        rcases hx with z | z | z | z
        · exact (hok x z).mono (by omega)
        · exact t6 x z
        · exact u7 x z
        · exact r6 x z)
      (by rw [he3];exact r2) (by rw [he3];exact fun i t h1 h2=>r9 i t (by omega) h1 h2)
      (fun x hx y=>by
        have:=u2.len
        rw [he3,r7 x (by omega),u8 x (by omega),t11 x (by omega),ho x (by omega)])
      (he3.symm▸hJ low (by omega) L0 st hok hs hr ho hj _ st1 e3 ⟨L1,top,e1,L2,e2,L3,t1,t8,hm,u1,u2,r1,rfl⟩)
    rw [he3] at b1
    refine ⟨L1++(L2++(L3++L4)),st',e',⟨L1,top,e1,st1,L2,e2,L3,e3,L4,t1,t8,hm,u1,r1,b1,rfl⟩,?_,b3,b4,?_,?_,b7,b8⟩
    · rw [←b2];simp only [List.append_assoc]
    · intro x hx
      simp only [List.mem_append] at hx
      rcases hx with z | z | z | z
      · exact (t6 x z).mono (by omega)
      · exact (u7 x z).mono (by omega)
      · exact (r6 x z).mono (by omega)
      · exact b5 x z
    · have hP1:=hP low st.length st1.length (by omega) hm hmw u3 hm1w
      simp only [List.length_append,sumP]
      omega
theorem steps_full {e0 e:Tab} {L:List RC} {st:List Nat} {w n r:Nat} (hL:∀c∈L,c.ok n) (he:rapps L e0=e) (hs:Stairs e st w n)
    (hcol:∀x y,r≤y→e0 x y=0) (hI:∃I:List Nat,I.length=r∧det (cut n e0) I (List.range r)≠0):st.length=r∧∀i,i<r→sat st i=i:=by
  have hwd:Wide e r:=he▸wide_app hcol L
  have hlt:∀i,i<st.length→sat st i<r:=fun i hi=>by
    apply Classical.byContradiction
    intro h
    exact hs.nz i hi (hwd i _ (by omega))
  have hle:st.length≤r:=by
    rcases Nat.eq_zero_or_pos st.length with z | z
    · omega
    · have h1:=hs.sat_ge (st.length - 1) (by omega)
      have h2:=hlt (st.length - 1) (by omega)
      omega
  have hge:r≤st.length:=by
    apply Classical.byContradiction
    intro hlt'
    obtain ⟨I,hIl,hne⟩:=hI
    have hz:∀I:List Nat,I.length=r→(0:Int)∣det (cut n (rapps L e0)) I (List.range r):=by
      intro I hIl
      rw [he]
      by_cases h1:I.Nodup
      · have:∃x∈I,st.length≤x:=by
          apply Classical.byContradiction
          intro hc'
          have:=pigeon st.length h1 (fun x hx=>by
            apply Classical.byContradiction
            intro hlt
            exact hc' ⟨x,hx,by omega⟩)
          omega
        obtain ⟨x,hx,hxr⟩:=this
        rw [det_row_zero hx (fun c _=>by
          unfold cut;split
          · exact hs.zr x hxr (by assumption) c
          · rfl)]
        exact Int.dvd_refl _
      · rw [row_dup h1];exact Int.dvd_refl _
    have:=(go_rows L e0 hL).mpr hz I hIl
    exact hne (Int.zero_dvd.mp this)
  have hlen:st.length=r:=by omega
  refine ⟨hlen,fun i hi=>?_⟩
  have h1:=hs.sat_ge i (by omega)
  have h2:∀d,i+d<st.length→sat st i+d≤sat st (i+d):=by
    intro d
    induction d with
    | zero=>intro _;simp
    | succ d ih =>
      intro hd
      have:=ih (by omega)
      have:=hs.mono (i+d) (i+(d+1)) (by omega) hd
      omega
  have h3:=h2 (r - 1 - i) (by omega)
  have h4:=hlt (i+(r - 1 - i)) (by omega)
  omega
theorem cut_app {n:Nat} {c:RC} (h:c.ok n) (e:Tab):c.app (cut n e)=cut n (c.app e):=by
  funext x y
  cases c with
  | add i j q =>
    obtain ⟨hi,hj,hij⟩:=h
    by_cases hx:x=i
    · subst hx;simp [cut,RC.app,addR,hi,hj]
    · simp [cut,RC.app,addR,hx]
  | swap i j =>
    obtain ⟨hi,hj,hij⟩:=h
    have hs:sw i j x<n↔x<n:=by
      unfold sw;split
      · omega
      · split <;> omega
    simp only [cut,RC.app,swapR,hs]
  | turn i =>
    have hi:i<n:=h
    by_cases hx:x=i
    · subst hx;simp [cut,RC.app,turnR,hi]
    · simp [cut,RC.app,turnR,hx]
theorem cut_rapps {n:Nat}:∀(L:List RC) (e:Tab),(∀c∈L,c.ok n)→rapps L (cut n e)=cut n (rapps L e)
  | [],e,_=>rfl
  | c::L,e,h=>by
    rw [rapps_cons,rapps_cons,cut_app (h c (List.mem_cons_self ..)),cut_rapps L (c.app e) (fun x hx=>h x (List.mem_cons_of_mem _ hx))]
theorem cut_cut (n:Nat) (e:Tab):cut n (cut n e)=cut n e:=by
  funext x y;unfold cut;split <;> rfl
structure LowE (e:Tab) (s:Nat→Nat) (r:Nat):Prop where
  mono:∀i j,i<j→j<r→s i<s j
  z:∀x j,j<r→x<s j→e x j=0
  col:∀x j,r≤j→e x j=0
  nz:∀j,j<r→e (s j) j≠0
theorem part_of {s:Nat→Nat} (low:Nat):∀r,(∀i j,i<j→j<r→s i<s j)→∃r',r'≤r∧(∀j,j<r'→s j<low)∧(∀j,r'≤j→j<r→low≤s j)
  | 0,_=>⟨0,Nat.le_refl _,fun j h=>absurd h (by omega),fun j _ h=>absurd h (by omega)⟩
  | r+1,h=>by
    by_cases hr:s r<low
    · exact ⟨r+1,Nat.le_refl _,fun j hj=>by
        rcases Nat.lt_or_ge j r with z | z
        · have:=h j r z (by omega);omega
        · have:j=r:=by omega
          subst this;exact hr,fun j h1 h2=>by omega⟩
    · obtain ⟨r',h1,h2,h3⟩:=part_of low r (fun i j hi hj=>h i j hi (by omega))
      exact ⟨r',by omega,h2,fun j h4 h5=>by
        rcases Nat.lt_or_ge j r with z | z
        · exact h3 j h4 z
        · have:j=r:=by omega
          subst this;omega⟩
theorem lowE_det {e:Tab} {s:Nat→Nat}:∀(b a:Nat),(∀i j,i<j→j<a+b→e (s i) j=0)→det e ((List.range' a b).map s) (List.range' a b)=pr (fun j=>e (s j) j) (List.range' a b)
  | 0,a,_=>by simp [det,pr]
  | b+1,a,h=>by
    simp only [List.range'_succ,List.map_cons,pr]
    rw [peel_low (fun d hd=>by
      have:=List.mem_range'_1.mp hd
      exact h a d (by omega) (by omega)),lowE_det b (a+1) (fun i j h1 h2=>h i j h1 (by omega))]
theorem pr_le_part {d:Nat→Int} {r' r:Nat} (h:r'≤r) (hnz:∀i,i<r→d i≠0):(pr d (List.range r')).natAbs≤(pr d (List.range r)).natAbs:=by
  obtain ⟨k,rfl⟩:=Nat.exists_eq_add_of_le h
  rw [List.range_add,pr_app,Int.natAbs_mul]
  have:pr d ((List.range k).map (r'+·))≠0:=by
    intro hz
    obtain ⟨i,hi,h0⟩:=pr_zero.mp hz
    obtain ⟨j,hj,rfl⟩:=List.mem_map.mp hi
    exact hnz _ (by have:=List.mem_range.mp hj;omega) h0
  have h1:(pr d (List.range r')).natAbs*1≤(pr d (List.range r')).natAbs*(pr d ((List.range k).map (r'+·))).natAbs:=Nat.mul_le_mul_left _ (by omega)
  omega
theorem lowE_stairs {e0:Tab} {s:Nat→Nat} {r low w:Nat} (h0:LowE e0 s r) {L:List RC} {st:List Nat} (hL:∀c∈L,c.ok low) (hs:Stairs (rapps L e0) st w low) :
    ∃r',r'≤r∧(∀j,j<r'→s j<low)∧(∀j,r'≤j→j<r→low≤s j)∧st.length=r'∧(∀i,i<r'→sat st i=i)∧(∀x y,x<low→r'≤y→rapps L e0 x y=0) ∧
      (pr (fun i=>rapps L e0 i i) (List.range r')).natAbs≤(pr (fun j=>e0 (s j) j) (List.range r')).natAbs:=by
  obtain ⟨r',hr1,hr2,hr3⟩:=part_of low r h0.mono
  have hcol:∀x y,r'≤y→cut low e0 x y=0:=fun x y hy=>by
    unfold cut;split
    · rcases Nat.lt_or_ge y r with z | z
      · exact h0.z x y z (by have:=hr3 y hy z;omega)
      · exact h0.col x y z
    · rfl
  have hcs:∀x y,x<low→cut low (rapps L e0) x y=rapps L e0 x y:=fun x y h=>by simp [cut,h]
  have hlen:=hs.len
  have hsc:Stairs (cut low (rapps L e0)) st w low:=⟨hs.len,hs.lt,hs.mono,fun i hi=>by rw [hcs _ _ (by omega)];exact hs.nz i hi,fun i hi y hy=>by rw [hcs _ _ (by omega)];exact hs.zl i hi y hy,fun x h1 h2 y=>by rw [hcs _ _ h2];exact hs.zr x h1 h2 y⟩
  have hdet:det (cut low e0) ((List.range' 0 r').map s) (List.range' 0 r')=pr (fun j=>cut low e0 (s j) j) (List.range' 0 r'):=lowE_det r' 0 (fun i j h1 h2=>by
    unfold cut;split
    · exact h0.z _ j (by omega) (h0.mono i j h1 (by omega))
    · rfl)
  have hpr:pr (fun j=>cut low e0 (s j) j) (List.range' 0 r')≠0:=by
    intro hz
    obtain ⟨i,hi,h⟩:=pr_zero.mp hz
    have:=List.mem_range'_1.mp hi
    simp only [cut,hr2 i (by omega),if_true] at h
    exact h0.nz i (by omega) h
  obtain ⟨f1,f2⟩:=steps_full (e0:=cut low e0) (e:=cut low (rapps L e0)) (L:=L) (n:=low) (r:=r') hL (cut_rapps L e0 hL) hsc hcol ⟨(List.range' 0 r').map s,by simp,by rw [cut_cut,List.range_eq_range',hdet];exact hpr⟩
  have hwd:Wide (cut low (rapps L e0)) r':=by rw [←cut_rapps L e0 hL];exact wide_app hcol L
  refine ⟨r',hr1,hr2,hr3,f1,f2,fun x y h1 h2=>by rw [←hcs x y h1];exact hwd x y h2,?_⟩
  have hup:det (cut low (rapps L e0)) (List.range r') (List.range r')=pr (fun i=>cut low (rapps L e0) i i) (List.range r'):=by
    have:=peel_steps (e:=cut low (rapps L e0)) (s:=id) (k:=0) (m:=r') [] r' 0 (by omega) (fun i j h1 h2=>by
      rw [hcs j _ (by omega)]
      exact hs.zl j (by omega) _ (by rw [f2 j h2];exact h1))
    simpa [List.range_eq_range',det] using this
  have hg:∀I:List Nat,I.length=r'→det (cut low (rapps L e0)) (List.range r') (List.range r')∣det (cut low (rapps L e0)) I (List.range r'):=by
    intro I hI
    by_cases h1:I.Nodup
    · by_cases h2:∀x∈I,x<r'
      · obtain ⟨s,_,hp⟩:=row_perm (e:=cut low (rapps L e0)) (perm_range r' h1 h2 hI).symm
        rw [hp];exact Int.dvd_mul_left _ _
      · have:∃x∈I,r'≤x:=by
          apply Classical.byContradiction
          intro hc'
          exact h2 (fun x hx=>by
            apply Classical.byContradiction
            intro hlt
            exact hc' ⟨x,hx,by omega⟩)
        obtain ⟨x,hx,hxr⟩:=this
        rw [det_row_zero hx (fun c _=>by
          unfold cut;split
          · exact hs.zr x (by omega) (by assumption) c
          · rfl)]
        exact Int.dvd_zero _
    · rw [row_dup h1];exact Int.dvd_zero _
  have hgo:=(go_rows L e0 hL).mpr hg ((List.range' 0 r').map s) (by simp)
  rw [hup,List.range_eq_range',hdet] at hgo
  have hle:=Nat.le_of_dvd (by omega) (Int.natAbs_dvd_natAbs.mpr hgo)
  have e1:pr (fun i=>cut low (rapps L e0) i i) (List.range' 0 r')=pr (fun i=>rapps L e0 i i) (List.range r'):=by
    rw [List.range_eq_range']
    have:∀l:List Nat,(∀x∈l,x<low)→pr (fun i=>cut low (rapps L e0) i i) l=pr (fun i=>rapps L e0 i i) l:=by
      intro l
      induction l with
      | nil=>intro _;rfl
      | cons a l ih=>intro h;simp only [pr];rw [ih (fun x hx=>h x (List.mem_cons_of_mem _ hx)),hcs a a (h a (List.mem_cons_self ..))]
    exact this _ (fun x hx=>by have:=List.mem_range'_1.mp hx;omega)
  have e2:pr (fun j=>cut low e0 (s j) j) (List.range' 0 r')=pr (fun j=>e0 (s j) j) (List.range r'):=by
    rw [List.range_eq_range']
    have:∀l:List Nat,(∀x∈l,x<r')→pr (fun j=>cut low e0 (s j) j) l=pr (fun j=>e0 (s j) j) l:=by
      intro l
      induction l with
      | nil=>intro _;rfl
      | cons a l ih =>
        intro h;simp only [pr]
        rw [ih (fun x hx=>h x (List.mem_cons_of_mem _ hx))]
        have:=hr2 a (h a (List.mem_cons_self ..))
        simp [cut,this]
    exact this _ (fun x hx=>by have:=List.mem_range'_1.mp hx;omega)
  rw [e1,e2] at hle
  exact hle
theorem pr_part_le {d:Nat→Int} {r i:Nat} (hi:i<r) (hnz:pr d (List.range r)≠0):(d i).natAbs≤(pr d (List.range r)).natAbs:=by
  have hp:(List.range r).Perm (i::(List.range r).erase i):=List.perm_cons_erase (List.mem_range.mpr hi)
  have hd:d i∣pr d (List.range r):=by rw [pr_perm hp];exact Int.dvd_mul_right _ _
  exact Nat.le_of_dvd (by omega) (Int.natAbs_dvd_natAbs.mpr hd)
theorem known_low {e0:Tab} {s:Nat→Nat} {r w n c N:Nat} (h0:LowE e0 s r) (hrow:∀x y,(e0 x y).natAbs≤2^c)
    (hD:(pr (fun j=>e0 (s j) j) (List.range r)).natAbs≤2^c) (hN:(pr (fun j=>e0 (s j) j) (List.range r)).natAbs<4^N):Known e0 w n c N:=by
  have key:∀low,low≤n→∀(L:List RC) (st:List Nat),(∀x∈L,x.ok low)→Stairs (rapps L e0) st w low→Redd (rapps L e0) st →
      (∀i,i<st.length→(rapps L e0 i (sat st i)).natAbs≤(pr (fun j=>e0 (s j) j) (List.range r)).natAbs)∧(∀x,x<low→∀y,(rapps L e0 x y).natAbs≤(pr (fun j=>e0 (s j) j) (List.range r)).natAbs):=by
    intro low hl L st hL hs hr
    obtain ⟨r',hr1,hr2,hr3,f1,f2,f3,f4⟩:=lowE_stairs h0 hL hs
    have hle:=pr_le_part (d:=fun j=>e0 (s j) j) hr1 h0.nz
    have hpnz:pr (fun i=>rapps L e0 i i) (List.range r')≠0:=by
      intro hz
      obtain ⟨i,hi,h⟩:=pr_zero.mp hz
      have hi':=List.mem_range.mp hi
      exact hs.nz i (by omega) (by rw [f2 i hi'];exact h)
    have hpiv:∀i,i<r'→(rapps L e0 i i).natAbs≤(pr (fun j=>e0 (s j) j) (List.range r)).natAbs:=fun i hi =>
      Nat.le_trans (pr_part_le (d:=fun i=>rapps L e0 i i) hi hpnz) (Nat.le_trans f4 hle)
    refine ⟨fun i hi=>by rw [f2 i (by omega)];exact hpiv i (by omega),fun x hx y=>?_⟩
    rcases Nat.lt_or_ge x r' with hx1 | hx1
    · rcases Nat.lt_or_ge y r' with hy1 | hy1
      · rcases Nat.lt_trichotomy x y with z | z | z
        · have h1:=hr x y z (by omega)
          rw [f2 y hy1] at h1
          have h2:=hpiv y hy1
          omega
        · subst z;exact hpiv x hx1
        · rw [hs.zl x (by omega) y (by rw [f2 x hx1];exact z)];simp
      · rw [f3 x y hx hy1];simp
    · rw [hs.zr x (by omega) hx];simp
  exact ⟨hrow,fun low hl L st h1 h2 h3 x hx y=>Nat.le_trans ((key low hl L st h1 h2 h3).2 x hx y) hD,fun low hl L st h1 h2 h3 i hi=>Nat.lt_of_le_of_lt ((key low hl L st h1 h2 h3).1 i hi) hN⟩
theorem known_any {e0:Tab} {w n c N B:Nat} (hB:∀x y,(e0 x y).natAbs≤B) (hBc:B≤2^c) (h:∀m,m≤n→m≤w→m*(fac m*B^m)≤2^c) (hN:2^c<4^N):Known e0 w n c N:=by
  have key:∀low,low≤n→∀(L:List RC) (st:List Nat),(∀x∈L,x.ok low)→Stairs (rapps L e0) st w low→Redd (rapps L e0) st →
      (∀x,x<low→∀y,(rapps L e0 x y).natAbs≤2^c):=by
    intro low hl L st hL hs hr x hx y
    have h1:=reset hL (fun x _ y=>hB x y) rfl hs hr x hx y
    exact Nat.le_trans h1 (h st.length (by have:=hs.len;omega) hs.len_w)
  exact ⟨fun x y=>Nat.le_trans (hB x y) hBc,key,fun low hl L st h1 h2 h3 i hi=>Nat.lt_of_le_of_lt (key low hl L st h1 h2 h3 i (by have:=h2.len;omega) _) hN⟩
end E1
namespace E1
open Dt
def RC.ge (k:Nat):RC→Prop
  | .add i j _=>k≤i∧k≤j
  | .swap i j=>k≤i∧k≤j
  | .turn i=>k≤i
theorem RC.ge.mono {n m:Nat} {c:RC} (h:c.ge n) (hm:m≤n):c.ge m:=by
  cases c with
  | add i j q=>exact ⟨Nat.le_trans hm h.1,Nat.le_trans hm h.2⟩
  | swap i j=>exact ⟨Nat.le_trans hm h.1,Nat.le_trans hm h.2⟩
  | turn i=>exact Nat.le_trans hm h
def Bare (k:Nat) (e:Tab):Prop:=∀i,i<k→∀j,j≠i→e i j=0∧e j i=0
theorem ge_rows {k:Nat}:∀(L:List RC) (e:Tab),(∀c∈L,c.ge k)→∀i,i<k→∀y,rapps L e i y=e i y
  | [],e,_,i,_,y=>rfl
  | c::L,e,h,i,hi,y=>by
    rw [rapps_cons,ge_rows L (c.app e) (fun x hx=>h x (List.mem_cons_of_mem _ hx)) i hi]
    have hc:=h c (List.mem_cons_self ..)
    cases c with
    | add a b q=>simp only [RC.app,addR];rw [if_neg (by have:=hc.1;omega)]
    | swap a b =>
      simp only [RC.app,swapR,sw]
      have h1:=hc.1
      have h2:=hc.2
      rw [if_neg (by omega),if_neg (by omega)]
    | turn a =>
      have h1:k≤a:=hc
      simp only [RC.app,turnR];rw [if_neg (by omega)]
theorem ge_bare {k:Nat}:∀(L:List RC) (e:Tab),(∀c∈L,c.ge k)→Bare k e→Bare k (rapps L e)
  | [],e,_,h=>h
  | c::L,e,hL,h=>by
    rw [rapps_cons]
    refine ge_bare L (c.app e) (fun x hx=>hL x (List.mem_cons_of_mem _ hx)) ?_
    have hc:=hL c (List.mem_cons_self ..)
    intro i hi j hj
    have hrow:(c.app e) i j=e i j:=ge_rows [c] e (fun x hx=>by simp at hx;subst hx;exact hc) i hi j
    refine ⟨by rw [hrow];exact (h i hi j hj).1,?_⟩
    cases c with
    | add a b q =>
      have h1:=hc.1
      have h2:=hc.2
      simp only [RC.app,addR]
      split
      · rw [(h i hi a (by omega)).2,(h i hi b (by omega)).2];simp
      · exact (h i hi j hj).2
    | swap a b =>
      have h1:=hc.1
      have h2:=hc.2
      simp only [RC.app,swapR,sw]
      split
      · exact (h i hi b (by omega)).2
      · split
        · exact (h i hi a (by omega)).2
        · exact (h i hi j hj).2
    | turn a =>
      have h1:k≤a:=hc
      simp only [RC.app,turnR]
      split
      · rw [(h i hi a (by omega)).2];rfl
      · exact (h i hi j hj).2
theorem lch_ge {k i j:Nat} {q:Int} (hi:k≤i) (hj:k≤j):∀c∈lch i j q,c.ge k:=by
  unfold lch;split
  · simp
  · intro c hc;simp at hc;subst hc;exact ⟨hi,hj⟩
theorem meet_ge {cap top low p k:Nat} (ht:k≤top) (hl:k≤low) {e e':Tab} {L:List RC} (h:MeetR cap top low p e L e'):∀c∈L,c.ge k:=by
  induction h with
  | done=>intro c hc;simp at hc
  | half=>exact lch_ge hl ht
  | turn _ _ _ _ _ _ _ _ _ _ ih =>
    intro c hc
    simp only [List.mem_append] at hc
    rcases hc with z | z | z
    · exact lch_ge hl ht c z
    · exact lch_ge ht hl c z
    · exact ih c z
  | swap =>
    intro c hc
    simp only [List.mem_append,List.mem_singleton] at hc
    rcases hc with z | z | z
    · exact lch_ge hl ht c z
    · exact lch_ge ht hl c z
    · subst z;exact ⟨ht,hl⟩
theorem meet_rapps {cap top low p:Nat} {e e':Tab} {L:List RC} (h:MeetR cap top low p e L e'):rapps L e=e':=by
  induction h with
  | done=>rfl
  | half _ _ _ h1=>rw [lch_app,h1];rfl
  | turn _ _ _ h1 _ _ h2 _ _ _ ih=>subst h1;subst h2;rw [rapps_app,rapps_app,lch_app,lch_app];exact ih
  | swap _ _ _ h1 _ _ h2=>subst h1;subst h2;rw [rapps_app,rapps_app,lch_app,lch_app];rfl
theorem meet_rows {cap top low p:Nat} {e e':Tab} {L:List RC} (h:MeetR cap top low p e L e'):∀x,x≠top→x≠low→∀y,e' x y=e x y:=by
  induction h with
  | done=>intros;rfl
  | half _ _ _ h1=>intro x _ h3 y;rw [h1,less_other h3]
  | turn _ _ _ h1 _ _ h2 _ _ _ ih=>intro x h3 h4 y;rw [ih x h3 h4,h2,less_other h3,h1,less_other h4]
  | swap _ _ _ h1 _ _ h2=>intro x h3 h4 y;simp only [swapR,sw,if_neg h3,if_neg h4];rw [h2,less_other h3,h1,less_other h4]
theorem meet_dvd {cap top low p:Nat} (htl:top≠low) {e e':Tab} {L:List RC} (h:MeetR cap top low p e L e'):e' top p∣e top p∧e' top p∣e low p:=by
  have back:∀{g x y q:Int},g∣x→g∣y+q*x→g∣y:=fun {g x y q} h1 h2=>by
    have:y=(y+q*x) - q*x:=by omega
    rw [this];exact Int.dvd_sub h2 (Int.dvd_mul_of_dvd_right h1)
  induction h with
  | done _ h0=>rw [h0];exact ⟨Int.dvd_refl _,Int.dvd_zero _⟩
  | half _ _ _ h1 _ h2 =>
    subst h1
    rw [less_other htl]
    refine ⟨Int.dvd_refl _,?_⟩
    rw [less_row] at h2
    exact back (Int.dvd_refl _) (by rw [h2];exact Int.dvd_zero _)
  | turn _ _ _ h1 _ _ h2 _ _ _ ih =>
    subst h1;subst h2
    obtain ⟨a,b⟩:=ih
    rw [less_row] at a
    rw [less_other (Ne.symm htl)] at b
    have c:=back b a
    rw [less_other htl] at c
    rw [less_row] at b
    exact ⟨c,back c b⟩
  | swap _ _ _ h1 _ _ h2 _ h3 =>
    subst h1;subst h2
    simp only [swapR,sw,if_pos]
    rw [less_other (Ne.symm htl)]
    rw [less_row] at h3
    have c:=back (Int.dvd_refl _) (by rw [h3];exact Int.dvd_zero _)
    rw [less_other htl] at c
    refine ⟨c,?_⟩
    generalize hg:less _ low top p low p=g at c ⊢
    rw [less_row] at hg
    exact back c (by rw [hg];exact Int.dvd_refl _)
theorem meet_keep {cap top low p:Nat} (htl:top≠low) {e e':Tab} {L:List RC} (h:MeetR cap top low p e L e') (hd:e top p∣e low p):∀y,e' top y=e top y:=by
  have hz:∀{e:Tab},e top p≠0→e top p∣e low p→less e low top p low p=0:=fun {e} h1 h2=>by
    rw [less_row];exact quo_exact h1 h2
  cases h with
  | done=>intro y;rfl
  | half _ _ _ h1=>intro y;rw [h1,less_other htl]
  | turn _ _ hx h1 _ h2=>subst h1;exact absurd (hz hx hd) h2
  | swap _ _ hx h1 _ h2=>subst h1;exact absurd (hz hx hd) h2
section
variable {cap:Nat} {st:List Nat} {row:Nat}
theorem lrow_ge {k:Nat} (hr:k≤row):∀(n t:Nat) (e:Tab) (L:List RC) (e':Tab),LRow cap st row t n e L e'→k≤t→∀c∈L,c.ge k
  | 0,t,e,L,e',h,_=>by rw [h.2.1];simp
  | n+1,t,e,L,e',h,ht=>by
    obtain ⟨_,_,L2,h2,rfl⟩:=h
    intro c hc
    rcases List.mem_append.mp hc with z | z
    · exact lch_ge hr ht c z
    · exact lrow_ge hr n (t+1) _ _ _ h2 (by omega) c z
theorem lrow_rapps:∀(n t:Nat) (e:Tab) (L:List RC) (e':Tab),LRow cap st row t n e L e'→rapps L e=e'
  | 0,t,e,L,e',h=>by rw [h.2.1,h.2.2];rfl
  | n+1,t,e,L,e',h=>by
    obtain ⟨_,_,L2,h2,rfl⟩:=h
    rw [rapps_app,lch_app]
    exact lrow_rapps n (t+1) _ _ _ h2
theorem lrow_rows:∀(n t:Nat) (e:Tab) (L:List RC) (e':Tab),LRow cap st row t n e L e'→∀x,x≠row→∀y,e' x y=e x y
  | 0,t,e,L,e',h=>by rw [h.2.2];intros;rfl
  | n+1,t,e,L,e',h=>by
    obtain ⟨_,_,L2,h2,rfl⟩:=h
    intro x hx y
    rw [lrow_rows n (t+1) _ _ _ h2 x hx,less_other hx]
theorem lrow_col {y:Nat}:∀(n t:Nat) (e:Tab) (L:List RC) (e':Tab),LRow cap st row t n e L e'→row<t→(∀i,t≤i→i<t+n→e i y=0)→e' row y=e row y
  | 0,t,e,L,e',h,_,_=>by rw [h.2.2]
  | n+1,t,e,L,e',h,ht,hz=>by
    obtain ⟨_,_,L2,h2,rfl⟩:=h
    rw [lrow_col n (t+1) _ _ _ h2 (by omega) (fun i h3 h4=>by rw [less_other (by omega)];exact hz i (by omega) (by omega)),less_row,hz t (Nat.le_refl _) (by omega)]
    simp
theorem lrow_nil:∀(n t:Nat) (e:Tab) (L:List RC) (e':Tab),LRow cap st row t n e L e'→(∀i,t≤i→i<t+n→e row (sat st i)=0)→L=[]∧e'=e
  | 0,t,e,L,e',h,_=>⟨h.2.1,h.2.2⟩
  | n+1,t,e,L,e',h,hz=>by
    obtain ⟨_,hnz,L2,h2,rfl⟩:=h
    have hq:lq e row t (sat st t)=0:=by
      unfold lq;rw [hz t (Nat.le_refl _) (by omega)]
      exact quo_zero hnz (by omega)
    have hl:less e row t (sat st t)=e:=by unfold less;rw [hq,addR_zero]
    rw [hl] at h2
    obtain ⟨a,b⟩:=lrow_nil n (t+1) _ _ _ h2 (fun i h3 h4=>hz i (by omega) (by omega))
    rw [a,b,hq]
    exact ⟨rfl,rfl⟩
theorem lrow_ok {m:Nat} (hr:row<m):∀(n t:Nat) (e:Tab) (L:List RC) (e':Tab),LRow cap st row t n e L e'→t+n≤m→(∀i,t≤i→i<t+n→i≠row)→∀c∈L,c.ok m
  | 0,t,e,L,e',h,_,_=>by rw [h.2.1];simp
  | n+1,t,e,L,e',h,ht,hne=>by
    obtain ⟨_,_,L2,h2,rfl⟩:=h
    intro c hc
    rcases List.mem_append.mp hc with z | z
    · exact lch_ok hr (by omega) (Ne.symm (hne t (Nat.le_refl _) (by omega))) c z
    · exact lrow_ok hr n (t+1) _ _ _ h2 (by omega) (fun i h3 h4=>hne i (by omega) (by omega)) c z
end
theorem meet_ok {cap top low p n:Nat} (htl:top≠low) (ht:top<n) (hl:low<n) {e e':Tab} {L:List RC} (h:MeetR cap top low p e L e'):∀c∈L,c.ok n:=by
  induction h with
  | done=>intro c hc;simp at hc
  | half=>exact lch_ok hl ht (Ne.symm htl)
  | turn _ _ _ _ _ _ _ _ _ _ ih =>
    intro c hc
    simp only [List.mem_append] at hc
    rcases hc with z | z | z
    · exact lch_ok hl ht (Ne.symm htl) c z
    · exact lch_ok ht hl htl c z
    · exact ih c z
  | swap =>
    intro c hc
    simp only [List.mem_append,List.mem_singleton] at hc
    rcases hc with z | z | z
    · exact lch_ok hl ht (Ne.symm htl) c z
    · exact lch_ok ht hl htl c z
    · subst z;exact ⟨ht,hl,htl⟩
section
variable {cap low w:Nat} {st:List Nat}
theorem take_rapps {top top':Nat} {e e':Tab} {L:List RC} (h:TakeR cap low w st top e L top' e'):rapps L e=e':=by
  induction h with
  | stop=>rfl
  | skip _ _ _ _ ih=>exact ih
  | meet _ _ _ m l1 l2 _ ih =>
    rw [rapps_app,rapps_app,rapps_app,meet_rapps m,lrow_rapps _ _ _ _ _ l1,lrow_rapps _ _ _ _ _ l2]
    exact ih
theorem take_ge {k top top':Nat} {e e':Tab} {L:List RC} (hl:k≤low) (h:TakeR cap low w st top e L top' e'):k≤top→(∀c∈L,c.ge k)∧top≤top':=by
  induction h with
  | stop=>intro _;exact ⟨by simp,Nat.le_refl _⟩
  | skip _ _ _ _ ih=>intro ht;obtain ⟨a,b⟩:=ih (by omega);exact ⟨a,by omega⟩
  | meet _ _ _ m l1 l2 _ ih =>
    intro ht
    obtain ⟨a,b⟩:=ih (by omega)
    refine ⟨fun c hc=>?_,by omega⟩
    simp only [List.mem_append] at hc
    rcases hc with z | z | z | z
    · exact meet_ge ht hl m c z
    · exact lrow_ge ht _ _ _ _ _ l1 (by omega) c z
    · exact lrow_ge hl _ _ _ _ _ l2 (by omega) c z
    · exact a c z
theorem take_ok {top top':Nat} {e e':Tab} {L:List RC} (hl:st.length≤low) (h:TakeR cap low w st top e L top' e'):∀c∈L,c.ok (low+1):=by
  induction h with
  | stop=>simp
  | skip _ _ _ _ ih=>exact ih
  | meet _ ht _ m l1 l2 _ ih =>
    intro c hc
    simp only [List.mem_append] at hc
    rcases hc with z | z | z | z
    · exact meet_ok (by omega) (by omega) (by omega) m c z
    · exact lrow_ok (by omega) _ _ _ _ _ l1 (by omega) (fun i _ _=>by omega) c z
    · exact lrow_ok (by omega) _ _ _ _ _ l2 (by omega) (fun i _ _=>by omega) c z
    · exact ih c z
theorem take_to {k top top':Nat} {e e':Tab} {L:List RC} (hk:k≤st.length) (hkw:k≤w) (hsat:∀i,i<k→sat st i=i) (h:TakeR cap low w st top e L top' e') :
    (∀y,y<k→e low y=0)→top≤k→TakeR cap low w st k e L top' e':=by
  intro hz ht
  obtain ⟨d,hd⟩:∃d,k=top+d:=⟨k - top,by omega⟩
  induction d generalizing top with
  | zero => have : k = top := by omega
            subst this;exact h
  | succ d ih =>
    have htk:top<k:=by omega
    have hfp:top<fp (e low) 0 w:=fp_gt (by omega) (fun z hzz=>hz z (by omega))
    cases h with
    | stop _ hn=>exact absurd ⟨by omega,by rw [hsat _ htk];omega⟩ hn
    | skip _ _ _ h2=>exact ih h2 (by omega) (by omega)
    | meet _ _ h2=>rw [hsat top htk] at h2;omega
end
theorem red_bare {cap k:Nat} {st:List Nat} (hsat:∀i,i<st.length→sat st i=i):∀(j:Nat) (e:Tab) (L:List RC) (e':Tab),Red cap st j e L e'→j≤st.length→Bare k e→(∀t,k<t→t<st.length→e t k=0) →
    Bare k e'∧(∀i,i<k→∀y,e' i y=e i y)∧e' k k=e k k∧((∀y,y≠k→e k y=0)→∀y,e' k y=e k y)
  | 0,e,L,e',h,_,hb,_=>by rw [h.2.2];exact ⟨hb,fun _ _ _=>rfl,rfl,fun _ _=>rfl⟩
  | j+1,e,L,e',h,hj,hb,hz=>by
    obtain ⟨L1,e1,L2,h1,h2,rfl⟩:=h
    rcases Nat.lt_trichotomy j k with z | z | z
    · -- a bare row
      obtain ⟨_,rfl⟩:=lrow_nil _ _ _ _ _ h1 (fun i h3 h4=>by rw [hsat i (by omega)];exact (hb j z i (by omega)).1)
      exact red_bare hsat j _ L2 e' h2 (by omega) hb hz
    · subst z
      have hge:=lrow_ge (Nat.le_refl _) _ _ _ _ _ h1 (Nat.le_succ _)
      have hr:=lrow_rapps _ _ _ _ _ h1
      have hb1:Bare j e1:=hr▸ge_bare L1 e hge hb
      have hrow:=lrow_rows _ _ _ _ _ h1
      have hcol:e1 j j=e j j:=lrow_col _ _ _ _ _ h1 (by omega) (fun i h3 h4=>hz i (by omega) (by omega))
      obtain ⟨a,b,c,d⟩:=red_bare hsat j e1 L2 e' h2 (by omega) hb1 (fun t h3 h4=>by rw [hrow t (by omega)];exact hz t h3 h4)
      refine ⟨a,fun i hi y=>by rw [b i hi,hrow i (by omega)],by rw [c,hcol],fun h0=>?_⟩
      obtain ⟨_,rfl⟩:=lrow_nil _ _ _ _ _ h1 (fun i h3 h4=>by rw [hsat i (by omega)];exact h0 i (by omega))
      exact d h0
    · have hge:=lrow_ge (k:=k) (by omega) _ _ _ _ _ h1 (by omega)
      have hr:=lrow_rapps _ _ _ _ _ h1
      have hb1:Bare k e1:=hr▸ge_bare L1 e hge hb
      have hrow:=lrow_rows _ _ _ _ _ h1
      have hcol:e1 j k=e j k:=lrow_col _ _ _ _ _ h1 (by omega) (fun i h3 h4=>hz i (by omega) (by omega))
      obtain ⟨a,b,c,d⟩:=red_bare hsat j e1 L2 e' h2 (by omega) hb1 (fun t h3 h4=>by
        by_cases ht:t=j
        · subst ht;rw [hcol];exact hz t h3 h4
        · rw [hrow t ht];exact hz t h3 h4)
      refine ⟨a,fun i hi y=>by rw [b i hi,hrow i (by omega)],by rw [c,hrow k (by omega)],fun h0 y=>?_⟩
      rw [d (fun y hy=>by rw [hrow k (by omega)];exact h0 y hy) y,hrow k (by omega)]
def PK (k:Nat) (e0 e:Tab):Prop:=e k k∣e0 k k∧((e k k).natAbs=(e0 k k).natAbs→∀y,e k y=e0 k y)
def BJ (k:Nat) (e0 e:Tab):Prop:=Bare k e∧(∀i,i<k→∀y,e i y=e0 i y)∧PK k e0 e
theorem bare_step {e0:Tab} {r w k cap low:Nat} (h0:LowE e0 id r) (hkr:k<r) (hrw:r≤w) {L0:List RC} {st:List Nat} (hL0:∀x∈L0,x.ok low)
    (hs:Stairs (rapps L0 e0) st w low) (hj:BJ k e0 (rapps L0 e0)) {L:List RC} {st1:List Nat} {e3:Tab} (h:Step cap w low st (rapps L0 e0) L st1 e3) (hb0:Bare k e0):BJ k e0 e3:=by
  obtain ⟨L1,top,e1,L2,e2,L3,t1,t2,t3,t4,t5,t6,rfl⟩:=h
  obtain ⟨r',f1,f2,f3,f4,f5,f6,_⟩:=lowE_stairs h0 hL0 hs
  obtain ⟨j1,j2,j3⟩:=hj
  have hok1:=take_ok t3 t1
  have ht1:=take_rapps t1
  have hok2:(∀c∈L2,c.ok (low+1))∧rapps L2 e1=e2:=by
    rcases t4 with z | z
    · rw [z.2.2.1,z.2.2.2,z.2.2.1];exact ⟨lift_ok t2 t3,rfl⟩
    · rw [z.2.2.1,z.2.2.2];exact ⟨by simp,rfl⟩
  have he2:rapps (L0++(L1++L2)) e0=e2:=by rw [rapps_app,rapps_app,ht1,hok2.2]
  obtain ⟨r2,g1,g2,g3,g4,g5,g6,_⟩:=lowE_stairs (L:=L0++(L1++L2)) (st:=st1) (w:=w) (low:=low+1) h0 (fun x hx=>by
    simp only [List.mem_append] at hx
    rcases hx with z | z | z
    · exact (hL0 x z).mono (by omega)
    · exact hok1 x z
    · exact hok2.1 x z) (by rw [he2];exact t5)
  have hsat1:∀i,i<st1.length→sat st1 i=i:=fun i hi=>g5 i (by omega)
  have hz2:∀t,k<t→t<st1.length→e2 t k=0:=fun t h1 h2=>t5.zl t h2 k (by rw [hsat1 t h2];exact h1)
  simp only [id] at f2 f3
  suffices hmain:Bare k e2∧(∀i,i<k→∀y,e2 i y=e0 i y)∧PK k e0 e2 by
    obtain ⟨m1,m2,m3⟩:=hmain
    obtain ⟨a,b,c,d⟩:=red_bare hsat1 st1.length e2 L3 e3 t6 (Nat.le_refl _) m1 hz2
    refine ⟨a,fun i hi y=>by rw [b i hi,m2 i hi],by rw [c];exact m3.1,fun hq y=>?_⟩
    rw [c] at hq
    have he:=m3.2 hq
    rw [d (fun y hy=>by
      rw [he y]
      rcases Nat.lt_or_ge y k with z | z
      · exact (hb0 y z k (by omega)).2
      · rcases Nat.lt_or_ge y r with z2 | z2
        · exact h0.z k y z2 (by simp only [id];omega)
        · exact h0.col k y z2) y,he y]
  rcases Nat.lt_or_ge k low with hlow | hlow
  · -- behind place k
    have hkm:k<st.length:=by
      apply Classical.byContradiction
      intro hn
      have:=f3 k (by omega) hkr
      omega
    have hzl:∀y,y<k→rapps L0 e0 low y=0:=fun y hy=>(j1 y hy low (by omega)).2
    have t1':=take_to (k:=k) (by omega) (by omega) (fun i hi=>f5 i (by omega)) t1 hzl (by omega)
    have hsk:sat st k=k:=f5 k (by omega)
    have lift_part:k+1≤top→(∀c∈L2,c.ge (k+1)):=by
      intro ht c hc
      rcases t4 with z | z
      · rw [z.2.2.1] at hc
        unfold liftL at hc
        rcases List.mem_append.mp hc with y | y
        · split at y
          · simp at y
          · simp at y;subst y;exact ⟨by omega,by omega⟩
        · have:∀(n:Nat),∀c∈downs top n,c.ge (k+1):=by
            intro n
            induction n with
            | zero=>intro c hc;simp [downs] at hc
            | succ n ih =>
              intro c hc
              simp only [downs,List.mem_cons] at hc
              rcases hc with q | q
              · subst q;exact ⟨by omega,by omega⟩
              · exact ih c q
          exact this _ c y
      · rw [z.2.2.1] at hc;simp at hc
    have hfp:k≤fp (rapps L0 e0 low) 0 w:=by
      rcases Nat.eq_zero_or_pos k with z | z
      · omega
      · have:=fp_gt (r:=rapps L0 e0 low) (w:=w) (y:=k - 1) (by omega) (fun x hx=>hzl x (by omega))
        omega
    cases t1' with
    | stop _ hn=>exact absurd ⟨hkm,by rw [hsk];exact hfp⟩ hn
    | skip _ _ _ h2 =>
      obtain ⟨a,b⟩:=take_ge (k:=k+1) (by omega) h2 (Nat.le_refl _)
      have hge:∀c∈L1++L2,c.ge (k+1):=fun c hc=>by
        rcases List.mem_append.mp hc with z | z
        · exact a c z
        · exact lift_part b c z
      have e2':rapps (L1++L2) (rapps L0 e0)=e2:=by rw [rapps_app,ht1,hok2.2]
      have hrows:=ge_rows (L1++L2) (rapps L0 e0) hge
      rw [e2'] at hrows
      refine ⟨e2'▸ge_bare _ _ (fun c hc=>(hge c hc).mono (by omega)) j1,fun i hi y=>by rw [hrows i (by omega),j2 i hi],?_⟩
      refine ⟨by rw [hrows k (by omega)];exact j3.1,fun hq y=>?_⟩
      rw [hrows k (by omega)] at hq
      rw [hrows k (by omega),j3.2 hq y]
    | @meet _ _ _ m1 m2 m3 _ M1 M2 M3 M4 _ _ _ hm hl1 hl2 h2 =>
      obtain ⟨a,b⟩:=take_ge (k:=k+1) (by omega) h2 (Nat.le_refl _)
      rw [hsk] at hm
      have hkl:k≠low:=by omega
      have hge4:∀c∈M4++L2,c.ge (k+1):=fun c hc=>by
        rcases List.mem_append.mp hc with z | z
        · exact a c z
        · exact lift_part b c z
      have e2':rapps (M4++L2) m3=e2:=by rw [rapps_app,take_rapps h2,hok2.2]
      have hrows:=ge_rows (M4++L2) m3 hge4
      rw [e2'] at hrows
      have hge1:∀c∈M1++(M2++M3),c.ge k:=fun c hc=>by
        simp only [List.mem_append] at hc
        rcases hc with z | z | z
        · exact meet_ge (Nat.le_refl _) (by omega) hm c z
        · exact lrow_ge (Nat.le_refl _) _ _ _ _ _ hl1 (by omega) c z
        · exact lrow_ge (by omega) _ _ _ _ _ hl2 (by omega) c z
      have e3':rapps (M1++(M2++M3)) (rapps L0 e0)=m3:=by rw [rapps_app,rapps_app,meet_rapps hm,lrow_rapps _ _ _ _ _ hl1,lrow_rapps _ _ _ _ _ hl2]
      have hb3:Bare k m3:=e3'▸ge_bare _ _ hge1 j1
      have hr3:∀i,i<k→∀y,m3 i y=rapps L0 e0 i y:=by
        have:=ge_rows _ (rapps L0 e0) hge1
        rw [e3'] at this
        exact this
      have hb2:Bare k e2:=e2'▸ge_bare _ _ (fun c hc=>(hge4 c hc).mono (by omega)) hb3
      have hk3:∀y,m3 k y=m2 k y:=fun y=>lrow_rows _ _ _ _ _ hl2 k hkl y
      have hzt:∀t,k<t→t<st.length→m1 t k=0:=fun t h3 h4=>by
        rw [meet_rows hm t (by omega) (by omega)]
        exact hs.zl t h4 k (by rw [f5 t (by omega)];exact h3)
      have hkk:m2 k k=m1 k k:=lrow_col _ _ _ _ _ hl1 (by omega) (fun i h3 h4=>hzt i (by omega) (by omega))
      have hdv:=meet_dvd hkl hm
      refine ⟨hb2,fun i hi y=>by rw [hrows i (by omega),hr3 i hi,j2 i hi],?_⟩
      have hk2:e2 k k=m1 k k:=by rw [hrows k (by omega),hk3,hkk]
      refine ⟨by rw [hk2];exact Int.dvd_trans hdv.1 j3.1,fun hq y=>?_⟩
      rw [hk2] at hq
      have n0:e0 k k≠0:=h0.nz k hkr
      have q1:=Int.natAbs_dvd_natAbs.mpr hdv.1
      have q2:=Int.natAbs_dvd_natAbs.mpr j3.1
      have q3:(rapps L0 e0 k k).natAbs=(e0 k k).natAbs:=Nat.dvd_antisymm q2 (by rw [←hq];exact q1)
      have hrow0:=j3.2 q3
      have hd2:rapps L0 e0 k k∣rapps L0 e0 low k:=by
        refine Int.dvd_trans ?_ hdv.2
        exact Int.natAbs_dvd_natAbs.mp (by rw [q3,←hq];exact Nat.dvd_refl _)
      have hmk:=meet_keep hkl hm hd2
      have hm1z:∀y,y≠k→m1 k y=0:=fun y hy=>by
        rw [hmk y,hrow0 y]
        rcases Nat.lt_or_ge y k with z | z
        · exact (hb0 y z k (by omega)).2
        · rcases Nat.lt_or_ge y r with z2 | z2
          · exact h0.z k y z2 (by simp only [id];omega)
          · exact h0.col k y z2
      obtain ⟨_,hnil⟩:=lrow_nil _ _ _ _ _ hl1 (fun i h3 h4=>by rw [f5 i (by omega)];exact hm1z i (by omega))
      rw [hrows k (by omega),hk3,hnil,hmk y,hrow0 y]
  · -- up to place k: nothing is done
    have hm:st.length=low:=by
      have h1:low≤st.length:=by
        apply Classical.byContradiction
        intro hn
        have:=f3 st.length (by omega) (by omega)
        omega
      omega
    have t1':=take_to (k:=low) (by omega) (by omega) (fun i hi=>f5 i (by omega)) t1 (fun y hy=>(j1 y (by omega) low (by omega)).2) (by omega)
    have hstop:L1=[]∧top=low∧e1=rapps L0 e0:=by
      cases t1' with
      | stop=>exact ⟨rfl,rfl,rfl⟩
      | skip _ hlt=>omega
      | meet _ hlt=>omega
    obtain ⟨s1,s2,s3⟩:=hstop
    have he2':e2=rapps L0 e0:=by
      rcases t4 with z | z
      · rw [z.2.2.2,z.2.2.1,s2,hm,s3]
        have:liftL low low low=[]:=by simp [liftL,downs]
        rw [this];rfl
      · rw [z.2.2.2,s3]
    rw [he2']
    exact ⟨j1,j2,j3⟩
end E1
namespace E1
open Dt
def tipT (e:Tab):Tab:=fun x y=>e y x
structure Tri (e:Tab) (r D:Nat):Prop where
  low:LowE e id r
  rz:∀x y,r≤x→e x y=0
  le:∀x y,(e x y).natAbs≤D
  pr:(pr (fun i=>e i i) (List.range r)).natAbs≤D
structure Room (n w c N K cap:Nat) (P:Nat→Nat):Prop where
  fK:∀m m',m<n→m≤w→m'≤m+1→m'≤w→m*m+so m' m'≤K
  fcap:ups K c≤cap
  fP:∀low m m',low<n→m≤low→m≤w→m'≤m+1→m'≤w→m*(3*N+2*m)+(m+1)+so m' m'≤P low
theorem stairs_nil (e:Tab) (w:Nat):Stairs e [] w 0:=⟨by simp,fun i h=>absurd h (by simp),fun i j _ h=>absurd h (by simp),fun i h=>absurd h (by simp),fun i h=>absurd h (by simp),fun x _ h=>absurd h (by omega)⟩
theorem redd_nil (e:Tab):Redd e []:=fun i t _ h=>absurd h (by simp)
theorem build_low {e0:Tab} {s:Nat→Nat} {r n w c N K cap D:Nat} {P:Nat→Nat} {J:Nat→Tab→Prop} (h0:LowE e0 s r) (hsn:∀j,j<r→s j<n) (hrw:r≤w)
    (hrz:∀x y,n≤x→e0 x y=0) (hw:Wide e0 w) (hle:∀x y,(e0 x y).natAbs≤2^c) (hpr:(pr (fun j=>e0 (s j) j) (List.range r)).natAbs≤D) (hDc:D≤2^c) (hDN:D<4^N)
    (hroom:Room n w c N K cap P) (hJ0:J 0 e0)
    (hJ:∀low,low<n→∀(L0:List RC) (st:List Nat),(∀x∈L0,x.ok low)→Stairs (rapps L0 e0) st w low→Redd (rapps L0 e0) st→(∀x,low≤x→∀y,rapps L0 e0 x y=e0 x y) →
      J low (rapps L0 e0)→∀L st1 e3,Step cap w low st (rapps L0 e0) L st1 e3→J (low+1) e3) :
    ∃L st' e',Build cap w n 0 [] e0 L st' e'∧rapps L e0=e'∧(∀x∈L,x.ok n)∧L.length≤sumP P 0 n∧Tri (tipT e') r D∧J n e'∧(∀D',(pr (fun i=>e' i i) (List.range r)).natAbs≤D'→Tri (tipT e') r D'):=by
  have hk:Known e0 w n c N:=known_low h0 hle (Nat.le_trans hpr hDc) (Nat.lt_of_le_of_lt hpr hDN)
  obtain ⟨L,st,e',b1,b2,b3,b4,b5,b6,b7,b8⟩:=build_ex hw hk hroom.fK hroom.fcap hroom.fP hJ n 0 [] [] (by omega) (fun x hx=>absurd hx (by simp)) (stairs_nil _ _) (redd_nil _) (fun _ _ _=>rfl) hJ0
  rw [List.nil_append] at b2
  subst b2
  obtain ⟨r',f1,f2,f3,f4,f5,f6,f7⟩:=lowE_stairs h0 b5 b3
  have hr:r'=r:=by
    apply Classical.byContradiction
    intro hne
    have h1:=f3 r' (Nat.le_refl _) (by omega)
    have h2:=hsn r' (by omega)
    omega
  subst hr
  suffices key:∀D',(pr (fun i=>rapps L e0 i i) (List.range r')).natAbs≤D'→Tri (tipT (rapps L e0)) r' D' from ⟨L,st,_,b1,rfl,b5,b6,key D (Nat.le_trans f7 hpr),b8,key⟩
  intro D hprD
  have hcol:∀x y,r'≤y→rapps L e0 x y=0:=fun x y hy=>by
    rcases Nat.lt_or_ge x n with z | z
    · exact f6 x y z hy
    · rw [b7 x z];exact hrz x y z
  have hrow:∀x y,r'≤x→rapps L e0 x y=0:=fun x y hx=>by
    rcases Nat.lt_or_ge x n with z | z
    · exact b3.zr x (by omega) z y
    · rw [b7 x z];exact hrz x y z
  have hnz:∀i,i<r'→rapps L e0 i i≠0:=fun i hi=>by
    have:=b3.nz i (by omega)
    rw [f5 i hi] at this
    exact this
  have hup:∀i j,i<r'→j<i→rapps L e0 i j=0:=fun i j hi hj=>b3.zl i (by omega) j (by rw [f5 i hi];exact hj)
  have hpnz:pr (fun i=>rapps L e0 i i) (List.range r')≠0:=by
    intro hz
    obtain ⟨i,hi,h⟩:=pr_zero.mp hz
    exact hnz i (List.mem_range.mp hi) h
  have hpiv:∀i,i<r'→(rapps L e0 i i).natAbs≤D:=fun i hi=>Nat.le_trans (pr_part_le (d:=fun i=>rapps L e0 i i) hi hpnz) hprD
  refine ⟨⟨fun i j h _=>h,fun x j h1 h2=>?_,fun x j h1=>?_,fun j hj=>?_⟩,fun x y hx=>?_,fun x y=>?_,hprD⟩
  · -- above the diagonal of the tipped table
    show rapps L e0 j x=0
    exact hup j x h1 h2
  · show rapps L e0 j x=0
    exact hrow j x h1
  · show rapps L e0 j j≠0
    exact hnz j hj
  · show rapps L e0 y x=0
    exact hcol y x hx
  · show (rapps L e0 y x).natAbs≤D
    rcases Nat.lt_or_ge y r' with hy | hy
    · rcases Nat.lt_or_ge x r' with hx | hx
      · rcases Nat.lt_trichotomy x y with z | z | z
        · rw [hup y x hy z];simp
        · subst z;exact hpiv x hx
        · have h1:=b4 y x z (by omega)
          rw [f5 x hx] at h1
          have h2:=hpiv x hx
          omega
      · rw [hcol y x hx];simp
    · rw [hrow y x hy];simp
def Both (cap h w:Nat) (e:Tab) (L1 L2:List RC) (e':Tab):Prop :=
  ∃st1 e1 st2 e2,Build cap w h 0 [] e L1 st1 e1∧Build cap h w 0 [] (tipT e1) L2 st2 e2∧e'=tipT e2
def app2 (c:Bool×RC) (e:Tab):Tab:=if c.1 then c.2.app e else tipT (c.2.app (tipT e))
def apps2 (L:List (Bool×RC)) (e:Tab):Tab:=L.foldl (fun e c=>app2 c e) e
theorem apps2_app (L M:List (Bool×RC)) (e:Tab):apps2 (L++M) e=apps2 M (apps2 L e):=List.foldl_append
theorem apps2_row:∀(L:List RC) (e:Tab),apps2 (L.map (Prod.mk true)) e=rapps L e
  | [],_=>rfl
  | c::L,e=>by
    have:apps2 ((c::L).map (Prod.mk true)) e=apps2 (L.map (Prod.mk true)) (c.app e):=rfl
    rw [this,apps2_row L];rfl
theorem apps2_col:∀(L:List RC) (e:Tab),apps2 (L.map (Prod.mk false)) e=tipT (rapps L (tipT e))
  | [],_=>rfl
  | c::L,e=>by
    have:apps2 ((c::L).map (Prod.mk false)) e=apps2 (L.map (Prod.mk false)) (tipT (c.app (tipT e))):=rfl
    rw [this,apps2_col L];rfl
def ok2 (h w:Nat) (c:Bool×RC):Prop:=c.2.ok (if c.1 then h else w)
theorem both_apps {cap h w:Nat} {e e' e1 e2:Tab} {L1 L2:List RC} (h1:rapps L1 e=e1) (h2:rapps L2 (tipT e1)=e2) (h3:e'=tipT e2):apps2 (L1.map (Prod.mk true)++L2.map (Prod.mk false)) e=e':=by
  rw [apps2_app,apps2_row,apps2_col,h1,h2,h3]
theorem round_ex {e:Tab} {r h w c N K1 K2 cap D k:Nat} {P1 P2:Nat→Nat} (ht:Tri e r D) (hrh:r≤h) (hrw:r≤w) (hDc:D≤2^c) (hDN:D<4^N)
    (hr1:Room h w c N K1 cap P1) (hr2:Room w h c N K2 cap P2) (hk:k<r) (hb:Bare k e) :
    ∃L1 L2 e',Both cap h w e L1 L2 e'∧apps2 (L1.map (Prod.mk true)++L2.map (Prod.mk false)) e=e'∧(∀x∈L1,x.ok h)∧(∀x∈L2,x.ok w)∧L1.length+L2.length≤sumP P1 0 h+sumP P2 0 w ∧
      Tri e' r D∧(Bare (k+1) e'∨(Bare k e'∧2*(e' k k).natAbs≤(e k k).natAbs)):=by
  have hwide:∀{e:Tab} {w:Nat},Tri e r D→r≤w→Wide e w:=fun t hw x y hy=>t.low.col x y (by omega)
  obtain ⟨L1,st1,e1,a1,a2,a3,a4,a5,a6,_⟩:=build_low (J:=fun _ e'=>BJ k e e') ht.low (fun j hj=>by simp only [id];omega) hrw (fun x y hx=>ht.rz x y (by omega)) (hwide ht hrw) (fun x y=>Nat.le_trans (ht.le x y) hDc) ht.pr hDc hDN hr1
    ⟨hb,fun _ _ _=>rfl,Int.dvd_refl _,fun _ _=>rfl⟩
    (fun low _ L0 st q1 q2 q3 q4 q5 L st1 e3 q6=>bare_step ht.low hk hrw q1 q2 q5 q6 hb)
  have hb1:Bare k (tipT e1):=fun i hi j hj=>⟨(a6.1 i hi j hj).2,(a6.1 i hi j hj).1⟩
  obtain ⟨L2,st2,e2,c1,c2,c3,c4,c5,c6,_⟩:=build_low (J:=fun _ e'=>BJ k (tipT e1) e') a5.low (fun j hj=>by simp only [id];omega) hrh (fun x y hx=>a5.rz x y (by omega)) (hwide a5 hrh) (fun x y=>Nat.le_trans (a5.le x y) hDc) a5.pr hDc hDN hr2
    ⟨hb1,fun _ _ _=>rfl,Int.dvd_refl _,fun _ _=>rfl⟩
    (fun low _ L0 st q1 q2 q3 q4 q5 L st1 e3 q6=>bare_step a5.low hk hrh q1 q2 q5 q6 hb1)
  refine ⟨L1,L2,tipT e2,⟨st1,e1,st2,e2,a1,c1,rfl⟩,both_apps (cap:=cap) (h:=h) (w:=w) a2 c2 rfl,a3,c3,by omega,c5,?_⟩
  have d1:e1 k k∣e k k:=a6.2.2.1
  have d2:e2 k k∣e1 k k:=c6.2.2.1
  have hb2:Bare k (tipT e2):=fun i hi j hj=>⟨(c6.1 i hi j hj).2,(c6.1 i hi j hj).1⟩
  have hnz:e k k≠0:=ht.low.nz k hk
  by_cases hq:(e2 k k).natAbs=(e k k).natAbs
  · left
    have q1:=Int.natAbs_dvd_natAbs.mpr d1
    have q2:=Int.natAbs_dvd_natAbs.mpr d2
    have q3:(e1 k k).natAbs=(e k k).natAbs:=Nat.dvd_antisymm q1 (by rw [←hq];exact q2)
    have hrow1:=a6.2.2.2 q3
    have hrow2:=c6.2.2.2 (by show (e2 k k).natAbs=(e1 k k).natAbs;omega)
    have z0:∀y,y≠k→e k y=0:=fun y hy=>by
      rcases Nat.lt_or_ge y k with z | z
      · exact (hb y z k (by omega)).2
      · rcases Nat.lt_or_ge y r with z2 | z2
        · exact ht.low.z k y z2 (by simp only [id];omega)
        · exact ht.low.col k y z2
    have z1:∀y,y≠k→e1 y k=0:=fun y hy=>by
      rcases Nat.lt_or_ge y k with z | z
      · exact (a6.1 y z k (by omega)).1
      · rcases Nat.lt_or_ge y r with z2 | z2
        · have:=a5.low.z k y z2 (by simp only [id];omega)
          exact this
        · have:=a5.low.col k y z2
          exact this
    intro i hi j hj
    rcases Nat.lt_or_ge i k with z | z
    · exact hb2 i z j hj
    · have:i=k:=by omega
      subst this
      refine ⟨?_,?_⟩
      · -- e2 j k:above or below
        show e2 j i=0
        rcases Nat.lt_or_ge j i with z3 | z3
        · exact (c6.1 j z3 i (by omega)).1
        · rcases Nat.lt_or_ge j r with z2 | z2
          · exact c5.low.z i j z2 (by simp only [id];omega)
          · exact c5.low.col i j z2
      · show e2 i j=0
        rw [hrow2 j]
        exact z1 j hj
  · right
    refine ⟨hb2,?_⟩
    show 2*(e2 k k).natAbs≤(e k k).natAbs
    obtain ⟨q,hq2⟩:=Int.natAbs_dvd_natAbs.mpr (Int.dvd_trans d2 d1)
    rcases q with _ | _ | q
    · simp at hq2;omega
    · omega
    · rw [hq2]
      have:(e2 k k).natAbs*2≤(e2 k k).natAbs*(q+1+1):=Nat.mul_le_mul_left _ (by omega)
      omega
def beside (h w:Nat) (e:Tab):Prop:=∃x y,x<h∧y<w∧y≠x∧e x y≠0
inductive Rounds (cap h w:Nat):Tab→List (Bool×RC)→Tab→Prop
  | stop {e:Tab}:¬ beside h w e→Rounds cap h w e [] e
  | turn {e e1 e':Tab} {L1 L2:List RC} {L:List (Bool×RC)}:beside h w e→Both cap h w e L1 L2 e1→Rounds cap h w e1 L e'→Rounds cap h w e ((L1.map (Prod.mk true)++L2.map (Prod.mk false))++L) e'
theorem rounds_ex {r h w c N K1 K2 cap D b:Nat} {P1 P2:Nat→Nat} (hrh:r≤h) (hrw:r≤w) (hDc:D≤2^c) (hDN:D<4^N) (hDb:D<2^b)
    (hr1:Room h w c N K1 cap P1) (hr2:Room w h c N K2 cap P2):∀(u k v:Nat) (e:Tab),Tri e r D→k≤r→Bare k e→(e k k).natAbs<2^v→v+(r - (k+1))*b≤u →
    ∃L e',Rounds cap h w e L e'∧¬ beside h w e'∧apps2 L e=e'∧(∀x∈L,ok2 h w x)∧L.length≤u*(sumP P1 0 h+sumP P2 0 w)∧Tri e' r D:=by
  intro u
  induction u with
  | zero =>
    intro k v e ht hkr hb hv hu
    by_cases hbs:beside h w e
    · -- k is not the last place: then v is not nought
      rcases Nat.lt_or_ge k r with z | z
      · have:=ht.low.nz k z
        simp only [id] at this
        have hv0:v=0:=by omega
        subst hv0
        simp at hv;omega
      · obtain ⟨x,y,_,_,hne,hxy⟩:=hbs
        rcases Nat.lt_or_ge x k with q | q
        · exact absurd (hb x q y hne).1 hxy
        · exact absurd (ht.rz x y (by omega)) hxy
    · exact ⟨[],e,.stop hbs,hbs,rfl,by simp,by simp,ht⟩
  | succ u ih =>
    intro k v e ht hkr hb hv hu
    by_cases hbs:beside h w e
    · rcases Nat.lt_or_ge k r with z | z
      · obtain ⟨L1,L2,e1,a1,a2,a3,a4,a5,a6,a7⟩:=round_ex ht hrh hrw hDc hDN hr1 hr2 z hb
        have hv0:v≠0:=fun hv0=>by
          have:=ht.low.nz k z
          simp only [id] at this
          subst hv0
          simp at hv;omega
        have hnext:∃L e',Rounds cap h w e1 L e'∧¬ beside h w e'∧apps2 L e1=e'∧(∀x∈L,ok2 h w x)∧L.length≤u*(sumP P1 0 h+sumP P2 0 w)∧Tri e' r D:=by
          rcases a7 with a7 | a7
          · rcases Nat.lt_or_ge (k+1) r with z2 | z2
            · refine ih (k+1) b e1 a6 (by omega) a7 (Nat.lt_of_le_of_lt (a6.le _ _) hDb) ?_
              have e1:r - (k+1)=(r - (k+1+1))+1:=by omega
              rw [e1,Nat.succ_mul] at hu
              omega
            · have hk1:k+1=r:=by omega
              refine ih (k+1) 0 e1 a6 (by omega) a7 (by rw [a6.rz (k+1) (k+1) (by omega)];simp) ?_
              have:r - (k+1+1)=0:=by omega
              rw [this];omega
          · refine ih k (v - 1) e1 a6 hkr a7.1 ?_ (by omega)
            obtain ⟨v',rfl⟩:∃v',v=v'+1:=⟨v - 1,by omega⟩
            rw [Nat.pow_succ] at hv
            have:=a7.2
            simp only [Nat.add_sub_cancel]
            omega
        obtain ⟨L,e',n1,n2,n3,n4,n5,n6⟩:=hnext
        refine ⟨_,e',.turn hbs a1 n1,n2,by rw [apps2_app,a2,n3],?_,?_,n6⟩
        · intro x hx
          simp only [List.mem_append,List.mem_map] at hx
          rcases hx with (⟨c,hc,rfl⟩ | ⟨c,hc,rfl⟩) | hx
          · exact a3 c hc
          · exact a4 c hc
          · exact n4 x hx
        · simp only [List.length_append,List.length_map]
          have:(u+1)*(sumP P1 0 h+sumP P2 0 w)=u*(sumP P1 0 h+sumP P2 0 w)+(sumP P1 0 h+sumP P2 0 w):=Nat.succ_mul _ _
          omega
      · obtain ⟨x,y,_,_,hne,hxy⟩:=hbs
        rcases Nat.lt_or_ge x k with q | q
        · exact absurd (hb x q y hne).1 hxy
        · exact absurd (ht.rz x y (by omega)) hxy
    · exact ⟨[],e,.stop hbs,hbs,rfl,by simp,by simp,ht⟩
theorem first_ex {e:Tab} {h w c1 N1 K1 c2 N2 K2 cap B D:Nat} {P1 P2:Nat→Nat} (hw:Wide e w) (hh:∀x y,h≤x→e x y=0) (hB:∀x y,(e x y).natAbs≤B) (hB1:B≤2^c1)
    (hB2:∀m,m≤h→m≤w→m*(fac m*B^m)≤2^c1) (hN1:2^c1<4^N1) (hD:∀m,m≤h→m≤w→fac m*B^m≤D) (hDc:D≤2^c2) (hc:c1≤c2) (hDN:D<4^N2)
    (hr1:Room h w c1 N1 K1 cap P1) (hr2:Room w h c2 N2 K2 cap P2) :
    ∃L1 L2 e' r,Both cap h w e L1 L2 e'∧apps2 (L1.map (Prod.mk true)++L2.map (Prod.mk false)) e=e'∧(∀x∈L1,x.ok h)∧(∀x∈L2,x.ok w)∧L1.length+L2.length≤sumP P1 0 h+sumP P2 0 w ∧
      r≤h∧r≤w∧Tri e' r D∧(∀D',(pr (fun i=>e' i i) (List.range r)).natAbs≤D'→Tri e' r D'):=by
  have hk:Known e w h c1 N1:=known_any hB hB1 hB2 hN1
  obtain ⟨L1,st,e1,b1,b2,b3,b4,b5,b6,b7,_⟩:=build_ex (J:=fun _ _=>True) hw hk hr1.fK hr1.fcap hr1.fP (fun _ _ _ _ _ _ _ _ _ _ _ _ _=>trivial) h 0 [] [] (by omega) (fun x hx=>absurd hx (by simp)) (stairs_nil _ _) (redd_nil _) (fun _ _ _=>rfl) trivial
  rw [List.nil_append] at b2
  have hw1:Wide e1 w:=b2▸wide_app hw L1
  have hrz:∀x y,st.length≤x→e1 x y=0:=fun x y hx=>by
    rcases Nat.lt_or_ge x h with z | z
    · exact b3.zr x hx z y
    · rw [b7 x z];exact hh x y z
  have hlow:LowE (tipT e1) (sat st) st.length:=⟨b3.mono,fun x j h1 h2=>b3.zl j h1 x h2,fun x j h1=>hrz j x h1,fun j hj=>b3.nz j hj⟩
  have hprod:(pr (fun j=>tipT e1 (sat st j) j) (List.range st.length)).natAbs≤D:=by
    have hd:=peel_steps (e:=cut h e1) (s:=sat st) (k:=0) (m:=st.length) [] st.length 0 (by omega) (fun i j h1 h2=>by
      unfold cut;split
      · exact b3.zl j h2 _ (b3.mono i j h1 h2)
      · rfl)
    simp only [List.append_nil,Nat.add_zero,Nat.zero_add,List.range'_zero,det,Int.mul_one] at hd
    have hcl:∀l:List Nat,(∀x∈l,x<h)→pr (fun i=>cut h e1 i (sat st i)) l=pr (fun j=>tipT e1 (sat st j) j) l:=by
      intro l
      induction l with
      | nil=>intro _;rfl
      | cons a l ih=>intro hl;simp only [pr];rw [ih (fun x hx=>hl x (List.mem_cons_of_mem _ hx))];simp [cut,tipT,hl a (List.mem_cons_self ..)]
    have hlen:=b3.len
    rw [hcl _ (fun x hx=>by have:=List.mem_range'_1.mp hx;omega)] at hd
    have hg:∀I:List Nat,I.length=st.length→det (cut h e1) (List.range' 0 st.length) ((List.range' 0 st.length).map (sat st))∣det (cut h e1) I ((List.range' 0 st.length).map (sat st)):=by
      intro I hI
      by_cases h1:I.Nodup
      · by_cases h2:∀x∈I,x<st.length
        · obtain ⟨s,_,hp⟩:=row_perm (e:=cut h e1) (perm_range st.length h1 h2 hI).symm
          rw [hp,List.range_eq_range'];exact Int.dvd_mul_left _ _
        · have:∃x∈I,st.length≤x:=by
            apply Classical.byContradiction
            intro hc'
            exact h2 (fun x hx=>by
              apply Classical.byContradiction
              intro hlt
              exact hc' ⟨x,hx,by omega⟩)
          obtain ⟨x,hx,hxr⟩:=this
          rw [det_row_zero hx (fun c _=>by
            unfold cut;split
            · exact hrz x c hxr
            · rfl)]
          exact Int.dvd_zero _
      · rw [row_dup h1];exact Int.dvd_zero _
    rw [←b2] at hg
    have hg0:=(go_rows L1 e b5).mpr hg
    rw [b2] at hg0
    by_cases hz:∀I:List Nat,I.length=st.length→det (cut h e) I ((List.range' 0 st.length).map (sat st))=0
    · have:=(go_rows (g:=0) (J:=(List.range' 0 st.length).map (sat st)) (k:=st.length) L1 e b5).mp (fun I hI=>by rw [hz I hI];exact Int.dvd_refl _) (List.range' 0 st.length) (by simp)
      rw [b2,hd] at this
      rw [List.range_eq_range',Int.zero_dvd.mp this];simp
    · have:∃I:List Nat,I.length=st.length∧det (cut h e) I ((List.range' 0 st.length).map (sat st))≠0:=by
        apply Classical.byContradiction
        intro hc'
        exact hz (fun I hI=>by
          apply Classical.byContradiction
          intro hne
          exact hc' ⟨I,hI,hne⟩)
      obtain ⟨I,hI,hne⟩:=this
      have h1:=Nat.le_of_dvd (by omega) (Int.natAbs_dvd_natAbs.mpr (hg0 I hI))
      have h2:=det_le (e:=cut h e) (B:=B) I (fun r _ c=>by
        unfold cut;split
        · exact hB r c
        · simp) ((List.range' 0 st.length).map (sat st)) (by simp;omega)
      rw [hI] at h2
      rw [hd] at h1
      rw [List.range_eq_range']
      exact Nat.le_trans h1 (Nat.le_trans h2 (hD _ b3.len b3.len_w))
  have hle1:∀x y,(tipT e1 x y).natAbs≤2^c2:=fun x y=>by
    show (e1 y x).natAbs≤2^c2
    rcases Nat.lt_or_ge y h with z | z
    · have:=hk.bd h (Nat.le_refl _) L1 st b5 (by rw [b2];exact b3) (by rw [b2];exact b4) y z x
      rw [b2] at this
      exact Nat.le_trans this (Nat.pow_le_pow_right (by decide) hc)
    · rw [b7 y z,hh y x z];simp
  obtain ⟨L2,st2,e2,c1,c2,c3,c4,c5,_,c6⟩:=build_low (J:=fun _ _=>True) hlow (fun j hj=>b3.lt j hj) b3.len (fun x y hx=>hw1 y x hx) (fun x y hy=>hrz y x (by have:=b3.len;omega)) hle1 hprod hDc hDN hr2 trivial (fun _ _ _ _ _ _ _ _ _ _ _ _ _=>trivial)
  exact ⟨L1,L2,tipT e2,st.length,⟨st,e1,st2,e2,b1,c1,rfl⟩,both_apps (cap:=cap) (h:=h) (w:=w) b2 c2 rfl,b5,c3,by omega,b3.len,b3.len_w,c5,c6⟩
end E1
namespace E1
open Dt
structure Dg (e:Tab) (r D:Nat):Prop where
  off:∀x y,x≠y→e x y=0
  nz:∀i,i<r→e i i≠0
  z:∀i,r≤i→e i i=0
  pr:(pr (fun i=>e i i) (List.range r)).natAbs≤D
theorem dg_of_tri {e:Tab} {r D h w:Nat} (ht:Tri e r D) (hrh:r≤h) (hrw:r≤w) (hb:¬ beside h w e):Dg e r D:=by
  refine ⟨fun x y hxy=>?_,fun i hi=>ht.low.nz i hi,fun i hi=>ht.rz i i hi,ht.pr⟩
  apply Classical.byContradiction
  intro hne
  rcases Nat.lt_or_ge x r with z | z
  · rcases Nat.lt_or_ge y r with z2 | z2
    · exact hb ⟨x,y,by omega,by omega,Ne.symm hxy,hne⟩
    · exact hne (ht.low.col x y z2)
  · exact hne (ht.rz x y z)
theorem pr_congr {d d':Nat→Int} {l:List Nat} (h:∀i∈l,d i=d' i):pr d l=pr d' l:=by
  induction l with
  | nil=>rfl
  | cons a l ih=>simp only [pr];rw [h a (List.mem_cons_self ..),ih (fun i hi=>h i (List.mem_cons_of_mem _ hi))]
theorem Dg.one {e:Tab} {r D:Nat} (h:Dg e r D) (hD:0<D) (x y:Nat):(e x y).natAbs≤D:=by
  by_cases hxy:x=y
  · subst hxy
    rcases Nat.lt_or_ge x r with z | z
    · refine Nat.le_trans (pr_part_le (d:=fun i=>e i i) z ?_) h.pr
      intro hz
      obtain ⟨i,hi,h0⟩:=pr_zero.mp hz
      exact h.nz i (List.mem_range.mp hi) h0
    · rw [h.z x z];simp
  · rw [h.off x y hxy];simp
theorem Dg.pos {e:Tab} {r D:Nat} (h:Dg e r D):0<D:=by
  have:Dt.pr (fun i=>e i i) (List.range r)≠0:=by
    intro hz
    obtain ⟨i,hi,h0⟩:=pr_zero.mp hz
    exact h.nz i (List.mem_range.mp hi) h0
  have:=h.pr
  omega
def LinkR (cap one two:Nat) (e:Tab) (L:List (Bool×RC)) (e':Tab):Prop :=
  Le cap e∧Le cap (addR e one two 1)∧∃L2 e2,MeetR cap one two one (tipT (addR e one two 1)) L2 e2∧Le cap e2∧e2 one one≠0∧e'=less (tipT e2) two one one∧Le cap e' ∧
    L=(true,.add one two 1)::(L2.map (Prod.mk false)++(lch two one (lq (tipT e2) two one one)).map (Prod.mk true))
theorem link_ex {e:Tab} {r D cap c N one two h w:Nat} (hd:Dg e r D) (h12:one<two) (h2r:two<r) (hDc:D≤2^c) (hDN:D<4^N) (hcap:ups 2 c≤cap) (hh:r≤h) (hw:r≤w) :
    ∃L e',LinkR cap one two e L e'∧apps2 L e=e'∧(∀x∈L,ok2 h w x)∧L.length≤3*N+2∧Dg e' r D∧(∀i,i≠one→i≠two→e' i i=e i i) ∧
      e' one one∣e one one∧e' one one∣e two two∧e one one∣e' two two∧(∀m,m∣e one one→m∣e two two→m∣e' one one):=by
  have hpos:=hd.pos
  have hone:=hd.one hpos
  have hle:Le c e:=fun x y=>Nat.le_trans (hone x y) hDc
  have ne12:one≠two:=by omega
  have v1:∀x y,addR e one two 1 x y=if x=one then (if y=one then e one one else if y=two then e two two else 0) else e x y:=by
    intro x y
    unfold addR
    split
    · by_cases hy:y=one
      · subst hy;rw [if_pos rfl,hd.off two y (by omega)];simp
      · rw [if_neg hy,hd.off one y (Ne.symm hy)]
        by_cases hy2:y=two
        · subst hy2;rw [if_pos rfl];simp
        · rw [if_neg hy2,hd.off two y (Ne.symm hy2)];simp
    · rfl
  have hle1:Le c (addR e one two 1):=fun x y=>by
    rw [v1]
    split
    · split
      · exact hle _ _
      · split
        · exact hle _ _
        · simp
    · exact hle _ _
  have hle1':Le c (tipT (addR e one two 1)):=fun x y=>hle1 y x
  have x0:tipT (addR e one two 1) one one=e one one:=by show addR e one two 1 one one=_;rw [v1,if_pos rfl,if_pos rfl]
  have y0:tipT (addR e one two 1) two one=e two two:=by show addR e one two 1 one two=_;rw [v1,if_pos rfl,if_neg (by omega),if_pos rfl]
  have hcap1:2*c+3≤cap:=Nat.le_trans (ups_ge 1 (2*c+3)) hcap
  obtain ⟨L2,e2,s,t,s',t',m1,m2,m3,m4,m5,m6⟩:=meet_ex (cap:=cap) (n:=N) ne12 hle1' hcap1 (by rw [x0];exact hd.nz one (by omega)) (by rw [x0];exact Nat.lt_of_le_of_lt (hone _ _) hDN)
  have r1:∀y,y≠one→tipT (addR e one two 1) one y=0:=fun y hy=>by
    show addR e one two 1 y one=0
    rw [v1,if_neg hy];exact hd.off y one hy
  have r2:∀y,y≠one→y≠two→tipT (addR e one two 1) two y=0:=fun y hy hy2=>by
    show addR e one two 1 y two=0
    rw [v1,if_neg hy];exact hd.off y two hy2
  have r22:tipT (addR e one two 1) two two=e two two:=by
    show addR e one two 1 two two=_
    rw [v1,if_neg (by omega)]
  have g11:e2 one one=s*e one one+t*e two two:=by rw [m2.sums.t,x0,y0]
  have g12:e2 one two=t*e two two:=by rw [m2.sums.t,r1 two (by omega),r22];simp
  have g1o:∀y,y≠one→y≠two→e2 one y=0:=fun y h1 h2=>by rw [m2.sums.t,r1 y h1,r2 y h1 h2];simp
  have g21:e2 two one=0:=m2.zero
  have g22:e2 two two=t'*e two two:=by rw [m2.sums.l,r1 two (by omega),r22];simp
  have g2o:∀y,y≠one→y≠two→e2 two y=0:=fun y h1 h2=>by rw [m2.sums.l,r1 y h1,r2 y h1 h2];simp
  have go:∀x,x≠one→x≠two→∀y,e2 x y=e y x:=fun x h1 h2 y=>by
    rw [m2.sums.o x h1 h2]
    show addR e one two 1 y x=_
    rw [v1]
    by_cases hy:y=one
    · rw [if_pos hy,if_neg h1,if_neg h2,hy];exact (hd.off one x (Ne.symm h1)).symm
    · rw [if_neg hy]
  obtain ⟨g,hg,ga,gb⟩:=m2.ends
  rw [x0] at ga
  rw [y0] at gb
  have da:e2 one one∣e one one:=by rw [ga];exact Int.dvd_mul_left _ _
  have db:e2 one one∣e two two:=by rw [gb];exact Int.dvd_neg.mpr (Int.dvd_mul_left _ _)
  have hq:tipT e2 two one+lq (tipT e2) two one one*tipT e2 one one=0:=quo_exact m2.nz (by show e2 one one∣e2 one two;rw [g12];exact Int.dvd_mul_of_dvd_right db)
  have f:∀x y,less (tipT e2) two one one x y=if x=two then (if y=one then 0 else e2 y two) else e2 y x:=by
    intro x y
    by_cases hx:x=two
    · subst hx
      rw [if_pos rfl,less_row]
      by_cases hy:y=one
      · subst hy;rw [if_pos rfl];exact hq
      · rw [if_neg hy]
        have:tipT e2 one y=0:=by
          show e2 y one=0
          by_cases hy2:y=x
          · subst hy2;exact g21
          · rw [go y hy hy2];exact hd.off one y (Ne.symm hy)
        rw [this]
        show e2 y x+_*0=e2 y x
        simp
    · rw [if_neg hx,less_other hx];rfl
  have hle2:Le (2*c+3) (tipT e2):=fun x y=>m3 y x
  have hle3:Le (ups 2 c) (less (tipT e2) two one one):=less_le hle2 m2.nz
  have n1:less (tipT e2) two one one one one=e2 one one:=by rw [f,if_neg ne12]
  have n2:less (tipT e2) two one one two two=e2 two two:=by rw [f,if_pos rfl,if_neg (by omega)]
  have no:∀i,i≠one→i≠two→less (tipT e2) two one one i i=e i i:=fun i h1 h2=>by rw [f,if_neg h2,go i h1 h2]
  have ht'nz:t'≠0:=by
    intro h0
    rw [h0] at ga
    exact hd.nz one (by omega) (by rw [ga];simp)
  have hb0:=hd.nz two h2r
  refine ⟨_,_,⟨hle.mono (by have:=ups_ge 2 c;omega),hle1.mono (by have:=ups_ge 2 c;omega),L2,e2,m1,m3.mono hcap1,m2.nz,rfl,hle3.mono hcap,rfl⟩,?_,?_,?_,?_,no,?_,?_,?_,?_⟩
  · have:∀(c:Bool×RC) (L:List (Bool×RC)) (e:Tab),apps2 (c::L) e=apps2 L (app2 c e):=fun _ _ _=>rfl
    rw [this,apps2_app,apps2_col,apps2_row,lch_app]
    have:app2 (true,.add one two 1) e=addR e one two 1:=rfl
    rw [this,m4];rfl
  · intro x hx
    simp only [List.mem_cons,List.mem_append,List.mem_map] at hx
    rcases hx with rfl | ⟨c,hc,rfl⟩ | ⟨c,hc,rfl⟩
    · exact ⟨show one<h by omega,show two<h by omega,ne12⟩
    · exact m6 w (by omega) (by omega) c hc
    · exact lch_ok (show two<h by omega) (show one<h by omega) (Ne.symm ne12) c hc
  · simp only [List.length_cons,List.length_append,List.length_map]
    have:=lch_len two one (lq (tipT e2) two one one)
    omega
  · refine ⟨fun x y hxy=>?_,fun i hi=>?_,fun i hi=>?_,?_⟩
    · rw [f]
      by_cases hx:x=two
      · rw [if_pos hx]
        by_cases hy:y=one
        · rw [if_pos hy]
        · rw [if_neg hy,go y hy (by omega)];exact hd.off two y (by omega)
      · rw [if_neg hx]
        by_cases hy:y=one
        · rw [hy];exact g1o x (by omega) hx
        · by_cases hy2:y=two
          · rw [hy2]
            by_cases hx1:x=one
            · rw [hx1];exact g21
            · exact g2o x hx1 hx
          · rw [go y hy hy2];exact hd.off x y hxy
    · by_cases h1:i=one
      · rw [h1,n1];exact m2.nz
      · by_cases h2:i=two
        · rw [h2,n2,g22];exact Int.mul_ne_zero ht'nz hb0
        · rw [no i h1 h2];exact hd.nz i hi
    · rw [no i (by omega) (by omega)];exact hd.z i hi
    · have hm1:one∈List.range r:=List.mem_range.mpr (by omega)
      have p1:=List.perm_cons_erase hm1
      have hm2:two∈(List.range r).erase one:=(List.mem_erase_of_ne (Ne.symm ne12)).mpr (List.mem_range.mpr h2r)
      have p2:=List.perm_cons_erase hm2
      have hnd:(List.range r).Nodup:=List.nodup_range
      have hnd1:=hnd.erase one
      have hrest:∀i∈((List.range r).erase one).erase two,i≠one∧i≠two:=fun i hi=>by
        refine ⟨fun he=>?_,fun he=>?_⟩
        · subst he;exact hnd.not_mem_erase (List.mem_of_mem_erase hi)
        · subst he;exact hnd1.not_mem_erase hi
      have q:=hd.pr
      rw [pr_perm p1] at q ⊢
      simp only [pr] at q ⊢
      rw [pr_perm p2] at q ⊢
      simp only [pr] at q ⊢
      rw [pr_congr (d':=fun i=>e i i) (fun i hi=>no i (hrest i hi).1 (hrest i hi).2),n1,n2,g22]
      rw [←Int.mul_assoc,Int.natAbs_mul] at q ⊢
      have:(e2 one one*(t'*e two two)).natAbs=(e one one*e two two).natAbs:=by
        rw [ga]
        simp only [Int.natAbs_mul]
        have:g.natAbs=1:=by rcases hg with h | h <;> rw [h] <;> rfl
        rw [this]
        grind
      rw [this];exact q
  · rw [n1];exact da
  · rw [n1];exact db
  · rw [n2,g22]
    have hbb:=gb
    rw [hbb]
    have:t'*-(g*s'*e2 one one)=(g*t'*e2 one one)*-(s'):=by
      rcases hg with h | h <;> rw [h] <;> grind
    rw [this,←ga]
    exact Int.dvd_mul_right _ _
  · intro m h1 h2
    rw [n1,g11]
    exact Int.dvd_add (Int.dvd_mul_of_dvd_right h1) (Int.dvd_mul_of_dvd_right h2)
def ChainI (cap one:Nat):Nat→Nat→Tab→List (Bool×RC)→Tab→Prop
  | 0,_,e,L,e'=>Le cap e∧L=[]∧e'=e
  | k+1,two,e,L,e'=>Le cap e∧(e two two≠0→e one one≠0) ∧
      ((e two two≠0∧¬ e one one∣e two two∧∃L1 e1 L2,LinkR cap one two e L1 e1∧ChainI cap one k (two+1) e1 L2 e'∧L=L1++L2) ∨
       (¬ (e two two≠0∧¬ e one one∣e two two)∧ChainI cap one k (two+1) e L e'))
def ChainO (cap len:Nat):Nat→Nat→Tab→List (Bool×RC)→Tab→Prop
  | 0,_,e,L,e'=>Le cap e∧L=[]∧e'=e
  | k+1,one,e,L,e'=>∃L1 e1 L2,ChainI cap one (len - (one+1)) (one+1) e L1 e1∧ChainO cap len k (one+1) e1 L2 e'∧L=L1++L2
section
variable {r D cap c N h w len:Nat} (hDc:D≤2^c) (hDN:D<4^N) (hcap:ups 2 c≤cap) (hh:r≤h) (hw:r≤w)
include hDc hDN hcap hh hw
theorem chainI_ex {one:Nat}:∀(k two:Nat) (e:Tab),one<two→Dg e r D→(∀j,one<j→j<two→e one one∣e j j)→(∀i j,i<one→i<j→e i i∣e j j) →
    ∃L e',ChainI cap one k two e L e'∧apps2 L e=e'∧(∀x∈L,ok2 h w x)∧L.length≤k*(3*N+2)∧Dg e' r D∧(∀j,one<j→j<two+k→e' one one∣e' j j)∧(∀i j,i<one→i<j→e' i i∣e' j j)
  | 0,two,e,h12,hd,h1,h2=>⟨[],e,⟨fun x y=>Nat.le_trans (Nat.le_trans (hd.one hd.pos x y) hDc) (Nat.pow_le_pow_right (by decide) (Nat.le_trans (ups_ge 2 c) hcap)),rfl,rfl⟩,rfl,by simp,by simp,hd,h1,h2⟩
  | k+1,two,e,h12,hd,h1,h2=>by
    have hle:Le cap e:=fun x y=>Nat.le_trans (Nat.le_trans (hd.one hd.pos x y) hDc) (Nat.pow_le_pow_right (by decide) (Nat.le_trans (ups_ge 2 c) hcap))
    have hlt:e two two≠0→two<r:=fun hne=>by
      apply Classical.byContradiction
      intro hn
      exact hne (hd.z two (by omega))
    have hnz:e two two≠0→e one one≠0:=fun hne=>hd.nz one (by have:=hlt hne;omega)
    have elen:(k+1)*(3*N+2)=k*(3*N+2)+(3*N+2):=Nat.succ_mul _ _
    by_cases hc:e two two≠0∧¬ e one one∣e two two
    · obtain ⟨L1,e1,a1,a2,a3,a4,a5,a6,a7,a8,a9,a10⟩:=link_ex (h:=h) (w:=w) hd h12 (hlt hc.1) hDc hDN hcap hh hw
      have a9':e1 one one∣e1 two two:=Int.dvd_trans a7 a9
      obtain ⟨L2,e',b1,b2,b3,b4,b5,b6,b7⟩:=chainI_ex (one:=one) k (two+1) e1 (by omega) a5 (fun j hj1 hj2=>by
          by_cases hj:j=two
          · subst hj;exact a9'
          · rw [a6 j (by omega) hj];exact Int.dvd_trans a7 (h1 j hj1 (by omega)))
        (fun i j hi hij=>by
          rw [a6 i (by omega) (by omega)]
          by_cases hj1:j=one
          · subst hj1;exact a10 _ (h2 i j hi hij) (h2 i two hi (by omega))
          · by_cases hj2:j=two
            · subst hj2;exact Int.dvd_trans (h2 i one hi (by omega)) a9
            · rw [a6 j hj1 hj2];exact h2 i j hi hij)
      refine ⟨L1++L2,e',⟨hle,hnz,Or.inl ⟨hc.1,hc.2,L1,e1,L2,a1,b1,rfl⟩⟩,by rw [apps2_app,a2,b2],?_,?_,b5,fun j q1 q2=>b6 j q1 (by omega),b7⟩
      · intro x hx
        rcases List.mem_append.mp hx with z | z
        · exact a3 x z
        · exact b3 x z
      · rw [List.length_append];omega
    · obtain ⟨L2, e', b1, b2, b3, b4, b5, b6, b7⟩ := chainI_ex (one := one) k (two + 1) e (by omega) hd (fun j hj1 hj2 => by
          by_cases hj:j=two
          · subst hj
            by_cases hz:e j j=0
            · rw [hz];exact Int.dvd_zero _
            · apply Classical.byContradiction
              intro hn
              exact hc ⟨hz,hn⟩
          · exact h1 j hj1 (by omega)) h2
      exact ⟨L2,e',⟨hle,hnz,Or.inr ⟨hc,b1⟩⟩,b2,b3,by omega,b5,fun j q1 q2=>b6 j q1 (by omega),b7⟩
theorem chainO_ex (hrl:r≤len):∀(k one:Nat) (e:Tab),one+k=len→Dg e r D→(∀i j,i<one→i<j→e i i∣e j j) →
    ∃L e',ChainO cap len k one e L e'∧apps2 L e=e'∧(∀x∈L,ok2 h w x)∧L.length≤k*(len*(3*N+2))∧Dg e' r D∧(∀i j,i<len→i<j→e' i i∣e' j j)
  | 0,one,e,hk,hd,h2=>⟨[],e,⟨fun x y=>Nat.le_trans (Nat.le_trans (hd.one hd.pos x y) hDc) (Nat.pow_le_pow_right (by decide) (Nat.le_trans (ups_ge 2 c) hcap)),rfl,rfl⟩,rfl,by simp,by simp,hd,fun i j hi hij=>h2 i j (by omega) hij⟩
  | k+1,one,e,hk,hd,h2=>by
    obtain ⟨L1,e1,a1,a2,a3,a4,a5,a6,a7⟩:=chainI_ex (one:=one) hDc hDN hcap hh hw (len - (one+1)) (one+1) e (by omega) hd (fun j q1 q2=>absurd q1 (by omega)) h2
    obtain ⟨L2,e',b1,b2,b3,b4,b5,b6⟩:=chainO_ex hrl k (one+1) e1 (by omega) a5 (fun i j hi hij=>by
      by_cases h:i=one
      · subst h
        rcases Nat.lt_or_ge j len with z | z
        · exact a6 j hij (by omega)
        · rw [a5.z j (by omega)];exact Int.dvd_zero _
      · exact a7 i j (by omega) hij)
    refine ⟨L1++L2,e',⟨L1,e1,L2,a1,b1,rfl⟩,by rw [apps2_app,a2,b2],?_,?_,b5,b6⟩
    · intro x hx
      rcases List.mem_append.mp hx with z | z
      · exact a3 x z
      · exact b3 x z
    · rw [List.length_append]
      have:(k+1)*(len*(3*N+2))=k*(len*(3*N+2))+len*(3*N+2):=Nat.succ_mul _ _
      have:(len - (one+1))*(3*N+2)≤len*(3*N+2):=Nat.mul_le_mul_right _ (by omega)
      omega
end
def Turns (cap:Nat):Nat→Nat→Tab→List (Bool×RC)→Tab→Prop
  | 0,_,e,L,e'=>Le cap e∧L=[]∧e'=e
  | k+1,p,e,L,e'=>Le cap e∧((e p p<0∧∃L2,Turns cap k (p+1) (turnR e p) L2 e'∧L=(true,.turn p)::L2)∨(¬ e p p<0∧Turns cap k (p+1) e L e'))
theorem turns_ex {r D cap c h w:Nat} (hDc:D≤2^c) (hcap:c≤cap):∀(k p:Nat) (e:Tab),p+k≤h→Dg e r D→(∀i,i<p→0≤e i i) →
    ∃L e',Turns cap k p e L e'∧apps2 L e=e'∧(∀x∈L,ok2 h w x)∧L.length≤k∧Dg e' r D∧(∀i,i<p+k→0≤e' i i)∧(∀i,(e' i i).natAbs=(e i i).natAbs)
  | 0,p,e,hp,hd,h0=>⟨[],e,⟨fun x y=>Nat.le_trans (Nat.le_trans (hd.one hd.pos x y) hDc) (Nat.pow_le_pow_right (by decide) hcap),rfl,rfl⟩,rfl,by simp,by simp,hd,h0,fun _=>rfl⟩
  | k+1,p,e,hp,hd,h0=>by
    have hle:Le cap e:=fun x y=>Nat.le_trans (Nat.le_trans (hd.one hd.pos x y) hDc) (Nat.pow_le_pow_right (by decide) hcap)
    by_cases hn:e p p<0
    · have hv:∀i,turnR e p i i=if i=p then -(e p p) else e i i:=fun i=>by
        unfold turnR;split
        · rename_i h;rw [h]
        · rfl
      have hd1:Dg (turnR e p) r D:=by
        refine ⟨fun x y hxy=>?_,fun i hi=>?_,fun i hi=>?_,?_⟩
        · unfold turnR;split
          · rename_i h;rw [←h,hd.off x y hxy];rfl
          · exact hd.off x y hxy
        · rw [hv];split
          · omega
          · exact hd.nz i hi
        · rw [hv];split
          · rename_i h;rw [←h,hd.z i hi];rfl
          · exact hd.z i hi
        · have:∀l:List Nat,(pr (fun i=>turnR e p i i) l).natAbs=(pr (fun i=>e i i) l).natAbs:=by
            intro l
            induction l with
            | nil=>rfl
            | cons a l ih =>
              simp only [pr]
              rw [Int.natAbs_mul,Int.natAbs_mul,ih,hv]
              split
              · rename_i h;rw [h,Int.natAbs_neg]
              · rfl
          rw [this];exact hd.pr
      obtain ⟨L2,e',b1,b2,b3,b4,b5,b6,b7⟩:=turns_ex (h:=h) (w:=w) hDc hcap k (p+1) (turnR e p) (by omega) hd1 (fun i hi=>by
        rw [hv];split
        · omega
        · exact h0 i (by omega))
      refine ⟨_,e',⟨hle,Or.inl ⟨hn,L2,b1,rfl⟩⟩,b2,?_,by simp;omega,b5,fun i hi=>b6 i (by omega),fun i=>?_⟩
      · intro x hx
        rcases List.mem_cons.mp hx with z | z
        · subst z;exact (show p<h by omega)
        · exact b3 x z
      · rw [b7,hv];split
        · rename_i h;rw [h,Int.natAbs_neg]
        · rfl
    · obtain ⟨L2,e',b1,b2,b3,b4,b5,b6,b7⟩:=turns_ex (h:=h) (w:=w) hDc hcap k (p+1) e (by omega) hd (fun i hi=>by
        by_cases h:i=p
        · subst h;omega
        · exact h0 i (by omega))
      exact ⟨L2,e',⟨hle,Or.inr ⟨hn,b1⟩⟩,b2,b3,by omega,b5,fun i hi=>b6 i (by omega),b7⟩
end E1
namespace E1
open Dt
def BroughtR (cap h w:Nat) (e:Tab) (L:List (Bool×RC)) (e':Tab):Prop :=
  ∃L1 L2 e1 L3 e2 L4 e3 L5,Both cap h w e L1 L2 e1∧Rounds cap h w e1 L3 e2∧ChainO cap (min h w) (min h w) 0 e2 L4 e3∧Turns cap (min h w) 0 e3 L5 e' ∧
    L=(L1.map (Prod.mk true)++L2.map (Prod.mk false))++(L3++(L4++L5))
structure Fine (e:Tab) (h w:Nat):Prop where
  off:∀x y,x≠y→e x y=0
  out:∀i,min h w≤i→e i i=0
  nn:∀i,0≤e i i
  go:∀i j,i≤j→e i i∣e j j
theorem brought_ex {e:Tab} {h w c1 N1 K1 c2 N2 K2 c N K3 K4 cap B D D2 b:Nat} {P1 P2 P3 P4:Nat→Nat} (hw:Wide e w) (hh:∀x y,h≤x→e x y=0) (hB:∀x y,(e x y).natAbs≤B) (hB1:B≤2^c1)
    (hB2:∀m,m≤h→m≤w→m*(fac m*B^m)≤2^c1) (hN1:2^c1<4^N1) (hD:∀m,m≤h→m≤w→fac m*B^m≤D) (hDc:D≤2^c2) (hc:c1≤c2) (hDN:D<4^N2)
    (hr1:Room h w c1 N1 K1 cap P1) (hr2:Room w h c2 N2 K2 cap P2)
    (hD2:∀L e1 r,apps2 L e=e1→(∀x∈L,ok2 h w x)→r≤h→r≤w→Tri e1 r D→(pr (fun i=>e1 i i) (List.range r)).natAbs≤D2) (hD2c:D2≤2^c) (hD2N:D2<4^N) (hD2b:D2<2^b)
    (hr3:Room h w c N K3 cap P3) (hr4:Room w h c N K4 cap P4) (hcap:ups 2 c≤cap) :
    ∃L e',BroughtR cap h w e L e'∧apps2 L e=e'∧(∀x∈L,ok2 h w x)∧Fine e' h w ∧
      L.length≤(sumP P1 0 h+sumP P2 0 w)+((min h w*b)*(sumP P3 0 h+sumP P4 0 w)+(min h w*(min h w*(3*N+2))+min h w))∧(∃r D,Dg e' r D∧r≤min h w):=by
  obtain ⟨L1,L2,e1,r,a1,a2,a3,a4,a5,a6,a7,a8,a9⟩:=first_ex hw hh hB hB1 hB2 hN1 hD hDc hc hDN hr1 hr2
  have hok1:∀x∈L1.map (Prod.mk true)++L2.map (Prod.mk false),ok2 h w x:=by
    intro x hx
    simp only [List.mem_append,List.mem_map] at hx
    rcases hx with ⟨c,hc,rfl⟩ | ⟨c,hc,rfl⟩
    · exact a3 c hc
    · exact a4 c hc
  have ht:=a9 D2 (hD2 _ e1 r a2 hok1 a6 a7 a8)
  have hb0:Bare 0 e1:=fun i hi=>absurd hi (by omega)
  have hrounds:∃L e',Rounds cap h w e1 L e'∧¬ beside h w e'∧apps2 L e1=e'∧(∀x∈L,ok2 h w x)∧L.length≤(min h w*b)*(sumP P3 0 h+sumP P4 0 w)∧Tri e' r D2:=by
    rcases Nat.eq_zero_or_pos r with z | z
    · refine rounds_ex a6 a7 hD2c hD2N hD2b hr3 hr4 (min h w*b) 0 0 e1 ht (by omega) hb0 (by rw [ht.rz 0 0 (by omega)];simp) ?_
      rw [z];simp
    · refine rounds_ex a6 a7 hD2c hD2N hD2b hr3 hr4 (min h w*b) 0 b e1 ht (by omega) hb0 (Nat.lt_of_le_of_lt (ht.le 0 0) hD2b) ?_
      have h1:b+(r - (0+1))*b=r*b:=by
        obtain ⟨r',rfl⟩:∃r',r=r'+1:=⟨r - 1,by omega⟩
        have:r'+1 - (0+1)=r':=by omega
        rw [this,Nat.succ_mul];omega
      rw [h1]
      exact Nat.mul_le_mul_right _ (by omega)
  obtain ⟨L3,e2,b1,b2,b3,b4,b5,b6⟩:=hrounds
  have hdg:=dg_of_tri b6 a6 a7 b2
  obtain ⟨L4,e3,c1,c2',c3,c4,c5,c6⟩:=chainO_ex (h:=h) (w:=w) (len:=min h w) hD2c hD2N hcap a6 a7 (by omega) (min h w) 0 e2 (by omega) hdg (fun i j hi=>absurd hi (by omega))
  obtain ⟨L5,e',d1,d2,d3,d4,d5,d6,d7⟩:=turns_ex (h:=h) (w:=w) hD2c (Nat.le_trans (ups_ge 2 c) hcap) (min h w) 0 e3 (by omega) c5 (fun i hi=>absurd hi (by omega))
  refine ⟨_,e',⟨L1,L2,e1,L3,e2,L4,e3,L5,a1,b1,c1,d1,rfl⟩,?_,?_,?_,?_,r,D2,d5,by omega⟩
  · rw [apps2_app,apps2_app,apps2_app,a2,b3,c2',d2]
  · intro x hx
    rw [List.mem_append] at hx
    rcases hx with z | z
    · exact hok1 x z
    · simp only [List.mem_append] at z
      rcases z with z | z | z
      · exact b4 x z
      · exact c3 x z
      · exact d3 x z
  · have hout:∀i,r≤i→e' i i=0:=fun i hi=>d5.z i hi
    refine ⟨d5.off,fun i hi=>hout i (by omega),fun i=>?_,fun i j hij=>?_⟩
    · rcases Nat.lt_or_ge i (min h w) with z | z
      · exact d6 i (by omega)
      · rw [hout i (by omega)];exact Int.le_refl _
    · rcases Nat.lt_or_ge i (min h w) with z | z
      · rcases Nat.lt_or_eq_of_le hij with q | q
        · have:=c6 i j z q
          rw [←Int.natAbs_dvd_natAbs] at this ⊢
          rw [d7,d7];exact this
        · subst q;exact Int.dvd_refl _
      · rw [hout j (by omega)];exact Int.dvd_zero _
  · simp only [List.length_append,List.length_map]
    omega
theorem room34 {h w c N:Nat} (hh:h≤4) (hw:w≤3) (hc:c≤137) (hN:N≤69):Room h w c N 12 1048576 (fun _=>650):=by
  refine ⟨fun m m' h1 h2 h3 h4=>?_,?_,fun low m m' h1 h2 h3 h4 h5=>?_⟩
  · have:m≤3:=by omega
    have:m'≤3:=by omega
    rcases (show m=0∨m=1∨m=2∨m=3 by omega) with rfl | rfl | rfl | rfl <;> rcases (show m'=0∨m'=1∨m'=2∨m'=3 by omega) with rfl | rfl | rfl | rfl <;> simp [so]
  · exact Nat.le_trans (ups_mono 12 hc) (by decide)
  · have:m≤3:=by omega
    have:m'≤3:=by omega
    have h6:so m' m'≤3:=by rcases (show m'=0∨m'=1∨m'=2∨m'=3 by omega) with rfl | rfl | rfl | rfl <;> simp [so]
    have h7:m*(3*N+2*m)≤3*(3*69+2*3):=Nat.mul_le_mul (by omega) (by omega)
    omega
theorem room43 {h w c N:Nat} (hh:h≤3) (hw:w≤4) (hc:c≤137) (hN:N≤69):Room h w c N 12 1048576 (fun _=>650):=by
  refine ⟨fun m m' h1 h2 h3 h4=>?_,?_,fun low m m' h1 h2 h3 h4 h5=>?_⟩
  · have:m≤2:=by omega
    have:m'≤3:=by omega
    rcases (show m=0∨m=1∨m=2 by omega) with rfl | rfl | rfl <;> rcases (show m'=0∨m'=1∨m'=2∨m'=3 by omega) with rfl | rfl | rfl | rfl <;> simp [so]
  · exact Nat.le_trans (ups_mono 12 hc) (by decide)
  · have:m≤2:=by omega
    have:m'≤3:=by omega
    have h6:so m' m'≤3:=by rcases (show m'=0∨m'=1∨m'=2∨m'=3 by omega) with rfl | rfl | rfl | rfl <;> simp [so]
    have h7:m*(3*N+2*m)≤2*(3*69+2*2):=Nat.mul_le_mul (by omega) (by omega)
    omega
theorem sumP_const (p:Nat):∀(k low:Nat),sumP (fun _=>p) low k=k*p
  | 0,_=>by simp [sumP]
  | k+1,low=>by simp only [sumP];rw [sumP_const p k,Nat.succ_mul];omega
theorem brought_43 {e:Tab} {h w:Nat} (hh4:h≤4) (hw3:w≤3) (hw:Wide e w) (hh:∀x y,h≤x→e x y=0) (hB:∀x y,(e x y).natAbs≤2^44) :
    ∃L e',BroughtR 1048576 h w e L e'∧apps2 L e=e'∧(∀x∈L,ok2 h w x)∧Fine e' h w∧L.length≤4000000:=by
  have hm:∀m,m≤h→m≤w→m=0∨m=1∨m=2∨m=3:=fun m _ _=>by omega
  obtain ⟨L,e',a1,a2,a3,a4,a5,_⟩:=brought_ex (cap:=1048576) (c1:=137) (N1:=69) (c2:=137) (N2:=68) (c:=137) (N:=68) (B:=2^44) (D:=2^135) (D2:=2^135) (b:=136) hw hh hB (by decide)
    (fun m h1 h2=>by rcases hm m h1 h2 with rfl | rfl | rfl | rfl <;> decide) (by decide)
    (fun m h1 h2=>by rcases hm m h1 h2 with rfl | rfl | rfl | rfl <;> decide) (by decide) (Nat.le_refl _) (by decide) (room34 hh4 hw3 (Nat.le_refl _) (Nat.le_refl _)) (room43 hw3 hh4 (Nat.le_refl _) (by decide))
    (fun L e1 r _ _ _ _ ht=>ht.pr) (by decide) (by decide) (by decide) (room34 hh4 hw3 (Nat.le_refl _) (by decide)) (room43 hw3 hh4 (Nat.le_refl _) (by decide)) (by decide)
  have q1:h*650+w*650≤4550:=by omega
  have q2:min h w*136≤408:=by omega
  have q3:(min h w*136)*(h*650+w*650)≤408*4550:=Nat.mul_le_mul q2 q1
  have q4:min h w*(min h w*(3*68+2))≤3*(3*(3*68+2)):=Nat.mul_le_mul (by omega) (Nat.mul_le_mul (by omega) (Nat.le_refl _))
  have q5:min h w≤3:=by omega
  rw [sumP_const,sumP_const] at a5
  have a6:L.length≤4000000:=Nat.le_trans (Nat.le_trans a5 (Nat.add_le_add q1 (Nat.add_le_add q3 (Nat.add_le_add q4 q5)))) (by decide)
  exact ⟨L,e',a1,a2,a3,a4,a6⟩
end E1
namespace E1
open Dt
end E1
namespace E1
open Dt
def qle (cap:Nat):RC→Prop
  | .add _ _ q=>q.natAbs≤2^cap
  | _=>True
theorem le_tip {cap:Nat} {e:Tab} (h:Le cap e):Le cap (tipT e):=fun x y=>h y x
def back1:RC→RC
  | .add i j q=>.add i j (-q)
  | c=>c
theorem back1_app {n:Nat} {c:RC} (h:c.ok n) (e:Tab):(back1 c).app (c.app e)=e:=by
  funext x y
  cases c with
  | add i j q =>
    obtain ⟨_,_,hij⟩:=h
    simp only [back1,RC.app,addR]
    by_cases hx:x=i
    · subst hx;rw [if_pos rfl,if_pos trivial,if_neg (Ne.symm hij)];grind
    · rw [if_neg hx,if_neg hx]
  | swap i j =>
    obtain ⟨_,_,hij⟩:=h
    simp only [back1,RC.app,swapR]
    congr 1
    unfold sw
    by_cases h1:x=i
    · simp only [if_pos h1];rw [if_neg (Ne.symm hij),if_pos trivial];exact h1.symm
    · by_cases h2:x=j
      · simp only [if_neg h1,if_pos h2,if_pos];exact h2.symm
      · simp only [if_neg h1,if_neg h2]
  | turn i =>
    simp only [back1,RC.app,turnR]
    by_cases hx:x=i
    · subst hx;simp
    · rw [if_neg hx,if_neg hx]
end E1
namespace E1
def MeetH (cap top low p:Nat):Nat→Tab→List RC→Tab→Prop
  | 0,_,_,_=>False
  | n+1,e,L,e'=>(Le cap e∧e low p=0∧L=[]∧e'=e) ∨
      (Le cap e∧e low p≠0∧e top p≠0∧∃e1,e1=less e low top p∧Le cap e1 ∧
        ((e1 low p=0∧L=lch low top (lq e low top p)∧e'=e1∧∃k,n=k+1) ∨
         (e1 low p≠0∧∃e2,e2=less e1 top low p∧Le cap e2 ∧
           ((e2 top p≠0∧∃L2,MeetH cap top low p n e2 L2 e'∧L=lch low top (lq e low top p)++(lch top low (lq e1 top low p)++L2)) ∨
            (e2 top p=0∧L=lch low top (lq e low top p)++(lch top low (lq e1 top low p)++[.swap top low])∧e'=swapR e2 top low∧e' low p=0∧Le cap e'∧∃k,n=k+1)))))
theorem meetH_of {cap top low p:Nat} {e e':Tab} {L:List RC} (h:MeetR cap top low p e L e'):∃n,MeetH cap top low p n e L e':=by
  induction h with
  | done h1 h2=>exact ⟨1,.inl ⟨h1,h2,rfl,rfl⟩⟩
  | half h1 h2 h3 h4 h5 h6=>exact ⟨2,.inr ⟨h1,h2,h3,_,h4,h5,.inl ⟨h6,rfl,rfl,0,rfl⟩⟩⟩
  | turn h1 h2 h3 h4 h5 h6 h7 h8 h9 _ ih =>
    obtain ⟨n,ih⟩:=ih
    exact ⟨n+1,.inr ⟨h1,h2,h3,_,h4,h5,.inr ⟨h6,_,h7,h8,.inl ⟨h9,_,ih,rfl⟩⟩⟩⟩
  | swap h1 h2 h3 h4 h5 h6 h7 h8 h9 =>
    refine ⟨2,.inr ⟨h1,h2,h3,_,h4,h5,.inr ⟨h6,_,h7,h8,.inr ⟨h9,rfl,rfl,?_,?_,0,rfl⟩⟩⟩⟩
    · show swapR _ top low low p=0
      unfold swapR sw
      by_cases e:low=top
      · rw [if_pos e,e];exact h9
      · rw [if_neg e,if_pos rfl];exact h9
    · intro x y;exact h8 _ _
def RoundsH (cap h w:Nat):Nat→Tab→List (Bool×RC)→Tab→Prop
  | 0,_,_,_=>False
  | n+1,e,L,e'=>(¬ beside h w e∧L=[]∧e'=e) ∨
      (beside h w e∧∃e1 L1 L2 L3,Both cap h w e L1 L2 e1∧RoundsH cap h w n e1 L3 e'∧L=(L1.map (Prod.mk true)++L2.map (Prod.mk false))++L3)
theorem roundsH_of {cap h w:Nat} {e e':Tab} {L:List (Bool×RC)} (hr:Rounds cap h w e L e'):∃n,RoundsH cap h w n e L e':=by
  induction hr with
  | stop h1=>exact ⟨1,.inl ⟨h1,rfl,rfl⟩⟩
  | turn h1 h2 _ ih =>
    obtain ⟨n,ih⟩:=ih
    exact ⟨n+1,.inr ⟨h1,_,_,_,_,h2,ih,rfl⟩⟩
theorem fp_from {r:Nat→Int}:∀(n y i:Nat),y≤i→i<y+n→(∀z,y≤z→z<i→r z=0)→r i≠0→fp r y n=i
  | 0,y,i,h1,h2,_,_=>by omega
  | n+1,y,i,h1,h2,h3,h4=>by
    unfold fp
    by_cases e:y=i
    · subst e;rw [if_pos h4]
    · rw [if_neg (by simpa using h3 y (Nat.le_refl _) (by omega))]
      exact fp_from n (y+1) i (by omega) (by omega) (fun z a b=>h3 z (by omega) b) h4
theorem fp_none {r:Nat→Int}:∀(n y:Nat),(∀z,y≤z→z<y+n→r z=0)→fp r y n=y+n
  | 0,y,_=>rfl
  | n+1,y,h=>by
    unfold fp
    rw [if_neg (by simpa using h y (Nat.le_refl _) (by omega)),fp_none n (y+1) (fun z a b=>h z (by omega) (by omega))]
    omega
end E1
namespace E1
open Dt
def RLe (x c:Nat) (e:Tab):Prop:=∀y,(e x y).natAbs≤2^c
theorem RLe.mono {x c d:Nat} {e:Tab} (h:RLe x c e) (hc:c≤d):RLe x d e:=fun y=>Nat.le_trans (h y) (Nat.pow_le_pow_right (by decide) hc)
theorem Le.row {c:Nat} {e:Tab} (h:Le c e) (x:Nat):RLe x c e:=fun y=>h x y
end E1
namespace E1
abbrev Vc:=Nat→Int
def cmb (a:Vc) (e:Tab):Nat→Vc
  | 0=>fun _=>0
  | n+1=>fun y=>cmb a e n y+a n*e n y
def InR (n:Nat) (e:Tab) (v:Vc):Prop:=∃a:Vc,∀y,v y=cmb a e n y
theorem cmb_zero (e:Tab):∀n y,cmb (fun _=>0) e n y=0
  | 0,_=>rfl
  | n+1,y=>by simp [cmb,cmb_zero e n y]
theorem cmb_add (a b:Vc) (m:Int) (e:Tab):∀n y,cmb (fun i=>a i+m*b i) e n y=cmb a e n y+m*cmb b e n y
  | 0,_=>by simp [cmb]
  | n+1,y=>by simp only [cmb];rw [cmb_add a b m e n y];grind
theorem cmb_congr {a b:Vc} {e f:Tab} {y z:Nat}:∀n,(∀i,i<n→a i=b i∧e i y=f i z)→cmb a e n y=cmb b f n z
  | 0,_=>rfl
  | n+1,h=>by
    simp only [cmb]
    rw [cmb_congr n (fun i hi=>h i (by omega)),(h n (by omega)).1,(h n (by omega)).2]
def one (x:Nat):Vc:=fun i=>if i=x then 1 else 0
theorem cmb_one {x:Nat} (e:Tab) (y:Nat):∀n,cmb (one x) e n y=if x<n then e x y else 0
  | 0=>by simp [cmb]
  | n+1=>by
    simp only [cmb,cmb_one e y n,one]
    by_cases h:n=x
    · subst h;simp
    · simp only [if_neg h,Int.zero_mul,Int.add_zero]
      by_cases h2:x<n
      · rw [if_pos h2,if_pos (by omega)]
      · rw [if_neg h2,if_neg (by omega)]
theorem InR.zero (n:Nat) (e:Tab):InR n e (fun _=>0):=⟨fun _=>0,fun y=>(cmb_zero e n y).symm⟩
theorem InR.add {n:Nat} {e:Tab} {u v:Vc} (hu:InR n e u) (hv:InR n e v) (m:Int):InR n e (fun y=>u y+m*v y):=by
  obtain ⟨a,ha⟩:=hu
  obtain ⟨b,hb⟩:=hv
  exact ⟨fun i=>a i+m*b i,fun y=>by rw [cmb_add,←ha,←hb]⟩
theorem InR.row {n x:Nat} (e:Tab) (h:x<n):InR n e (e x):=⟨one x,fun y=>by rw [cmb_one,if_pos h]⟩
theorem InR.cong {n:Nat} {e:Tab} {u v:Vc} (h:InR n e u) (hv:∀y,v y=u y):InR n e v:=by
  obtain ⟨a,ha⟩:=h
  exact ⟨a,fun y=>by rw [hv,ha]⟩
theorem InR.cmb {n:Nat} {e e':Tab} (h:∀x,x<n→InR n e (e' x)) (a:Vc):∀k,k≤n→InR n e (E1.cmb a e' k)
  | 0,_=>InR.zero n e
  | k+1,hk=>(InR.cmb h a k (by omega)).add (h k (by omega)) (a k)
theorem InR.of {n:Nat} {e e':Tab} {v:Vc} (h:∀x,x<n→InR n e (e' x)) (hv:InR n e' v):InR n e v:=by
  obtain ⟨a,ha⟩:=hv
  exact (InR.cmb h a n (Nat.le_refl _)).cong ha
theorem inr_cmb {n:Nat} {e e':Tab} (h:Cmb (cut n e) (cut n e')):∀x,x<n→InR n e (e' x):=by
  intro x hx
  obtain ⟨u,v,m,hc⟩:=h x
  have hcut:∀u,InR n e (cut n e u):=fun u=>by
    by_cases hu:u<n
    · exact (InR.row e hu).cong fun y=>by simp [cut,hu]
    · exact (InR.zero n e).cong fun y=>by simp [cut,hu]
  refine ((hcut u).add (hcut v) m).cong fun y=>?_
  have:=hc y
  simp only [cut,hx,if_true] at this ⊢
  exact this
theorem inr_app {n:Nat} {c:RC} (hc:c.ok n) (e:Tab) (v:Vc):InR n e v↔InR n (c.app e) v :=
  ⟨fun h=>h.of (inr_cmb (cmb_app hc e).2),fun h=>h.of (inr_cmb (cmb_app hc e).1)⟩
def colA (c:RC) (v:Vc):Vc:=fun y=>c.app (fun x _=>v x) y 0
theorem col_app (c:RC) (e:Tab) (x:Nat):app2 (false,c) e x=colA c (e x):=by
  funext y
  cases c with
  | add i j q=>show tipT (addR (tipT e) i j q) x y=_;simp only [tipT,addR,colA,RC.app]
  | swap i j=>show tipT (swapR (tipT e) i j) x y=_;simp only [tipT,swapR,colA,RC.app]
  | turn i=>show tipT (turnR (tipT e) i) x y=_;simp only [tipT,turnR,colA,RC.app]
theorem colA_lin (c:RC) (u v:Vc) (m:Int):colA c (fun y=>u y+m*v y)=fun y=>colA c u y+m*colA c v y:=by
  funext y
  cases c with
  | add i j q =>
    simp only [colA,RC.app,addR]
    split <;> grind
  | swap i j=>simp only [colA,RC.app,swapR]
  | turn i =>
    simp only [colA,RC.app,turnR]
    split <;> grind
theorem colA_zero (c:RC):colA c (fun _=>0)=fun _=>0:=by
  funext y
  cases c with
  | add i j q=>simp only [colA,RC.app,addR];split <;> simp
  | swap i j=>simp only [colA,RC.app,swapR]
  | turn i=>simp only [colA,RC.app,turnR];split <;> simp
theorem colA_cmb (c:RC) (a:Vc) (e:Tab):∀n,colA c (cmb a e n)=cmb a (app2 (false,c) e) n
  | 0=>colA_zero c
  | n+1=>by
    have:cmb a e (n+1)=fun y=>cmb a e n y+a n*e n y:=rfl
    rw [this,colA_lin,colA_cmb c a e n]
    funext y
    show _=cmb a (app2 (false,c) e) n y+a n*app2 (false,c) e n y
    rw [col_app]
theorem inr_col (c:RC) {n:Nat} {e:Tab} {v:Vc} (h:InR n e v):InR n (app2 (false,c) e) (colA c v):=by
  obtain ⟨a,ha⟩:=h
  have:v=cmb a e n:=funext ha
  exact ⟨a,fun y=>by rw [this,colA_cmb]⟩
theorem colA_back {w:Nat} {c:RC} (hc:c.ok w) (v:Vc):colA (back1 c) (colA c v)=v:=by
  have:=back1_app hc (fun x _=>v x)
  funext y
  have h2:=congrFun (congrFun this y) 0
  refine Eq.trans ?_ h2
  cases c with
  | add i j q=>simp only [colA,back1,RC.app,addR]
  | swap i j=>simp only [colA,back1,RC.app,swapR]
  | turn i=>simp only [colA,back1,RC.app,turnR]
def dgF (d:Vc):Tab:=fun x y=>if x=y then d x else 0
theorem cmb_dg (a d:Vc) (y:Nat):∀n,cmb a (dgF d) n y=if y<n then a y*d y else 0
  | 0=>by simp [cmb]
  | n+1=>by
    simp only [cmb,cmb_dg a d y n,dgF]
    by_cases h:n=y
    · subst h;simp
    · simp only [if_neg h,Int.mul_zero,Int.add_zero]
      by_cases h2:y<n
      · rw [if_pos h2,if_pos (by omega)]
      · rw [if_neg h2,if_neg (by omega)]
theorem inr_dg {n:Nat} {d v:Vc} (hd:∀y,n≤y→d y=0):InR n (dgF d) v↔∀y,d y∣v y:=by
  constructor
  · rintro ⟨a,ha⟩ y
    rw [ha,cmb_dg]
    split
    · exact Int.dvd_mul_left _ _
    · exact Int.dvd_zero _
  · intro h
    refine ⟨fun y=>v y / d y,fun y=>?_⟩
    rw [cmb_dg]
    split
    · exact (Int.ediv_mul_cancel (h y)).symm
    · have:=h y
      rw [hd y (by omega)] at this
      exact Int.zero_dvd.mp this
end E1
namespace E1
theorem len_le {α:Type}:∀(l l':List α),l.Nodup→(∀x∈l,x∈l')→l.length≤l'.length
  | [],_,_,_=>Nat.zero_le _
  | x::l,l',hn,h=>by
    obtain ⟨s,t,rfl⟩:=List.append_of_mem (h x List.mem_cons_self)
    have hn':=List.nodup_cons.mp hn
    have:=len_le l (s++t) hn'.2 fun y hy=>by
      have:=h y (List.mem_cons_of_mem _ hy)
      rcases List.mem_append.mp this with z | z
      · exact List.mem_append_left _ z
      · rcases List.mem_cons.mp z with z | z
        · exact absurd (z▸hy) hn'.1
        · exact List.mem_append_right _ z
    simp only [List.length_append,List.length_cons] at this ⊢
    omega
theorem len_eq {α:Type} {l l':List α} (h:l.Nodup) (h':l'.Nodup) (e:∀x,x∈l↔x∈l'):l.length=l'.length :=
  Nat.le_antisymm (len_le _ _ h fun x hx=>(e x).mp hx) (len_le _ _ h' fun x hx=>(e x).mpr hx)
theorem nodup_map {α β:Type} {f:α→β} {g:β→α} {l:List α} (hn:l.Nodup) (hg:∀x∈l,g (f x)=x):(l.map f).Nodup:=by
  unfold List.Nodup at hn ⊢
  rw [List.pairwise_map]
  refine hn.imp_of_mem fun ha hb hne e=>hne ?_
  rw [←hg _ ha,←hg _ hb,e]
def InM (N n:Nat) (e:Tab) (v:Vc):Prop:=∃u:Vc,InR n e (fun y=>v y+(N:Int)*u y)
theorem InM.shift {N n:Nat} {e:Tab} {v v':Vc} (h:InM N n e v) (k:Vc) (hv:∀y,v' y=v y+(N:Int)*k y):InM N n e v':=by
  obtain ⟨u,hu⟩:=h
  refine ⟨fun y=>u y - k y,hu.cong fun y=>?_⟩
  rw [hv,Int.mul_sub];omega
def Rst (N w:Nat) (v:Vc):Prop:=∀y,(y<w→0≤v y∧v y<(N:Int))∧(w≤y→v y=0)
def red (N w:Nat) (v:Vc):Vc:=fun y=>if y<w then v y % (N:Int) else 0
theorem red_rst {N w:Nat} (hN:0<N) (v:Vc):Rst N w (red N w v):=fun y=>by
  unfold red
  refine ⟨fun hy=>?_,fun hy=>?_⟩
  · rw [if_pos hy];exact ⟨Int.emod_nonneg _ (by omega),Int.emod_lt_of_pos _ (by omega)⟩
  · rw [if_neg (by omega)]
theorem rst_eq {N w:Nat} {u v:Vc} (hu:Rst N w u) (hv:Rst N w v) (k:Vc) (h:∀y,y<w→u y=v y+(N:Int)*k y):u=v:=by
  funext y
  by_cases hy:y<w
  · have a:=(hu y).1 hy
    have b:=(hv y).1 hy
    have c:=h y hy
    rw [←Int.emod_eq_of_lt a.1 a.2,c,Int.add_mul_emod_self_left,Int.emod_eq_of_lt b.1 b.2]
  · rw [(hu y).2 (by omega),(hv y).2 (by omega)]
theorem red_diff {N w:Nat} {v:Vc} (hv:∀y,w≤y→v y=0):∃k:Vc,∀y,red N w v y=v y+(N:Int)*k y :=
  ⟨fun y=>if y<w then -(v y / (N:Int)) else 0,fun y=>by
    unfold red
    dsimp only
    by_cases hy:y<w
    · rw [if_pos hy,if_pos hy,Int.emod_def,Int.mul_neg];omega
    · rw [if_neg hy,if_neg hy,hv y (by omega)];simp⟩
theorem colA_out {w:Nat} {c:RC} (hc:c.ok w) {v:Vc} (hv:∀y,w≤y→v y=0):∀y,w≤y→colA c v y=0:=fun y hy=>by
  cases c with
  | add i j q =>
    have:y≠i:=by have:=hc.1;omega
    simp only [colA,RC.app,addR,if_neg this];exact hv y hy
  | swap i j =>
    have h1:y≠i:=by have:=hc.1;omega
    have h2:y≠j:=by have:=hc.2.1;omega
    simp only [colA,RC.app,swapR,sw,if_neg h1,if_neg h2];exact hv y hy
  | turn i =>
    have:y≠i:=by have h:i<w:=hc;omega
    simp only [colA,RC.app,turnR,if_neg this];exact hv y hy
theorem back1_ok {w:Nat} {c:RC} (hc:c.ok w):(back1 c).ok w:=by cases c <;> exact hc
theorem back1_back (c:RC):back1 (back1 c)=c:=by
  cases c with
  | add i j q=>simp [back1]
  | swap i j=>rfl
  | turn i=>rfl
theorem red_back {N w:Nat} (hN:0<N) {a b:RC} (ha:a.ok w) (hb:b.ok w) (hab:∀v,colA b (colA a v)=v) {v:Vc} (hv:Rst N w v):red N w (colA b (red N w (colA a v)))=v:=by
  have hv0:∀y,w≤y→v y=0:=fun y hy=>(hv y).2 hy
  obtain ⟨k,hk⟩:=red_diff (N:=N) (colA_out ha hv0)
  have e1:red N w (colA a v)=fun y=>colA a v y+(N:Int)*k y:=funext hk
  obtain ⟨k2,hk2⟩:=red_diff (N:=N) (colA_out hb fun y hy=>((red_rst hN (colA a v)) y).2 hy)
  refine rst_eq (red_rst hN _) hv (fun y=>colA b k y+k2 y) fun y hy=>?_
  rw [hk2,e1,colA_lin,hab,Int.mul_add]
  (first | lia | omega)
def Cnt (N n w:Nat) (e:Tab) (k:Nat):Prop:=∃l:List Vc,l.Nodup∧(∀v,v∈l↔Rst N w v∧InM N n e v)∧l.length=k
theorem Cnt.one {N n w k k':Nat} {e:Tab} (h:Cnt N n w e k) (h':Cnt N n w e k'):k=k':=by
  obtain ⟨l,a,b,rfl⟩:=h
  obtain ⟨l',a',b',rfl⟩:=h'
  exact len_eq a a' fun v=>by rw [b,b']
theorem Cnt.row {N n w k:Nat} {e:Tab} {c:RC} (hc:c.ok n) (h:Cnt N n w e k):Cnt N n w (c.app e) k:=by
  obtain ⟨l,a,b,d⟩:=h
  refine ⟨l,a,fun v=>?_,d⟩
  rw [b]
  exact ⟨fun ⟨h1,u,h2⟩=>⟨h1,u,(inr_app hc e _).mp h2⟩,fun ⟨h1,u,h2⟩=>⟨h1,u,(inr_app hc e _).mpr h2⟩⟩
theorem inm_col (c:RC) {N n:Nat} {e:Tab} {v:Vc} (h:InM N n e v):InM N n (app2 (false,c) e) (colA c v):=by
  obtain ⟨u,hu⟩:=h
  have:=inr_col c hu
  rw [colA_lin] at this
  exact ⟨colA c u,this⟩
theorem Cnt.col {N n w k:Nat} {e:Tab} {c:RC} (hN:0<N) (hc:c.ok w) (h:Cnt N n w e k):Cnt N n w (app2 (false,c) e) k:=by
  obtain ⟨l,a,b,d⟩:=h
  have hb:=back1_ok hc
  have h1:∀v,colA (back1 c) (colA c v)=v:=colA_back hc
  have h2:∀v,colA c (colA (back1 c) v)=v:=fun v=>by have:=colA_back hb v;rwa [back1_back] at this
  have hback:app2 (false,back1 c) (app2 (false,c) e)=e:=by
    funext x
    rw [col_app,col_app,h1]
  refine ⟨l.map fun v=>red N w (colA c v),nodup_map (g:=fun v=>red N w (colA (back1 c) v)) a fun v hv=>red_back hN hc hb h1 ((b v).mp hv).1,fun v=>?_,by rw [List.length_map,d]⟩
  rw [List.mem_map]
  constructor
  · rintro ⟨u,hu,rfl⟩
    obtain ⟨r,i⟩:=(b u).mp hu
    refine ⟨red_rst hN _,?_⟩
    obtain ⟨k,hk⟩:=red_diff (N:=N) (colA_out hc fun y hy=>(r y).2 hy)
    exact (inm_col c i).shift k hk
  · rintro ⟨r,i⟩
    refine ⟨red N w (colA (back1 c) v),(b _).mpr ⟨red_rst hN _,?_⟩,red_back hN hb hc h2 r⟩
    obtain ⟨k,hk⟩:=red_diff (N:=N) (colA_out hb fun y hy=>(r y).2 hy)
    have:=inm_col (back1 c) i
    rw [hback] at this
    exact this.shift k hk
theorem Cnt.all {N n w k:Nat} (hN:0<N):∀(L:List (Bool×RC)) (e:Tab),(∀c∈L,ok2 n w c)→Cnt N n w e k→Cnt N n w (apps2 L e) k
  | [],_,_,h=>h
  | (s,c)::L,e,hL,h=>by
    have hc:=hL _ List.mem_cons_self
    have hr:=fun x hx=>hL x (List.mem_cons_of_mem (s,c) hx)
    cases s with
    | true =>
      have e2:apps2 ((true,c)::L) e=apps2 L (c.app e):=rfl
      rw [e2];exact Cnt.all hN L _ hr (h.row hc)
    | false =>
      have e2:apps2 ((false,c)::L) e=apps2 L (app2 (false,c) e):=rfl
      rw [e2];exact Cnt.all hN L _ hr (h.col hN hc)
theorem bez (a b:Nat):∃x y:Int,x*a+y*b=(Nat.gcd a b:Int):=by
  induction a,b using Nat.gcd.induction with
  | H0 n=>exact ⟨0,1,by simp⟩
  | H1 m n hm ih =>
    obtain ⟨x,y,h⟩:=ih
    refine ⟨y - x*((n:Int) / (m:Int)),x,?_⟩
    rw [Nat.gcd_rec,←h]
    have e:((n % m:Nat):Int)=(n:Int) - (m:Int)*((n:Int) / (m:Int)):=by rw [Int.natCast_emod,Int.emod_def]
    rw [e]
    grind
theorem gcd_shift {N:Nat} {d v:Int}:(∃u,d∣v+(N:Int)*u)↔((Nat.gcd N d.natAbs:Nat):Int)∣v:=by
  constructor
  · rintro ⟨u,h⟩
    have h1:((Nat.gcd N d.natAbs:Nat):Int)∣d:=Int.ofNat_dvd_left.mpr (Nat.gcd_dvd_right _ _)
    have h2:((Nat.gcd N d.natAbs:Nat):Int)∣(N:Int):=Int.natCast_dvd_natCast.mpr (Nat.gcd_dvd_left _ _)
    exact (Int.dvd_add_left (Int.dvd_mul_of_dvd_left h2)).mp (Int.dvd_trans h1 h)
  · rintro ⟨t,rfl⟩
    obtain ⟨x,y,h⟩:=bez N d.natAbs
    refine ⟨-(x*t),?_⟩
    have h3:d∣(d.natAbs:Int):=Int.dvd_natAbs.mpr (Int.dvd_refl d)
    have e:((Nat.gcd N d.natAbs:Nat):Int)*t+(N:Int)*-(x*t)=(d.natAbs:Int)*(y*t):=by
      rw [←h];grind
    rw [e]
    exact Int.dvd_mul_of_dvd_left h3
theorem inm_dg {N n:Nat} {d v:Vc} (hd:∀y,n≤y→d y=0):InM N n (dgF d) v↔∀y,((Nat.gcd N (d y).natAbs:Nat):Int)∣v y:=by
  constructor
  · rintro ⟨u,hu⟩ y
    exact gcd_shift.mp ⟨u y,(inr_dg hd).mp hu y⟩
  · intro h
    have h2:=fun y=>gcd_shift.mpr (h y)
    exact ⟨fun y=>Classical.choose (h2 y),(inr_dg hd).mpr fun y=>Classical.choose_spec (h2 y)⟩
def cl (N:Nat) (g:Nat→Nat):Nat→List Vc
  | 0=>[fun _=>0]
  | k+1=>(cl N g k).flatMap fun v=>(List.range (N / g k)).map fun j=>fun y=>if y=k then ((j*g k:Nat):Int) else v y
def pk (N:Nat) (g:Nat→Nat):Nat→Nat
  | 0=>1
  | k+1=>pk N g k*(N / g k)
theorem cl_len (N:Nat) (g:Nat→Nat):∀k,(cl N g k).length=pk N g k
  | 0=>rfl
  | k+1=>by
    have:∀(l:List Vc) (c:Nat),(l.map fun _=>c).sum=l.length*c:=fun l c=>by
      induction l with
      | nil=>simp
      | cons a l ih=>simp only [List.map_cons,List.sum_cons,ih,List.length_cons,Nat.succ_mul];omega
    simp only [cl,pk,List.length_flatMap,List.length_map,List.length_range]
    rw [this,cl_len N g k]
theorem cl_mem {N:Nat} {g:Nat→Nat} {v:Vc}:∀{k:Nat},v∈cl N g k↔(∀y,y<k→∃j,j<N / g y∧v y=((j*g y:Nat):Int))∧∀y,k≤y→v y=0
  | 0=>by
    simp only [cl,List.mem_singleton]
    exact ⟨fun h=>⟨fun y hy=>absurd hy (by omega),fun y _=>by rw [h]⟩,fun h=>funext fun y=>h.2 y (Nat.zero_le _)⟩
  | k+1=>by
    simp only [cl,List.mem_flatMap,List.mem_map,List.mem_range]
    constructor
    · rintro ⟨u,hu,j,hj,rfl⟩
      obtain ⟨h1,h2⟩:=cl_mem.mp hu
      refine ⟨fun y hy=>?_,fun y hy=>?_⟩
      · by_cases hk:y=k
        · subst hk;exact ⟨j,hj,by simp⟩
        · obtain ⟨i,hi,e⟩:=h1 y (by omega)
          exact ⟨i,hi,by simp only [if_neg hk];exact e⟩
      · simp only [if_neg (show ¬ y=k by omega)]
        exact h2 y (by omega)
    · rintro ⟨h1,h2⟩
      obtain ⟨j,hj,e⟩:=h1 k (by omega)
      refine ⟨fun y=>if y=k then 0 else v y,cl_mem.mpr ⟨fun y hy=>?_,fun y hy=>?_⟩,j,hj,?_⟩
      · obtain ⟨i,hi,e⟩:=h1 y (by omega)
        exact ⟨i,hi,by simp only [if_neg (show ¬ y=k by omega)];exact e⟩
      · by_cases hk:y=k
        · simp only [if_pos hk]
        · simp only [if_neg hk];exact h2 y (by omega)
      · funext y
        by_cases hk:y=k
        · subst hk;simp only [if_pos rfl];exact e.symm
        · simp only [if_neg hk]
theorem cl_nodup {N:Nat} {g:Nat→Nat} (hg:∀y,0<g y):∀k,(cl N g k).Nodup
  | 0=>by simp [cl]
  | k+1=>by
    unfold List.Nodup
    simp only [cl]
    rw [List.pairwise_flatMap]
    refine ⟨fun v hv=>?_,(cl_nodup hg k).imp_of_mem fun {u v} hu hv hne x hx y hy e=>hne ?_⟩
    · rw [List.pairwise_map]
      refine List.nodup_range.imp fun {i j} hij e=>hij ?_
      have:=congrFun e k
      simp only [if_pos rfl] at this
      have h2:i*g k=j*g k:=by (first | lia | omega)
      exact Nat.eq_of_mul_eq_mul_right (hg k) h2
    · obtain ⟨i,_,rfl⟩:=List.mem_map.mp hx
      obtain ⟨j,_,rfl⟩:=List.mem_map.mp hy
      funext z
      by_cases hz:z=k
      · rw [hz,(cl_mem.mp hu).2 k (Nat.le_refl _),(cl_mem.mp hv).2 k (Nat.le_refl _)]
      · have:=congrFun e z
        simp only [if_neg hz] at this
        exact this
theorem Cnt.dg {N n w:Nat} (hN:0<N) {d:Vc} (hd:∀y,n≤y→d y=0) (hw:∀y,w≤y→d y=0):Cnt N n w (dgF d) (pk N (fun y=>Nat.gcd N (d y).natAbs) w):=by
  have hg:∀y,0<Nat.gcd N (d y).natAbs:=fun y=>Nat.gcd_pos_of_pos_left _ hN
  refine ⟨cl N (fun y=>Nat.gcd N (d y).natAbs) w,cl_nodup hg w,fun v=>?_,cl_len _ _ w⟩
  rw [cl_mem,inm_dg hd]
  constructor
  · rintro ⟨h1,h2⟩
    refine ⟨fun y=>⟨fun hy=>?_,h2 y⟩,fun y=>?_⟩
    · obtain ⟨j,hj,e⟩:=h1 y hy
      rw [e]
      have h3:j*Nat.gcd N (d y).natAbs<N:=by
        have h4:=Nat.mul_lt_mul_of_pos_right hj (hg y)
        exact Nat.lt_of_lt_of_le h4 (Nat.div_mul_le_self _ _)
      omega
    · by_cases hy:y<w
      · obtain ⟨j,hj,e⟩:=h1 y hy
        rw [e]
        exact Int.natCast_dvd_natCast.mpr (Nat.dvd_mul_left _ _)
      · rw [h2 y (by omega)];exact Int.dvd_zero _
  · rintro ⟨h1,h2⟩
    refine ⟨fun y hy=>?_,fun y hy=>(h1 y).2 hy⟩
    obtain ⟨a,b⟩:=(h1 y).1 hy
    obtain ⟨t,ht⟩:=h2 y
    obtain ⟨x,hx⟩:=Int.eq_ofNat_of_zero_le a
    have h3:Nat.gcd N (d y).natAbs∣x:=by
      have:=h2 y
      rw [hx] at this
      exact Int.natCast_dvd_natCast.mp this
    obtain ⟨j,hj⟩:=h3
    refine ⟨j,?_,by rw [hx,hj,Nat.mul_comm]⟩
    have hxN:x<N:=by omega
    obtain ⟨q,hq⟩:=Nat.gcd_dvd_left N (d y).natAbs
    have e1:N / Nat.gcd N (d y).natAbs=q:=Nat.div_eq_of_eq_mul_right (hg y) hq
    rw [e1]
    refine Nat.lt_of_mul_lt_mul_left (a:=Nat.gcd N (d y).natAbs) ?_
    rw [←hj,←hq];exact hxN
theorem pk_ext {N:Nat} (hN:0<N) {g:Nat→Nat} {k:Nat} (h:∀y,k≤y→g y=N):∀j,pk N g (k+j)=pk N g k
  | 0=>rfl
  | j+1=>by
    show pk N g (k+j)*(N / g (k+j))=_
    rw [pk_ext hN h j,h _ (by omega),Nat.div_self hN,Nat.mul_one]
theorem cnt_fine {N h w k:Nat} (hN:0<N) {e e':Tab} {L:List (Bool×RC)} (hL:∀c∈L,ok2 h w c) (he:apps2 L e=e') (hf:Fine e' h w) (hc:Cnt N h w e k):k=pk N (fun y=>Nat.gcd N (e' y y).natAbs) (min h w):=by
  have h1:=Cnt.all hN L e hL hc
  rw [he] at h1
  have ed:e'=dgF (fun i=>e' i i):=by
    funext x y
    unfold dgF
    split
    · rename_i z;rw [z]
    · rename_i z;exact hf.off x y z
  have h0:∀y,min h w≤y→e' y y=0:=hf.out
  have h2:=Cnt.dg (n:=h) (w:=w) hN (d:=fun i=>e' i i) (fun y hy=>h0 y (by omega)) (fun y hy=>h0 y (by omega))
  rw [←ed] at h2
  rw [h1.one h2]
  have e3:w=min h w+(w - min h w):=by omega
  rw [e3]
  have:=pk_ext hN (g:=fun y=>Nat.gcd N (e' y y).natAbs) (k:=min h w) (fun y hy=>by rw [h0 y hy];simp) (w - min h w)
  rw [this,←e3]
theorem InR.more {n:Nat} {e:Tab} {v:Vc} (h:InR n e v):InR (n+1) e v:=by
  obtain ⟨a,ha⟩:=h
  refine ⟨fun i=>if i<n then a i else 0,fun y=>?_⟩
  show v y=E1.cmb _ e n y+(if n<n then a n else 0)*e n y
  rw [if_neg (Nat.lt_irrefl n),Int.zero_mul,Int.add_zero,ha]
  exact cmb_congr n fun i hi=>⟨by rw [if_pos hi],rfl⟩
theorem cmb_out {e:Tab} {w:Nat} (he:∀x y,w≤y→e x y=0) (a:Vc):∀n y,w≤y→cmb a e n y=0
  | 0,_,_=>rfl
  | n+1,y,hy=>by show cmb a e n y+a n*e n y=0;rw [cmb_out he a n y hy,he n y hy];simp
theorem inm_step {N n w:Nat} (hN:0<N) {e:Tab} (he:∀x y,w≤y→e x y=0) {v:Vc} :
    (Rst N w v∧InM N (n+1) e v)↔∃(v0:Vc) (t:Nat),Rst N w v0∧InM N n e v0∧t<N∧v=red N w (fun y=>v0 y+(t:Int)*e n y):=by
  constructor
  · rintro ⟨hr,u,a,ha⟩
    have hb:0≤a n % (N:Int):=Int.emod_nonneg _ (by omega)
    obtain ⟨t,ht⟩:=Int.eq_ofNat_of_zero_le hb
    have hlt:a n % (N:Int)<N:=Int.emod_lt_of_pos _ (by omega)
    have hc0:=cmb_out he a n
    obtain ⟨k1,hk1⟩:=red_diff (N:=N) hc0
    refine ⟨red N w (cmb a e n),t,red_rst hN _,?_,by omega,?_⟩
    · exact InM.shift (v:=cmb a e n) ⟨fun _=>0,a,fun y=>by simp⟩ k1 hk1
    · have hz:∀y,w≤y→(fun y=>red N w (cmb a e n) y+(t:Int)*e n y) y=0:=fun y hy=>by
        show red N w (cmb a e n) y+(t:Int)*e n y=0
        rw [he n y hy,((red_rst hN (cmb a e n)) y).2 hy];simp
      obtain ⟨k2,hk2⟩:=red_diff (N:=N) hz
      refine rst_eq hr (red_rst hN _) (fun y=>(a n / (N:Int))*e n y - u y - k1 y - k2 y) fun y _=>?_
      have h1:v y+(N:Int)*u y=cmb a e n y+a n*e n y:=ha y
      have h2:a n=(N:Int)*(a n / (N:Int))+(t:Int):=by rw [←ht];exact (Int.mul_ediv_add_emod _ _).symm
      rw [hk2]
      show v y=red N w (cmb a e n) y+(t:Int)*e n y+(N:Int)*k2 y+_
      rw [hk1]
      generalize a n / (N:Int)=q at h2 ⊢
      rw [h2] at h1
      grind
  · rintro ⟨v0,t,r0,⟨u,hu⟩,ht,rfl⟩
    refine ⟨red_rst hN _,?_⟩
    have hz:∀y,w≤y→(fun y=>v0 y+(t:Int)*e n y) y=0:=fun y hy=>by
      show v0 y+(t:Int)*e n y=0
      rw [he n y hy,(r0 y).2 hy];simp
    obtain ⟨k2,hk2⟩:=red_diff (N:=N) hz
    refine InM.shift (v:=fun y=>v0 y+(t:Int)*e n y) ⟨u,?_⟩ k2 hk2
    exact ((hu.more).add (InR.row e (Nat.lt_succ_self n)) (t:Int)).cong fun y=>by grind
theorem red_red {N w:Nat} (x z:Vc):red N w (fun y=>red N w x y+z y)=red N w (fun y=>x y+z y):=by
  funext y
  unfold red
  by_cases hy:y<w
  · simp only [if_pos hy]
    rw [Int.emod_add_emod]
  · simp only [if_neg hy]
theorem red_self {N w:Nat} {v:Vc} (h:Rst N w v):red N w v=v:=by
  funext y
  unfold red
  by_cases hy:y<w
  · rw [if_pos hy];exact Int.emod_eq_of_lt ((h y).1 hy).1 ((h y).1 hy).2
  · rw [if_neg hy];exact ((h y).2 (by omega)).symm
theorem inm_zero {N w:Nat} (hN:0<N) {e:Tab} {v:Vc}:(Rst N w v∧InM N 0 e v)↔v=fun _=>0:=by
  constructor
  · rintro ⟨hr,u,a,ha⟩
    have h0:Rst N w (fun _=>0):=by
      intro y
      refine ⟨fun hy=>?_,fun _=>rfl⟩
      have:=(hr y).1 hy
      exact ⟨Int.le_refl _,by (first | lia | omega)⟩
    refine rst_eq hr h0 (fun y=>-(u y)) fun y _=>?_
    have:v y+(N:Int)*u y=0:=ha y
    rw [Int.mul_neg];omega
  · rintro rfl
    exact ⟨fun y=>⟨fun _=>⟨Int.le_refl _,by (first | lia | omega)⟩,fun _=>rfl⟩,fun _=>0,fun _=>0,fun y=>by simp [cmb]⟩
end E1
namespace X1
open PySem L2
def toCh (c:Bool×E1.RC):Ch:=match c.2 with
  | .add i j q=>.add c.1 i j q
  | .swap i j=>.swap c.1 i j
  | .turn i=>.turn c.1 i
section
variable {m n:Nat} {T U:Tb}
theorem ent_out_row (h:Rect m n T) {x:Nat} (hx:m≤x) (y:Nat):ent T x y=0:=by
  unfold ent
  have:T.getD x []=[]:=by
    have:T.length≤x:=by rw [h.1];exact hx
    simp [this]
  rw [this];rfl
theorem ent_out_col (h:Rect m n T) (x:Nat) {y:Nat} (hy:n≤y):ent T x y=0:=by
  by_cases hx:x<m
  · unfold ent
    have:(T.getD x []).length≤y:=by rw [h.row hx];exact hy
    simp only [List.getD_eq_getElem?_getD,List.getElem?_eq_none (by simpa only [List.getD_eq_getElem?_getD] using this)]
    rfl
  · exact ent_out_row h (by omega) y
theorem wide_ent (h:Rect m n T):E1.Wide (ent T) n:=fun x y hy=>ent_out_col h x hy
theorem toCh_ok {c:Bool×E1.RC} (h:E1.ok2 m n c):(toCh c).ok m n:=by
  obtain ⟨s,c⟩:=c
  cases c <;> cases s <;> exact h
theorem ent_toCh (h:Rect m n T) {c:Bool×E1.RC} (hc:E1.ok2 m n c):ent ((toCh c).app T)=E1.app2 c (ent T):=by
  have hr:=Ch.app_rect h (toCh_ok hc)
  funext x y
  obtain ⟨s,c⟩:=c
  by_cases hx:x<m
  · by_cases hy:y<n
    · cases s with
      | true =>
        cases c with
        | add i j q =>
          obtain ⟨h1,h2,h3⟩:=(show i<m∧j<m∧i≠j from hc)
          show ent ((Ch.add true i j q).app T) x y=E1.addR (ent T) i j q x y
          rw [ent_add_row h h1 h2 hy];rfl
        | swap i j =>
          obtain ⟨h1,h2,h3⟩:=(show i<m∧j<m∧i≠j from hc)
          show ent ((Ch.swap true i j).app T) x y=ent T (E1.sw i j x) y
          rw [ent_swap_row h h1 h2]
          unfold E1.sw
          by_cases e1:x=i
          · rw [if_pos e1,if_neg (by omega),if_pos e1]
          · by_cases e2:x=j
            · rw [if_pos e2,if_neg e1,if_pos e2]
            · rw [if_neg e2,if_neg e1,if_neg e1,if_neg e2]
        | turn i =>
          have h1:i<m:=hc
          show ent ((Ch.turn true i).app T) x y=E1.turnR (ent T) i x y
          rw [ent_turn_row h h1];rfl
      | false =>
        cases c with
        | add i j q =>
          obtain ⟨h1,h2,h3⟩:=(show i<n∧j<n∧i≠j from hc)
          show ent ((Ch.add false i j q).app T) x y=E1.addR (E1.tipT (ent T)) i j q y x
          rw [ent_add_col h h1 hx];rfl
        | swap i j =>
          obtain ⟨h1,h2,h3⟩:=(show i<n∧j<n∧i≠j from hc)
          show ent ((Ch.swap false i j).app T) x y=ent T x (E1.sw i j y)
          rw [ent_swap_col h h1 h2 hx]
          unfold E1.sw
          by_cases e1:y=i
          · rw [if_pos e1,if_neg (by omega),if_pos e1]
          · by_cases e2:y=j
            · rw [if_pos e2,if_neg e1,if_pos e2]
            · rw [if_neg e2,if_neg e1,if_neg e1,if_neg e2]
        | turn i =>
          have h1:i<n:=hc
          show ent ((Ch.turn false i).app T) x y=E1.turnR (E1.tipT (ent T)) i y x
          rw [ent_turn_col h h1 hx];rfl
    · rw [ent_out_col hr x (by omega)]
      have hz:∀x,ent T x y=0:=fun x=>ent_out_col h x (by omega)
      cases s with
      | true =>
        cases c with
        | add i j q=>show 0=E1.addR (ent T) i j q x y;unfold E1.addR;rw [hz,hz,hz];split <;> simp
        | swap i j=>exact (hz _).symm
        | turn i=>show 0=E1.turnR (ent T) i x y;unfold E1.turnR;rw [hz,hz];split <;> rfl
      | false =>
        cases c with
        | add i j q =>
          obtain ⟨h1,h2,h3⟩:=(show i<n∧j<n∧i≠j from hc)
          show 0=E1.addR (E1.tipT (ent T)) i j q y x
          unfold E1.addR;rw [if_neg (by omega)];exact (hz x).symm
        | swap i j =>
          obtain ⟨h1,h2,h3⟩:=(show i<n∧j<n∧i≠j from hc)
          show 0=ent T x (E1.sw i j y)
          unfold E1.sw;rw [if_neg (by omega),if_neg (by omega)];exact (hz x).symm
        | turn i =>
          have h1:i<n:=hc
          show 0=E1.turnR (E1.tipT (ent T)) i y x
          unfold E1.turnR;rw [if_neg (by omega)];exact (hz x).symm
  · rw [ent_out_row hr (by omega)]
    have hz:∀y,ent T x y=0:=fun y=>ent_out_row h (by omega) y
    cases s with
    | true =>
      cases c with
      | add i j q =>
        obtain ⟨h1,h2,h3⟩:=(show i<m∧j<m∧i≠j from hc)
        show 0=E1.addR (ent T) i j q x y
        unfold E1.addR;rw [if_neg (by omega)];exact (hz y).symm
      | swap i j =>
        obtain ⟨h1,h2,h3⟩:=(show i<m∧j<m∧i≠j from hc)
        show 0=ent T (E1.sw i j x) y
        unfold E1.sw;rw [if_neg (by omega),if_neg (by omega)];exact (hz y).symm
      | turn i =>
        have h1:i<m:=hc
        show 0=E1.turnR (ent T) i x y
        unfold E1.turnR;rw [if_neg (by omega)];exact (hz y).symm
    | false =>
      cases c with
      | add i j q=>show 0=E1.addR (E1.tipT (ent T)) i j q y x;unfold E1.addR E1.tipT;rw [hz,hz,hz];split <;> simp
      | swap i j=>exact (hz _).symm
      | turn i=>show 0=E1.turnR (E1.tipT (ent T)) i y x;unfold E1.turnR E1.tipT;rw [hz,hz];split <;> rfl
def tipB (n:Nat) (T:Tb):Tb:=(List.range n).map fun j=>T.map fun r=>r.getD j 0
theorem tipB_rect (h:Rect m n T):Rect n m (tipB n T):=by
  refine ⟨by simp [tipB],fun r hr=>?_⟩
  obtain ⟨j,_,rfl⟩:=List.mem_map.mp hr
  rw [List.length_map,h.1]
theorem ent_tipB (h:Rect m n T):ent (tipB n T)=E1.tipT (ent T):=by
  funext x y
  by_cases hx:x<n
  · by_cases hy:y<m
    · show ent (tipB n T) x y=ent T y x
      have hy':y<T.length:=by rw [h.1];exact hy
      unfold ent tipB
      simp [hx,hy']
    · rw [ent_out_col (tipB_rect h) x (by omega)]
      exact (ent_out_row h (by omega) x).symm
  · rw [ent_out_row (tipB_rect h) (by omega)]
    exact (ent_out_col h y (by omega)).symm
end
end X1
namespace X1
open PySem L2
theorem sc_q00:FnScope ["row","place","number"] ["row"] (defScope s_q00):=⟨rfl,rfl,rfl,by decide +kernel,rfl,by decide +kernel,by decide +kernel⟩
theorem sc_q01:FnScope ["walk","steps","low","top"] ["walk"] (defScope s_q01):=⟨rfl,rfl,rfl,by decide +kernel,rfl,by decide +kernel,by decide +kernel⟩
theorem sc_q02:FnScope ["walk","steps","low","top","place"] ["walk","steps","low"] (defScope s_q02):=⟨rfl,rfl,rfl,by decide +kernel,rfl,by decide +kernel,by decide +kernel⟩
theorem sc_q03:FnScope ["walk","steps","row","start","step"] ["walk","steps","row","start"] (defScope s_q03):=⟨rfl,rfl,rfl,by decide +kernel,rfl,by decide +kernel,by decide +kernel⟩
theorem sc_q04:FnScope ["walk","low","top","height","row"] ["walk","low","top","height"] (defScope s_q04):=⟨rfl,rfl,rfl,by decide +kernel,rfl,by decide +kernel,by decide +kernel⟩
theorem sc_q05:FnScope ["table","width","row"] ["table"] (defScope s_q05):=⟨rfl,rfl,rfl,by decide +kernel,rfl,by decide +kernel,by decide +kernel⟩
theorem sc_q06:FnScope ["table"] ["table"] (defScope s_q06):=⟨rfl,rfl,rfl,by decide +kernel,rfl,by decide +kernel,by decide +kernel⟩
theorem sc_q07:FnScope ["rows","change","one","many"] ["rows","change"] (defScope s_q07):=⟨rfl,rfl,rfl,by decide +kernel,rfl,by decide +kernel,by decide +kernel⟩
theorem sc_q08:FnScope ["parts","one","two","kept"] ["parts","one","two"] (defScope s_q08):=⟨rfl,rfl,rfl,by decide +kernel,rfl,by decide +kernel,by decide +kernel⟩
theorem sc_q09:FnScope ["rows","place"] ["rows","place"] (defScope s_q09):=⟨rfl,rfl,rfl,by decide +kernel,rfl,by decide +kernel,by decide +kernel⟩
theorem sc_q0a:FnScope ["table","walk"] ["table"] (defScope s_q0a):=⟨rfl,rfl,rfl,by decide +kernel,rfl,by decide +kernel,by decide +kernel⟩
theorem sc_q0b:FnScope ["table","rows"] ["table"] (defScope s_q0b):=⟨rfl,rfl,rfl,by decide +kernel,rfl,by decide +kernel,by decide +kernel⟩
theorem sc_q0c:FnScope ["rows"] ["rows"] (defScope s_q0c):=⟨rfl,rfl,rfl,by decide +kernel,rfl,by decide +kernel,by decide +kernel⟩
theorem sc_q0d:FnScope ["walk"] ["walk"] (defScope s_q0d):=⟨rfl,rfl,rfl,by decide +kernel,rfl,by decide +kernel,by decide +kernel⟩
theorem sc_q0e:FnScope ["rows","place","row","other","number"] ["rows"] (defScope s_q0e):=⟨rfl,rfl,rfl,by decide +kernel,rfl,by decide +kernel,by decide +kernel⟩
theorem sc_q0f:FnScope ["walk","length","one","two"] ["walk"] (defScope s_q0f):=⟨rfl,rfl,rfl,by decide +kernel,rfl,by decide +kernel,by decide +kernel⟩
theorem sc_q0g:FnScope ["walk","one","two"] ["walk","one","two"] (defScope s_q0g):=⟨rfl,rfl,rfl,by decide +kernel,rfl,by decide +kernel,by decide +kernel⟩
theorem sc_q0h:FnScope ["walk","place"] ["walk"] (defScope s_q0h):=⟨rfl,rfl,rfl,by decide +kernel,rfl,by decide +kernel,by decide +kernel⟩
theorem sc_q0i:FnScope ["table","number"] ["table","number"] (defScope s_q0i):=⟨rfl,rfl,rfl,by decide +kernel,rfl,by decide +kernel,by decide +kernel⟩
theorem sc_q0j:FnScope ["numbers","answer","number"] ["numbers"] (defScope s_q0j):=⟨rfl,rfl,rfl,by decide +kernel,rfl,by decide +kernel,by decide +kernel⟩
theorem sc_q0k:FnScope ["one","two","rest"] ["one","two"] (defScope s_q0k):=⟨rfl,rfl,rfl,by decide +kernel,rfl,by decide +kernel,by decide +kernel⟩
theorem sc_q0l:FnScope ["_law_found"] ["_law_found"] (defScope s_q0l):=⟨rfl,rfl,rfl,by decide +kernel,rfl,by decide +kernel,by decide +kernel⟩
theorem sc_q0m:FnScope ["_law_script","_law_k"] ["_law_script","_law_k"] (defScope s_q0m):=⟨rfl,rfl,rfl,by decide +kernel,rfl,by decide +kernel,by decide +kernel⟩
theorem sc_q0n:FnScope ["_law_found","_law_high","_law_wide","_law_row","_law_number"] ["_law_found","_law_high","_law_wide"] (defScope s_q0n):=⟨rfl,rfl,rfl,by decide +kernel,rfl,by decide +kernel,by decide +kernel⟩
theorem sc_q0o:FnScope ["_law_table"] ["_law_table"] (defScope s_q0o):=⟨rfl,rfl,rfl,by decide +kernel,rfl,by decide +kernel,by decide +kernel⟩
theorem sc_q0p:FnScope ["_law_table","_law_many"] ["_law_table","_law_many"] (defScope s_q0p):=⟨rfl,rfl,rfl,by decide +kernel,rfl,by decide +kernel,by decide +kernel⟩
theorem sc_q0q:FnScope ["_law_script","_law_first","_law_high","_law_wide","_law_table","_law_k","_law_row","_law_j","_law_cell","_law_entry"] ["_law_script","_law_first","_law_high","_law_wide"] (defScope s_q0q):=⟨rfl,rfl,rfl,by decide +kernel,rfl,by decide +kernel,by decide +kernel⟩
theorem sc_q0r:FnScope ["_law_table","_law_number","_law_seen","_law_row","_law_more","_law_rests","_law_here","_law_times"] ["_law_table","_law_number"] (defScope s_q0r):=⟨rfl,rfl,rfl,by decide +kernel,rfl,by decide +kernel,by decide +kernel⟩
theorem sc_q0s:FnScope ["_law_script","_law_high","_law_wide","_law_far","_law_table","_law_number","_law_handed","_law_found"] ["_law_script"] (defScope s_q0s):=⟨rfl,rfl,rfl,by decide +kernel,rfl,by decide +kernel,by decide +kernel⟩
theorem sc_q0t:FnScope ["self","table"] ["self","table"] (defScope s_q0t):=⟨rfl,rfl,rfl,by decide +kernel,rfl,by decide +kernel,by decide +kernel⟩
theorem sc_q0u:FnScope ["self"] ["self"] (defScope s_q0u):=⟨rfl,rfl,rfl,by decide +kernel,rfl,by decide +kernel,by decide +kernel⟩
theorem sc_q0v:FnScope ["self","change"] ["self","change"] (defScope s_q0v):=⟨rfl,rfl,rfl,by decide +kernel,rfl,by decide +kernel,by decide +kernel⟩
theorem sc_q0w:FnScope ["self","one","two","many"] ["self","one","two","many"] (defScope s_q0w):=⟨rfl,rfl,rfl,by decide +kernel,rfl,by decide +kernel,by decide +kernel⟩
theorem sc_q0x:FnScope ["self","one","two"] ["self","one","two"] (defScope s_q0x):=⟨rfl,rfl,rfl,by decide +kernel,rfl,by decide +kernel,by decide +kernel⟩
theorem sc_q0y:FnScope ["self","one"] ["self","one"] (defScope s_q0y):=⟨rfl,rfl,rfl,by decide +kernel,rfl,by decide +kernel,by decide +kernel⟩
theorem sc_q0z:FnScope ["self","one","two","place","number","part"] ["self","one","two","place"] (defScope s_q0z):=⟨rfl,rfl,rfl,by decide +kernel,rfl,by decide +kernel,by decide +kernel⟩
theorem sc_q10:FnScope ["self","top","low","place"] ["self","top","low","place"] (defScope s_q10):=⟨rfl,rfl,rfl,by decide +kernel,rfl,by decide +kernel,by decide +kernel⟩
def IsCh (H:Hp) (t:Addr) (c:Ch):Prop:=H t=some (.tup (chV c))
def IsChs (H:Hp) (l:Addr) (ts:List Addr) (cs:List Ch):Prop:=H l=some (.lst (ts.map V.ref))∧Paired (IsCh H) ts cs
theorem pimp {α β:Type} {F G:α→β→Prop}:∀{l:List α} {l':List β},Paired F l l'→(∀a b,F a b→G a b)→Paired G l l'
  | _,_,.nil,_=>.nil
  | _,_,.cons h t,f=>.cons (f _ _ h) (pimp t f)
theorem IsChs.same {H H':Hp} {l:Addr} {ts:List Addr} {cs:List Ch} (h:IsChs H l ts cs) (s:Same H H'):IsChs H' l ts cs :=
  ⟨s _ _ h.1,pimp h.2 fun _ _ e=>s _ _ e⟩
theorem pget {α β:Type} {F:α→β→Prop}:∀{l:List α} {l':List β} {i:Nat} {a:α},Paired F l l'→l[i]?=some a→∃b,l'[i]?=some b∧F a b
  | _,_,_,_,.nil,e=>by simp at e
  | _,_,0,_,.cons h _,e=>by simp at e;subst e;exact ⟨_,rfl,h⟩
  | _,_,i+1,a,.cons _ t,e=>by
    obtain ⟨b,h1,h2⟩:=pget (i:=i) (a:=a) t (by simpa using e)
    exact ⟨b,by simpa using h1,h2⟩
theorem mref {rs:List Addr} {i:Nat} {y:V} (h:(rs.map V.ref)[i]?=some y):∃r,rs[i]?=some r∧y=.ref r:=by
  rw [List.getElem?_map] at h
  cases e:rs[i]? with
  | none=>rw [e] at h;cases h
  | some r=>rw [e] at h;exact ⟨r,rfl,(Option.some.inj h).symm⟩
theorem mint {xs:List Int} {i:Nat} {y:V} (h:(xs.map V.int)[i]?=some y):∃r,xs[i]?=some r∧y=.int r:=by
  rw [List.getElem?_map] at h
  cases e:xs[i]? with
  | none=>rw [e] at h;cases h
  | some r=>rw [e] at h;exact ⟨r,rfl,(Option.some.inj h).symm⟩
theorem rget {rs:List Addr} {i:Nat} {r:Addr} (h:rs[i]?=some r):(rs.map V.ref)[i]?=some (.ref r):=by rw [List.getElem?_map,h];rfl
theorem iget {xs:List Int} {i:Nat} {x:Int} (h:xs[i]?=some x):(xs.map V.int)[i]?=some (.int x):=by rw [List.getElem?_map,h];rfl
theorem ixN_nat {n i:Nat} (h:i<n):ixN n (i:Int)=some i:=by
  unfold ixN
  rw [if_pos (Int.natCast_nonneg i),if_pos (by omega)]
  simp
inductive RowAt (H:Hp) (rs:List Addr) (T:Tb) (i n:Nat):Prop
  | mk (r:Addr) (_:rs[i]?=some r) (_:T[i]?=some (T.getD i [])) (_:IsRow H r (T.getD i [])) (_:(T.getD i []).length=n):RowAt H rs T i n
theorem _root_.L2.TabAt.at {H:Hp} {a:Addr} {rs:List Addr} {T:Tb} {m n i:Nat} (t:TabAt H a rs T) (hr:Rect m n T) (hi:i<m):RowAt H rs T i n:=by
  have hl:i<T.length:=by rw [hr.1];exact hi
  have e:T[i]?=some (T.getD i []):=by simp [hl]
  obtain ⟨r,h1,h2⟩:=t.tab.2.get e
  exact ⟨r,h1,e,h2,hr.row hi⟩
theorem _root_.L2.TabAt.len {H:Hp} {a:Addr} {rs:List Addr} {T:Tb} {m n:Nat} (t:TabAt H a rs T) (hr:Rect m n T):rs.length=m:=by rw [t.tab.2.length,hr.1]
theorem getD_some {row:List Int} {j n:Nat} (hl:row.length=n) (hj:j<n):row[j]?=some (row.getD j 0):=by
  have:j<row.length:=by omega
  simp [this]
theorem _root_.L2.TabAt.put {H H2:Hp} {a D:Addr} {rs:List Addr} {T:Tb} {i:Nat} {row:List Int} (t:TabAt H a rs T) (s:Same H H2) (hD:H2 D=none) :
    TabAt (upd (upd H2 D (.lst (row.map V.int))) a (.lst ((rs.map V.ref).set i (.ref D)))) a (rs.set i D) (T.set i row) ∧
    Stay H (upd (upd H2 D (.lst (row.map V.int))) a (.lst ((rs.map V.ref).set i (.ref D)))) (a::rs)∧∀b∈rs.set i D,b∈rs∨H b=none:=by
  have nd:=List.nodup_cons.mp t.nd
  have fD:H D=none:=s.free hD
  have hDa:D≠a:=(ne_of_none t.tab.1 fD).symm
  have hDr:D∉rs:=fun z=>by
    obtain ⟨row',e⟩:=t.tab.2.tracked D z
    rw [IsRow,fD] at e;cases e
  have hmem:∀b∈rs.set i D,b∈rs∨b=D:=fun b hb=>List.mem_or_eq_of_mem_set hb
  refine ⟨⟨⟨?_,?_⟩,?_⟩,fun b o e hb=>?_,fun b hb=>?_⟩
  · rw [upd_same,List.map_set]
  · have h1:IsRows (upd (upd H2 D (.lst (row.map V.int))) a (.lst ((rs.map V.ref).set i (.ref D)))) rs T:=t.tab.2.imp fun r hr o e=>by
      have hra:r≠a:=by rintro rfl;exact nd.1 hr
      have hrD:r≠D:=by rintro rfl;exact hDr hr
      rw [upd_ne hra,upd_ne hrD];exact s r o e
    refine h1.put ?_
    show upd _ a _ D=_
    rw [upd_ne hDa,upd_same]
  · refine List.nodup_cons.mpr ⟨fun z=>?_,?_⟩
    · rcases hmem a z with z | z
      · exact nd.1 z
      · exact hDa z.symm
    · exact (nodup_set nd.2 hDr)
  · have hba:b≠a:=fun z=>hb (by rw [z];exact List.mem_cons_self)
    rw [upd_ne hba,upd_ne (ne_of_none e fD)];exact s b o e
  · rcases hmem b hb with z | z
    · exact .inl z
    · exact .inr (by rw [z];exact fD)
where
  nodup_set:∀{rs:List Addr} {i:Nat} {D:Addr},rs.Nodup→D∉rs→(rs.set i D).Nodup
    | [],_,_,h,_=>h
    | r::rs,0,D,h,hD=>List.nodup_cons.mpr ⟨fun z=>hD (List.mem_cons_of_mem _ z),(List.nodup_cons.mp h).2⟩
    | r::rs,i+1,D,h,hD=>by
      refine List.nodup_cons.mpr ⟨fun z=>?_,nodup_set (List.nodup_cons.mp h).2 fun z=>hD (List.mem_cons_of_mem _ z)⟩
      rcases List.mem_or_eq_of_mem_set z with z | z
      · exact (List.nodup_cons.mp h).1 z
      · exact hD (by rw [z];exact List.mem_cons_self)
section
variable {P:Program} {w:World} {K:PySem.W.Frag} {mg:Str→Option Value} {base:Heap}
inductive SpSwap (vs:List V) (H:Hp) (Q:VK):Prop
  | mk (p:Addr) (xs:List V) (i j:Nat) (x y:V) (_:vs=[.ref p,.int i,.int j]) (_:H p=some (.lst xs)) (_:xs[i]?=some x) (_:xs[j]?=some y) (_:Q .non (upd H p (.lst ((xs.set i y).set j x)))):SpSwap vs H Q
def spSwap:Sp:=fun vs H Q _=>SpSwap vs H Q
theorem ok_q08 (D:DefAt K mg "swap_parts" s_q08 ["parts","one","two"]) (T:Bt mg):Callee P w K mg base 1 "swap_parts" ["parts","one","two"] spSwap:=by
  refine D.ok (k:=0) sc_q08 (fun vs H Q E h=>?_) (fun f cdv A outer s H vs Q E hr h=>?_)
  · obtain ⟨_,_,_,_,_,_,rfl,_⟩:=h
    rfl
  · obtain ⟨p,xs,i,j,x,y,rfl,hp,hx,hy,k⟩:=h
    refine ⟨_,(pss_cons (ps_set (i:=3) sc_q08.nd rfl (Or.inl rfl) (pe_ix ix_list (pv 0) (pv 1) (fun _ _=>rfl)))
        (pss_cons (ps_asg (pe_ix ix_list (pv 0) (pv 2) (fun _ _=>rfl)) (pg_sub (pv 0) (pv 1) set_list))
        (pss_one (ps_asg (pv 3) (pg_sub (pv 0) (pv 2) set_list))))),?_⟩
    have hi:i<xs.length:=(List.getElem?_eq_some_iff.mp hx).1
    have hj:j<xs.length:=(List.getElem?_eq_some_iff.mp hy).1
    refine ⟨_,rfl,_,rfl,p,xs,_,x,rfl,rfl,SqL.of hp,atI_nat hx,?_⟩
    refine ⟨_,rfl,_,rfl,p,xs,_,y,rfl,rfl,SqL.of hp,atI_nat hy,?_⟩
    refine ⟨_,rfl,_,rfl,p,xs,_,i,rfl,rfl,hp,ixN_nat hi,?_⟩
    refine ⟨_,rfl,_,rfl,_,rfl,p,_,_,j,rfl,rfl,upd_same,ixN_nat (by rw [List.length_set];exact hj),?_⟩
    rw [upd_upd]
    exact k
inductive SpRefT (vs:List V) (H:Hp) (Q:VK):Prop
  | mk (a:Addr) (rs:List Addr) (T:Tb) (m n:Nat) (_:vs=[.ref a]) (_:TabAt H a rs T) (_:Rect (m+1) (n+1) T) (_:Q .non H):SpRefT vs H Q
def spRefT:Sp:=fun vs H Q _=>SpRefT vs H Q
theorem ok_q05 (D:DefAt K mg "refuse_no_table" s_q05 ["table"]) (T:Bt mg):Callee P w K mg base 1 "refuse_no_table" ["table"] spRefT:=by
  refine D.ok (k:=0) sc_q05 (fun vs H Q E h=>?_) (fun f cdv A outer s H vs Q E hr h=>?_)
  · obtain ⟨_,_,_,_,_,rfl,_⟩:=h
    rfl
  · obtain ⟨a,rs,Tt,m,n,rfl,ht,hr',k⟩:=h
    refine ⟨_,(pss_cons (ps_if (pt_cmpR op_eq (pe_callB call_len_seq rfl T.len bt_len (pa_cons (pv 0) pa_nil)) pe_int (nomark _)) (pss_one ps_never) pss_nil)
        (pss_cons (ps_set (i:=1) sc_q05.nd rfl (Or.inl rfl) (pe_callB call_len_seq rfl T.len bt_len (pa_cons (pe_ix ix_list (pv 0) pe_int (fun _ _=>rfl)) pa_nil)))
        (pss_cons (ps_if (pt_cmpR op_eq (pv 1) pe_int (nomark _)) (pss_one ps_never) pss_nil)
        (pss_one (ps_for PassesOwn.never rfl (pi_list (pv 0)) (pg_name (i:=2) sc_q05.nd rfl (Or.inl rfl)) (pss_one (ps_if (pt_cmpR op_ne (pe_callB call_len_seq rfl T.len bt_len (pa_cons (pv 2) pa_nil)) (pv 1) (nomark _)) (pss_one ps_never) pss_nil))))))),?_⟩
    have hl:=ht.len hr'
    obtain ⟨r0,e0,_,hr0,hl0⟩:=ht.at hr' (Nat.succ_pos m)
    have h1:=ht.tab.1
    refine ⟨_,rfl,a,_,rfl,.inl (SqL.of h1),rfl,_,rfl,iteN (v_ne (by rw [List.length_map,hl];omega)) ?_⟩
    refine ⟨_,rfl,a,_,_,_,rfl,rfl,SqL.of h1,atI_nat (j:=0) (rget e0),r0,_,rfl,.inl (SqL.of hr0),?_⟩
    refine ⟨_,rfl,rfl,_,rfl,iteN (v_ne (by rw [List.length_map,hl0];omega)) ?_⟩
    refine ⟨_,rfl,a,rfl,⟨_,SqL.of h1⟩,for_list (K:=K) (a:=a) (xs:=rs.map V.ref) (fun i σ H2=>H2=H∧∃v,σ=[some (.ref a),some (.int (((Tt.getD 0 []).map V.int).length:Nat)),v]) ⟨rfl,none,rfl⟩ (fun i σ H2 _ h=>by rw [h.1];exact SqL.of h1) ?_ ?_⟩
    · rintro i y σ H2 hi ⟨rfl,v,rfl⟩
      obtain ⟨r,er,rfl⟩:=mref hi
      have him:i<m+1:=by rw [←hl];exact (List.getElem?_eq_some_iff.mp er).1
      obtain ⟨r',er',_,hrow,hlrow⟩:=ht.at hr' him
      rw [er] at er';cases er'
      refine ⟨_,rfl,r,_,rfl,.inl (SqL.of hrow),_,rfl,rfl,_,rfl,iteNS ?_ ?_⟩
      · rw [List.length_map,List.length_map,hlrow,hl0]
      · exact ⟨rfl,_,rfl⟩
    · rintro σ H2 ⟨rfl,_⟩
      exact k
inductive SpCopy (vs:List V) (H:Hp) (Q:VK):Prop
  | mk (a:Addr) (rs:List Addr) (T:Tb) (_:vs=[.ref a]) (_:TabAt H a rs T) (_:T.length≤1000) (_:∀(p:Addr) (qs:List Addr) (H':Hp),Same H H'→TabAt H' p qs T→(∀b∈p::qs,H b=none)→Q (.ref p) H'):SpCopy vs H Q
def spCopy:Sp:=fun vs H Q _=>SpCopy vs H Q
structure CopyAt (H H2:Hp) (qs:List Addr) (T:Tb):Prop where
  same:Same H H2
  rows:IsRows H2 qs T
  nd:qs.Nodup
  new:∀b∈qs,H b=none
theorem CopyAt.start (H:Hp):CopyAt H H [] []:=⟨Same.refl H,.nil,List.nodup_nil,fun _ h=>nomatch h⟩
theorem psnoc {α β:Type} {F:α→β→Prop} {a:α} {b:β}:∀{l:List α} {l':List β},Paired F l l'→F a b→Paired F (l++[a]) (l'++[b])
  | _,_,.nil,h=>.cons h .nil
  | _,_,.cons h t,h'=>.cons h (psnoc t h')
theorem CopyAt.more {H H2:Hp} {qs:List Addr} {T:Tb} {p:Addr} {row:List Int} (c:CopyAt H H2 qs T) (hp:H2 p=none):CopyAt H (upd H2 p (.lst (row.map V.int))) (qs++[p]) (T++[row]):=by
  have hq:p∉qs:=fun z=>by
    obtain ⟨r,e⟩:=c.rows.tracked p z
    rw [IsRow,hp] at e;cases e
  refine ⟨c.same.laid hp,psnoc (c.rows.imp fun r hr o e=>?_) upd_same,?_,fun b hb=>?_⟩
  · have:r≠p:=by rintro rfl;exact hq hr
    rw [upd_ne this];exact e
  · refine List.nodup_append.mpr ⟨c.nd,by simp,fun a ha b hb=>?_⟩
    have:b=p:=by simpa using hb
    subst this
    rintro rfl;exact hq ha
  · rcases List.mem_append.mp hb with z | z
    · exact c.new b z
    · have:b=p:=by simpa using z
      subst this
      exact c.same.free hp
theorem CopyAt.done {H H2:Hp} {qs:List Addr} {T:Tb} {p:Addr} (c:CopyAt H H2 qs T) (hp:H2 p=none):Same H (upd H2 p (.lst (qs.map V.ref)))∧TabAt (upd H2 p (.lst (qs.map V.ref))) p qs T∧∀b∈p::qs,H b=none:=by
  have hq:p∉qs:=fun z=>by
    obtain ⟨r,e⟩:=c.rows.tracked p z
    rw [IsRow,hp] at e;cases e
  refine ⟨c.same.laid hp,⟨⟨upd_same,c.rows.imp fun r hr o e=>?_⟩,List.nodup_cons.mpr ⟨hq,c.nd⟩⟩,fun b hb=>?_⟩
  · have:r≠p:=by rintro rfl;exact hq hr
    rw [upd_ne this];exact e
  · rcases List.mem_cons.mp hb with rfl | z
    · exact c.same.free hp
    · exact c.new b z
theorem ok_q06 (D:DefAt K mg "copied" s_q06 ["table"]) (T:Bt mg):Callee P w K mg base 1 "copied" ["table"] spCopy:=by
  refine D.ok (k:=0) sc_q06 (fun vs H Q E h=>?_) (fun f cdv A outer s H vs Q E hr h=>?_)
  · obtain ⟨_,_,_,rfl,_⟩:=h
    rfl
  · obtain ⟨a,rs,Tt,rfl,ht,hz,k⟩:=h
    refine ⟨_,(pss_one (ps_ret (pe_comp (N:=["row"]) (cap:=[]) (k:=1) (CompScope.mk' (defScope s_q06) ["table"] rfl rfl (by decide +kernel)) rfl (pi_list (pv 0)) (fun _ _ _ _=>(pg_name (i:=0) (show (["row"]:List Str).Nodup by decide +kernel) rfl (Or.inl rfl))) (fun _ _ _ _=>(pe_callTy (call_list_ofK (K:=K) rfl) rfl T.list bt_list (pa_cons (pv 0) pa_nil)))))),?_⟩
    have h1:=ht.tab.1
    have hlen:=ht.tab.2.length
    refine ⟨_,rfl,a,rfl,⟨_,SqL.of h1⟩,comp_list (K:=K) (a:=a) (xs:=rs.map V.ref) (fun i ys H2=>∃qs,ys=qs.map V.ref∧qs.length=i∧i≤Tt.length∧CopyAt H H2 qs (Tt.take i)) (by rw [List.length_map,hlen];exact Nat.le_trans hz (by decide)) ⟨[],rfl,rfl,Nat.zero_le _,by simpa using CopyAt.start H⟩ (fun i ys H2 ⟨qs,e,e2,_⟩=>by rw [e,List.length_map,e2]) (fun i ys H2 _ ⟨qs,_,_,_,c⟩=>SqL.of (c.same _ _ h1)) ?_ ?_⟩
    · rintro i x ys H2 hx ⟨qs,rfl,hq,hi,c⟩
      obtain ⟨r,er,rfl⟩:=mref hx
      obtain ⟨row,erow,hrow⟩:=pget ht.tab.2 er
      refine ⟨rfl,_,rfl,r,_,rfl,.inl (SqL.of (c.same _ _ hrow)),fun l hl=>?_⟩
      have hlt:i<Tt.length:=(List.getElem?_eq_some_iff.mp erow).1
      refine ⟨qs++[l],by rw [List.map_append];rfl,by rw [List.length_append,hq];rfl,hlt,?_⟩
      have e:Tt.take (i+1)=Tt.take i++[row]:=by rw [List.take_succ,erow];rfl
      rw [e]
      exact c.more hl
    · rintro ys H2 ⟨qs,rfl,hq,hi,c⟩ p hp
      rw [List.length_map,hlen,List.take_length] at c
      obtain ⟨q1,q2,q3⟩:=c.done hp
      exact k p qs _ q1 q2 q3
end
end X1
namespace X1
open PySem L2
theorem sd_row (s:Bool):decide (V.str (sd s)=V.str "row")=s:=by
  cases s
  · exact decide_eq_false (by decide +kernel)
  · exact decide_eq_true rfl
def Ch.word:Ch→Str
  | .add _ _ _ _ => "add"
  | .swap _ _ _ => "swap"
  | .turn _ _ => "turn"
theorem ne_swap_add:¬ V.str "swap" = V.str "add" := by decide +kernel
theorem ne_turn_add:¬ V.str "turn" = V.str "add" := by decide +kernel
theorem ne_turn_swap:¬ V.str "turn" = V.str "swap" := by decide +kernel
theorem swap_perm {rs:List Addr} {i j:Nat} {a b:Addr} (hi:rs[i]?=some a) (hj:rs[j]?=some b):((rs.set i b).set j a).Perm rs:=by
  obtain ⟨h1,e1⟩:=List.getElem?_eq_some_iff.mp hi
  obtain ⟨h2,e2⟩:=List.getElem?_eq_some_iff.mp hj
  subst e1 e2
  exact List.set_set_perm h1 h2
def Ch.rowd:Ch→Ch
  | .add _ i j q=>.add true i j q
  | .swap _ i j=>.swap true i j
  | .turn _ i=>.turn true i
def Ch.fits (B:Nat):Ch→Prop
  | .add _ _ _ q=>q.natAbs≤2^B
  | _=>True
theorem cell_of {T:Tb} {i j:Nat} {v:Int} (h:(T.getD i [])[j]?=some v):v=ent T i j:=by
  unfold ent
  rw [List.getD_eq_getElem?_getD (l:=T.getD i []),h];rfl
structure Fill (H H2:Hp) (l:Addr) (qs:List Addr) (T:Tb):Prop where
  same:Same H H2
  tab:TabAt H2 l qs T
  new:H l=none
theorem Fill.more {H H2 H3:Hp} {l r:Addr} {qs:List Addr} {T:Tb} {row:List Int} (md:Fill H H2 l qs T) (s:Same H2 H3) (hr:IsRow H3 r row) (hn:H2 r=none):Fill H (upd H3 l (.lst (qs.map V.ref++[.ref r]))) l (qs++[r]) (T++[row]):=by
  have nd:=List.nodup_cons.mp md.tab.nd
  have hrl:r≠l:=(ne_of_none md.tab.tab.1 hn).symm
  have hrq:r∉qs:=fun z=>by
    obtain ⟨w,e⟩:=md.tab.tab.2.tracked r z
    rw [IsRow,hn] at e;cases e
  refine ⟨fun b o e=>?_,⟨⟨?_,?_⟩,?_⟩,md.new⟩
  · have hb:b≠l:=fun z=>by rw [z,md.new] at e;cases e
    rw [upd_ne hb];exact s _ _ (md.same _ _ e)
  · rw [upd_same,List.map_append];rfl
  · refine psnoc (md.tab.tab.2.imp fun b hb o e=>?_) ?_
    · have hbl:b≠l:=by rintro rfl;exact nd.1 hb
      rw [upd_ne hbl];exact s _ _ e
    · show upd H3 l _ r=_
      rw [upd_ne hrl];exact hr
  · refine List.nodup_cons.mpr ⟨fun z=>?_,List.nodup_append.mpr ⟨nd.2,by simp,fun x hx y hy=>?_⟩⟩
    · rcases List.mem_append.mp z with z | z
      · exact nd.1 z
      · have e:l=r:=by simpa using z
        exact hrl e.symm
    · have:y=r:=by simpa using hy
      subst this
      rintro rfl;exact hrq hx
theorem Rect.snoc {m n:Nat} {T:Tb} {row:List Int} (h:Rect m n T) (hr:row.length=n):Rect (m+1) n (T++[row]) :=
  ⟨by rw [List.length_append,h.1];rfl,fun q hq=>by
    rcases List.mem_append.mp hq with z | z
    · exact h.2 q z
    · have:q=row:=by simpa using z
      rw [this];exact hr⟩
section
variable {P:Program} {w:World} {K:PySem.W.Frag} {mg:Str→Option Value} {base:Heap}
inductive SpRow (B:Nat) (vs:List V) (H:Hp) (Q:VK):Prop
  | mk (a t:Addr) (rs:List Addr) (T:Tb) (m n:Nat) (c:Ch) (_:vs=[.ref a,.ref t]) (_:TabAt H a rs T) (_:Rect m n T) (_:n≤1000) (_:IsCh H t c) (_:c.rowd.ok m n) (_:c.fits B) (_:E1.Le B (ent T)) (_:∀(qs:List Addr) (H':Hp),TabAt H' a qs (c.rowd.app T)→Stay H H' (a::rs)→(∀b∈qs,b∈rs∨H b=none)→Q .non H'):SpRow B vs H Q
def spRow (B:Nat):Sp:=fun vs H Q _=>SpRow B vs H Q
theorem take_zip {f:Int→Int→Int} {xs ys:List Int} {i:Nat} {x y:Int} (hx:xs[i]?=some x) (hy:ys[i]?=some y):(List.zipWith f xs ys).take (i+1)=(List.zipWith f xs ys).take i++[f x y]:=by
  rw [List.take_succ,List.getElem?_zipWith,hx,hy];rfl
theorem take_map {f:Int→Int} {xs:List Int} {i:Nat} {x:Int} (hx:xs[i]?=some x):(xs.map f).take (i+1)=(xs.map f).take i++[f x]:=by
  rw [List.take_succ,List.getElem?_map,hx];rfl
theorem ok_q07 {B:Nat} (hB:B≤33554432) (D:DefAt K mg "change_by_row" s_q07 ["rows","change"]) (T:Bt mg) (C_q08:Callee P w K mg base 1 "swap_parts" ["parts","one","two"] spSwap):Callee P w K mg base 2 "change_by_row" ["rows","change"] (spRow B):=by
  refine D.ok (k:=1) sc_q07 (fun vs H Q E h=>?_) (fun f cdv A outer s H vs Q E hr h=>?_)
  · obtain ⟨_,_,_,_,_,_,_,rfl,_⟩:=h
    rfl
  · obtain ⟨a,t,rs,Tt,m,n,c,rfl,ht,hr',hn,hc,hok,hsm,hle,k⟩:=h
    refine ⟨_,(pss_cons (ps_set (i:=2) sc_q07.nd rfl (Or.inl rfl) (pe_ix ix_tup (pv 1) pe_int (fun _ _=>rfl)))
        (pss_one (ps_if (pt_cmpR op_eq (pe_ix ix_tup (pv 1) pe_int (fun _ _=>rfl)) pe_str (nomark _)) (pss_cons (ps_set (i:=3) sc_q07.nd rfl (Or.inr rfl) (pe_ix ix_tup (pv 1) pe_int (fun _ _=>rfl)))
        (pss_one (ps_asg (pe_comp (N:=["many","number","other"]) (cap:=[3]) (k:=2) (CompScope.mk' (defScope s_q07) ["rows","change","one","many"] rfl rfl (by decide +kernel)) rfl (pi_zip rfl T.zip (pa_cons (pe_ix ix_list (pv 0) (pv 2) (fun _ _=>rfl)) (pa_cons (pe_ix ix_list (pv 0) (pe_ix ix_tup (pv 1) pe_int (fun _ _=>rfl)) (fun _ _=>rfl)) pa_nil))) (fun _ _ _ _=>(pg_tupK (K:=K) (n:=2) rfl rfl (pgs_cons (pg_name (i:=1) (show (["many","number","other"]:List Str).Nodup by decide +kernel) rfl (Or.inl rfl)) (pgs_cons (pg_name (i:=2) (show (["many","number","other"]:List Str).Nodup by decide +kernel) rfl (Or.inl rfl)) pgs_nil)))) (fun _ _ _ _=>(pe_op op_add (pv 1) (pe_op (op_mulB B hB) (pv 0) (pv 2))))) (pg_sub (pv 0) (pv 2) set_list)))) (pss_one (ps_if (pt_cmpR op_eq (pe_ix ix_tup (pv 1) pe_int (fun _ _=>rfl)) pe_str (nomark _)) (pss_one (ps_expr (pe_callC C_q08 (hr.mono (by decide)) rfl (pa_cons (pv 0) (pa_cons (pv 2) (pa_cons (pe_ix ix_tup (pv 1) pe_int (fun _ _=>rfl)) pa_nil)))))) (pss_one (ps_asg (pe_comp (N:=["number"]) (cap:=[]) (k:=1) (CompScope.mk' (defScope s_q07) ["rows","change","one","many"] rfl rfl (by decide +kernel)) rfl (pi_list (pe_ix ix_list (pv 0) (pv 2) (fun _ _=>rfl))) (fun _ _ _ _=>(pg_name (i:=0) (show (["number"]:List Str).Nodup by decide +kernel) rfl (Or.inl rfl))) (fun _ _ _ _=>(pe_un un_neg (pv 0)))) (pg_sub (pv 0) (pv 2) set_list)))))))),?_⟩
    have hl:=ht.len hr'
    have h1:=ht.tab.1
    cases c with
    | add sd i j q =>
      obtain ⟨hi,hj,hij⟩:=hok
      have hi:i<m:=hi
      have hj:j<m:=hj
      obtain ⟨ri,ei,_,hri,hli⟩:=ht.at hr' hi
      obtain ⟨rj,ej,_,hrj,hlj⟩:=ht.at hr' hj
      have hci:i<(rs.map V.ref).length:=by rw [List.length_map,hl];exact hi
      refine ⟨_,rfl,t,_,_,_,rfl,rfl,SqT.of hc,rfl,?_⟩
      refine ⟨_,rfl,t,_,_,_,rfl,rfl,SqT.of hc,rfl,rfl,_,rfl,iteP rfl ?_⟩
      refine ⟨_,rfl,t,_,_,_,rfl,rfl,SqT.of hc,rfl,?_⟩
      refine ⟨_,rfl,_,rfl,a,_,_,_,rfl,rfl,SqL.of h1,atI_nat (rget ei),_,rfl,_,rfl,t,_,_,_,rfl,rfl,SqT.of hc,rfl,a,_,_,_,rfl,rfl,SqL.of h1,atI_nat (rget ej),ri,rj,_,_,rfl,SqL.of hri,SqL.of hrj,?_⟩
      refine comp_it (J:=Itz K ri rj) (n:=n) (fun i' ys H2=>Same H H2∧i'≤n∧ys=((List.zipWith (fun x y=>x+q*y) (Tt.getD i []) (Tt.getD j [])).take i').map V.int) (Nat.le_trans hn (by decide)) ⟨Same.refl H,Nat.zero_le _,by simp⟩ (fun i' ys H2 ⟨_,hle,e⟩=>by rw [e,List.length_map,List.length_take,List.length_zipWith,hli,hlj];omega)
        (fun i' ys H2 hlt ⟨sm,_,_⟩=>⟨_,_,SqL.of (sm _ _ hri),SqL.of (sm _ _ hrj),by rw [List.length_map,hli];exact hlt,by rw [List.length_map,hlj];exact hlt⟩)
        (fun ys H2 ⟨sm,_,_⟩=>⟨_,_,SqL.of (sm _ _ hri),SqL.of (sm _ _ hrj),.inl (by rw [List.length_map,hli];exact Nat.le_refl _)⟩) ?_ ?_
      · rintro i' x ys H2 H3 hlt ⟨sm,_,rfl⟩ ⟨p,u,v,rfl,hp,rfl,hu,hv⟩
        have hu:=hu _ (SqL.of (sm _ _ hri))
        have hv:=hv _ (SqL.of (sm _ _ hrj))
        obtain ⟨u',eu,rfl⟩:=mint hu
        obtain ⟨v',ev,rfl⟩:=mint hv
        refine ⟨p,_,rfl,SqT.of upd_same,rfl,_,_,rfl,_,_,rfl,rfl,rfl,?_⟩
        refine ⟨_,rfl,_,rfl,_,rfl,_,_,rfl,rfl,⟨hsm,by rw [cell_of ev];exact hle j i'⟩,_,_,rfl,rfl,sm.laid hp,hlt,?_⟩
        rw [take_zip eu ev,List.map_append]
        rfl
      · rintro ys H2 ⟨sm,_,rfl⟩ p hp
        have e:(List.zipWith (fun x y=>x+q*y) (Tt.getD i []) (Tt.getD j [])).take n=List.zipWith (fun x y=>x+q*y) (Tt.getD i []) (Tt.getD j []):=List.take_of_length_le (by rw [List.length_zipWith,hli,hlj];omega)
        rw [e]
        have hpa:a≠p:=ne_of_none (sm _ _ h1) hp
        refine ⟨_,rfl,_,rfl,a,_,_,i,rfl,rfl,by rw [upd_ne hpa];exact sm _ _ h1,ixN_nat hci,?_⟩
        obtain ⟨q1,q2,q3⟩:=ht.put (i:=i) (row:=List.zipWith (fun x y=>x+q*y) (Tt.getD i []) (Tt.getD j [])) sm hp
        exact k _ _ q1 q2 q3
    | swap sd i j =>
      obtain ⟨hi,hj,hij⟩:=hok
      have hi:i<m:=hi
      have hj:j<m:=hj
      obtain ⟨ri,ei,ti,hri,hli⟩:=ht.at hr' hi
      obtain ⟨rj,ej,tj,hrj,hlj⟩:=ht.at hr' hj
      refine ⟨_,rfl,t,_,_,_,rfl,rfl,SqT.of hc,rfl,?_⟩
      refine ⟨_,rfl,t,_,_,_,rfl,rfl,SqT.of hc,rfl,rfl,_,rfl,iteN ne_swap_add ?_⟩
      refine ⟨_,rfl,t,_,_,_,rfl,rfl,SqT.of hc,rfl,rfl,_,rfl,iteP rfl ?_⟩
      refine ⟨_,rfl,_,rfl,_,rfl,t,_,_,_,rfl,rfl,SqT.of hc,rfl,a,_,i,j,_,_,rfl,h1,rget ei,rget ej,?_⟩
      have nd:=List.nodup_cons.mp ht.nd
      have eR:((rs.map V.ref).set i (.ref rj)).set j (.ref ri)=((rs.set i rj).set j ri).map V.ref:=by rw [List.map_set,List.map_set]
      have perm:((rs.set i rj).set j ri).Perm rs:=swap_perm ei ej
      have mem:∀b,b∈(rs.set i rj).set j ri↔b∈rs:=fun b=>perm.mem_iff
      refine k ((rs.set i rj).set j ri) _ ⟨⟨?_,?_⟩,?_⟩ (fun b o e hb=>?_) (fun b hb=>.inl ((mem b).mp hb))
      · rw [upd_same,eR]
      · refine (((ht.tab.2.put (i:=i) hrj).put (i:=j) hri)).imp fun r hrr o e=>?_
        have:r≠a:=by rintro rfl;exact nd.1 ((mem r).mp hrr)
        rw [upd_ne this];exact e
      · exact List.nodup_cons.mpr ⟨fun z=>nd.1 ((mem a).mp z),perm.nodup_iff.mpr nd.2⟩
      · rw [upd_ne (fun z=>hb (by rw [z];exact List.mem_cons_self))];exact e
    | turn sd i =>
      have hi:i<m:=hok
      obtain ⟨ri,ei,ti,hri,hli⟩:=ht.at hr' hi
      have hci:i<(rs.map V.ref).length:=by rw [List.length_map,hl];exact hi
      refine ⟨_,rfl,t,_,_,_,rfl,rfl,SqT.of hc,rfl,?_⟩
      refine ⟨_,rfl,t,_,_,_,rfl,rfl,SqT.of hc,rfl,rfl,_,rfl,iteN ne_turn_add ?_⟩
      refine ⟨_,rfl,t,_,_,_,rfl,rfl,SqT.of hc,rfl,rfl,_,rfl,iteN ne_turn_swap ?_⟩
      refine ⟨_,rfl,_,rfl,a,_,_,_,rfl,rfl,SqL.of h1,atI_nat (rget ei),ri,rfl,⟨_,SqL.of hri⟩,?_⟩
      refine comp_list (K:=K) (a:=ri) (xs:=(Tt.getD i []).map V.int) (fun i' ys H2=>H2=H∧i'≤n∧ys=(((Tt.getD i []).map fun x=>-x).take i').map V.int) (by rw [List.length_map,hli];exact Nat.le_trans hn (by decide)) ⟨rfl,Nat.zero_le _,by simp⟩ (fun i' ys H2 ⟨_,hle,e⟩=>by rw [e,List.length_map,List.length_take,List.length_map,hli];omega) (fun i' ys H2 _ ⟨e,_,_⟩=>by rw [e];exact SqL.of hri) ?_ ?_
      · rintro i' x ys H2 hx ⟨rfl,_,rfl⟩
        obtain ⟨u,eu,rfl⟩:=mint hx
        refine ⟨rfl,_,rfl,_,rfl,rfl,?_,?_⟩
        · have:=(List.getElem?_eq_some_iff.mp eu).1;omega
        · rw [take_map (f:=fun x=>-x) eu,List.map_append];rfl
      · rintro ys H2 ⟨rfl,_,rfl⟩ p hp
        have e:(((Tt.getD i []).map fun x=>-x).take ((Tt.getD i []).map V.int).length)=(Tt.getD i []).map fun x=>-x:=List.take_of_length_le (by rw [List.length_map,List.length_map];exact Nat.le_refl _)
        rw [e]
        have hpa:a≠p:=ne_of_none h1 hp
        refine ⟨_,rfl,_,rfl,a,_,_,i,rfl,rfl,by rw [upd_ne hpa];exact h1,ixN_nat hci,?_⟩
        obtain ⟨q1,q2,q3⟩:=ht.put (i:=i) (row:=(Tt.getD i []).map fun x=>-x) (Same.refl _) hp
        exact k _ _ q1 q2 q3
end
end X1
namespace X1
open PySem L2
theorem iteB {b:Bool} {A B:Prop} (hb:b=true) (h:A):if b=true then A else B:=by rw [hb];exact iteT h
theorem iteB0 {b:Bool} {A B:Prop} (hb:b=false) (h:B):if b=true then A else B:=by rw [hb];exact iteF h
theorem cut_all {xs:List V} (h:xs.length≤500):cutV xs none (some 500)=xs:=by
  have e:HT.sIx xs.length xs.length (some 500)=xs.length:=by
    have:=HT.sIx_nat xs.length xs.length 500
    rw [show ((500:Nat):Int)=(500:Int) from rfl] at this
    rw [this];omega
  unfold cutV
  rw [e,HT.sIx_none]
  simp
theorem sizeN (k:Nat) (hk:0<k) (x:Int):∃h:Nat,1+x % (k:Int)=((h+1:Nat):Int)∧h+1≤k:=by
  have h1:0≤x % (k:Int):=Int.emod_nonneg _ (by omega)
  have h2:x % (k:Int)<k:=Int.emod_lt_of_pos _ (by omega)
  obtain ⟨h,e⟩:=Int.eq_ofNat_of_zero_le h1
  exact ⟨h,by omega,by omega⟩
def Big (c:Nat) (T:Tb):Prop:=∀r∈T,∀x∈r,x.natAbs≤c
theorem Big.ent {c:Nat} {T:Tb} (h:Big c T) (x y:Nat):(ent T x y).natAbs≤c:=by
  unfold X1.ent
  rw [List.getD_eq_getElem?_getD,List.getD_eq_getElem?_getD]
  cases e:T[x]? with
  | none=>simp
  | some r =>
    simp only [Option.getD_some]
    cases e2:r[y]? with
    | none=>simp
    | some v=>exact h r (List.mem_of_getElem? e) v (List.mem_of_getElem? e2)
theorem Big.mono {c d:Nat} {T:Tb} (h:Big c T) (hd:c≤d):Big d T:=fun r hr x hx=>Nat.le_trans (h r hr x hx) hd
theorem Big.scaled {c:Nat} {T:Tb} {q:Int} (h:Big c T):Big (q.natAbs*c) (T.map fun r=>r.map fun x=>q*x):=fun r hr x hx=>by
  obtain ⟨r0,h0,rfl⟩:=List.mem_map.mp hr
  obtain ⟨x0,h1,rfl⟩:=List.mem_map.mp hx
  rw [Int.natAbs_mul]
  exact Nat.mul_le_mul_left _ (h r0 h0 x0 h1)
theorem Big.set {c:Nat} {T:Tb} {row:List Int} (h:Big c T) (hr:∀x∈row,x.natAbs≤c) (i:Nat):Big c (T.set i row):=fun r hm=>by
  rcases List.mem_or_eq_of_mem_set hm with z | z
  · exact h r z
  · rw [z];exact hr
theorem Rect.scaled {m n:Nat} {T:Tb} {q:Int} (h:Rect m n T):Rect m n (T.map fun r=>r.map fun x=>q*x):=h.map fun r hr=>by rw [List.length_map];exact hr
section
variable {P:Program} {w:World} {K:PySem.W.Frag} {mg:Str→Option Value} {base:Heap}
inductive SpWhole (vs:List V) (H:Hp) (Q:VK):Prop
  | mk (i:Int) (_:vs=[.int i]) (_:Q (.bl true) H):SpWhole vs H Q
def spWhole:Sp:=fun vs H Q _=>SpWhole vs H Q
theorem ok_q0l (D:DefAt K mg "_law_whole" s_q0l ["_law_found"]) (T:Bt mg):Callee P w K mg base 1 "_law_whole" ["_law_found"] spWhole:=by
  refine D.ok (k:=0) sc_q0l (fun vs H Q E h=>?_) (fun f cdv A outer s H vs Q E hr h=>?_)
  · obtain ⟨_,rfl,_⟩:=h
    rfl
  · obtain ⟨i,rfl,k⟩:=h
    refine ⟨_,(pss_one (ps_ret (pe_and (pe_callB call_isi rfl T.isinstance bt_isinstance (pa_cons (pv 0) (pa_cons (pe_bltn (v:=.ty "int") rfl T.int bt_int rfl) pa_nil))) (pe_one (pe_not (pe_callB call_isi rfl T.isinstance bt_isinstance (pa_cons (pv 0) (pa_cons (pe_bltn (v:=.ty "bool") rfl T.bool bt_bool rfl) pa_nil)))))))),?_⟩
    refine ⟨_,rfl,_,_,_,rfl,.int i,by simp,_,rfl,iteB (by decide) ?_⟩
    exact ⟨_,rfl,_,_,_,rfl,.int i,by simp,_,rfl,k⟩
inductive SpAt (K:PySem.W.Frag) (vs:List V) (H:Hp) (Q:VK):Prop
  | mk (a:Addr) (ns:List Int) (k:Nat) (_:vs=[.ref a,.int k]) (_:SqL K H a (ns.map V.int)) (_:Q (.int (ns.getD k 0)) H):SpAt K vs H Q
def spAt (K:PySem.W.Frag):Sp:=fun vs H Q _=>SpAt K vs H Q
theorem ok_q0m (D:DefAt K mg "_law_at" s_q0m ["_law_script","_law_k"]) (T:Bt mg):Callee P w K mg base 1 "_law_at" ["_law_script","_law_k"] (spAt K):=by
  refine D.ok (k:=0) sc_q0m (fun vs H Q E h=>?_) (fun f cdv A outer s H vs Q E hr h=>?_)
  · obtain ⟨_,_,_,rfl,_⟩:=h
    rfl
  · obtain ⟨a,ns,i,rfl,ha,k⟩:=h
    refine ⟨_,(pss_cons (ps_if (pt_cmpR op_lt (pv 1) (pe_callB call_len_seq rfl T.len bt_len (pa_cons (pv 0) pa_nil)) (nomark _)) (pss_one (ps_ret (pe_ix ix_list (pv 0) (pv 1) (fun _ _=>rfl)))) pss_nil)
        (pss_one (ps_ret pe_int))),?_⟩
    refine ⟨_,rfl,_,rfl,a,_,rfl,.inl ha,_,_,rfl,rfl,_,rfl,?_⟩
    rw [List.length_map]
    by_cases hi:i<ns.length
    · refine iteP (by omega) ⟨_,rfl,_,rfl,a,_,_,_,rfl,rfl,ha,atI_nat (iget (getD_some rfl hi)),k⟩
    · refine iteN (by omega) ?_
      have:ns.getD i 0=0:=by simp [Nat.not_lt.mp hi]
      rw [this] at k
      exact k
theorem ok_q0o (D:DefAt K mg "_law_copy" s_q0o ["_law_table"]) (T:Bt mg):Callee P w K mg base 1 "_law_copy" ["_law_table"] spCopy:=by
  refine D.ok (k:=0) sc_q0o (fun vs H Q E h=>?_) (fun f cdv A outer s H vs Q E hr h=>?_)
  · obtain ⟨_,_,_,rfl,_⟩:=h
    rfl
  · obtain ⟨a,rs,Tt,rfl,ht,hz,k⟩:=h
    refine ⟨_,(pss_one (ps_ret (pe_comp (N:=["_law_row"]) (cap:=[]) (k:=1) (CompScope.mk' (defScope s_q0o) ["_law_table"] rfl rfl (by decide +kernel)) rfl (pi_list (pv 0)) (fun _ _ _ _=>(pg_name (i:=0) (show (["_law_row"]:List Str).Nodup by decide +kernel) rfl (Or.inl rfl))) (fun _ _ _ _=>(pe_callTy (call_list_ofK (K:=K) rfl) rfl T.list bt_list (pa_cons (pv 0) pa_nil)))))),?_⟩
    have h1:=ht.tab.1
    have hlen:=ht.tab.2.length
    refine ⟨_,rfl,a,rfl,⟨_,SqL.of h1⟩,comp_list (K:=K) (a:=a) (xs:=rs.map V.ref) (fun i ys H2=>∃qs,ys=qs.map V.ref∧qs.length=i∧i≤Tt.length∧CopyAt H H2 qs (Tt.take i)) (by rw [List.length_map,hlen];exact Nat.le_trans hz (by decide)) ⟨[],rfl,rfl,Nat.zero_le _,by simpa using CopyAt.start H⟩ (fun i ys H2 ⟨qs,e,e2,_⟩=>by rw [e,List.length_map,e2]) (fun i ys H2 _ ⟨qs,_,_,_,c⟩=>SqL.of (c.same _ _ h1)) ?_ ?_⟩
    · rintro i x ys H2 hx ⟨qs,rfl,hq,hi,c⟩
      obtain ⟨r,er,rfl⟩:=mref hx
      obtain ⟨row,erow,hrow⟩:=pget ht.tab.2 er
      refine ⟨rfl,_,rfl,r,_,rfl,.inl (SqL.of (c.same _ _ hrow)),fun l hl=>?_⟩
      have hlt:i<Tt.length:=(List.getElem?_eq_some_iff.mp erow).1
      refine ⟨qs++[l],by rw [List.map_append];rfl,by rw [List.length_append,hq];rfl,hlt,?_⟩
      have e:Tt.take (i+1)=Tt.take i++[row]:=by rw [List.take_succ,erow];rfl
      rw [e]
      exact c.more hl
    · rintro ys H2 ⟨qs,rfl,hq,hi,c⟩ p hp
      rw [List.length_map,hlen,List.take_length] at c
      obtain ⟨q1,q2,q3⟩:=c.done hp
      exact k p qs _ q1 q2 q3
end
end X1
namespace X1
open PySem L2
section
variable {P:Program} {w:World} {K:PySem.W.Frag} {mg:Str→Option Value} {base:Heap}
inductive SpIsT (vs:List V) (H:Hp) (Q:VK):Prop
  | mk (a:Addr) (rs:List Addr) (T:Tb) (m n:Nat) (_:vs=[.ref a,.int m,.int n]) (_:TabAt H a rs T) (_:Rect m n T) (_:Q (.bl true) H):SpIsT vs H Q
def spIsT:Sp:=fun vs H Q _=>SpIsT vs H Q
theorem ok_q0n (D:DefAt K mg "_law_is_table" s_q0n ["_law_found","_law_high","_law_wide"]) (T:Bt mg) (C_q0l:Callee P w K mg base 1 "_law_whole" ["_law_found"] spWhole):Callee P w K mg base 2 "_law_is_table" ["_law_found","_law_high","_law_wide"] spIsT:=by
  refine D.ok (k:=1) sc_q0n (fun vs H Q E h=>?_) (fun f cdv A outer s H vs Q E hr h=>?_)
  · obtain ⟨_,_,_,_,_,rfl,_⟩:=h
    rfl
  · obtain ⟨a,rs,Tt,m,n,rfl,ht,hr',k⟩:=h
    refine ⟨_,(pss_cons (ps_if (PW.pt (pw_or (pt_not (pt_val (pe_callB call_isi rfl T.isinstance bt_isinstance (pa_cons (pv 0) (pa_cons (pe_bltn (v:=.ty "list") rfl T.list bt_list rfl) pa_nil))))) (pw_or1 (pt_cmpR op_ne (pe_callB call_len_seq rfl T.len bt_len (pa_cons (pv 0) pa_nil)) (pv 1) (nomark _))))) (pss_one (ps_ret pe_bl)) pss_nil)
        (pss_cons (ps_for PassesOwn.never rfl (pi_list (pv 0)) (pg_name (i:=3) sc_q0n.nd rfl (Or.inl rfl)) (pss_cons (ps_if (PW.pt (pw_or (pt_not (pt_val (pe_callB call_isi rfl T.isinstance bt_isinstance (pa_cons (pv 3) (pa_cons (pe_bltn (v:=.ty "list") rfl T.list bt_list rfl) pa_nil))))) (pw_or1 (pt_cmpR op_ne (pe_callB call_len_seq rfl T.len bt_len (pa_cons (pv 3) pa_nil)) (pv 2) (nomark _))))) (pss_one (ps_ret pe_bl)) pss_nil)
        (pss_one (ps_for PassesOwn.never rfl (pi_list (pv 3)) (pg_name (i:=4) sc_q0n.nd rfl (Or.inl rfl)) (pss_one (ps_if (pt_not (pt_val (pe_callC C_q0l (hr.mono (by decide)) rfl (pa_cons (pv 4) pa_nil)))) (pss_one (ps_ret pe_bl)) pss_nil))))))
        (pss_one (ps_ret pe_bl)))),?_⟩
    have h1:=ht.tab.1
    have hl:=ht.len hr'
    refine ⟨_,rfl,_,_,_,rfl,.lst h1,by simp,_,rfl,iteB0 (by decide) ⟨_,rfl,a,_,rfl,.inl (SqL.of h1),_,rfl,rfl,_,rfl,iteNS (by rw [List.length_map,hl]) ?_⟩⟩
    refine ⟨_,rfl,a,rfl,⟨_,SqL.of h1⟩,for_list (K:=K) (a:=a) (xs:=rs.map V.ref) (fun i σ H2=>H2=H∧∃v v',σ=[some (.ref a),some (.int m),some (.int n),v,v']) ⟨rfl,none,none,rfl⟩ (fun i σ H2 _ h=>by rw [h.1];exact SqL.of h1) ?_ ?_⟩
    · rintro i y σ H2 hi ⟨rfl,v,v',rfl⟩
      obtain ⟨r,er,rfl⟩:=mref hi
      obtain ⟨row,erow,hrow⟩:=pget ht.tab.2 er
      have hlr:row.length=n:=hr'.2 row (List.mem_of_getElem? erow)
      refine ⟨_,rfl,_,_,_,rfl,.lst hrow,by simp,_,rfl,iteB0 (by decide) ⟨_,rfl,r,_,rfl,.inl (SqL.of hrow),_,rfl,rfl,_,rfl,iteNS (by rw [List.length_map,hlr]) ?_⟩⟩
      refine ⟨_,rfl,r,rfl,⟨_,SqL.of hrow⟩,for_list (K:=K) (a:=r) (xs:=row.map V.int) (fun j σ H3=>H3=H2∧∃v,σ=[some (.ref a),some (.int m),some (.int n),some (.ref r),v]) ⟨rfl,v',rfl⟩ (fun j σ H3 _ h=>by rw [h.1];exact SqL.of hrow) ?_ ?_⟩
      · rintro j z σ H3 hj ⟨rfl,v2,rfl⟩
        obtain ⟨u,eu,rfl⟩:=mint hj
        exact ⟨_,rfl,u,rfl,_,rfl,iteF ⟨rfl,_,rfl⟩⟩
      · rintro σ H3 ⟨rfl,v2,rfl⟩
        exact ⟨rfl,_,_,rfl⟩
    · rintro σ H2 ⟨rfl,_⟩
      exact k
end
end X1
namespace X1
open PySem L2
theorem at_sign (x:Int):∃v:Int,atI [V.int 1,V.int (-1)] (x % 2)=some (.int v)∧v.natAbs=1:=by
  have h1:0≤x % 2:=Int.emod_nonneg _ (by decide)
  have h2:x % 2<2:=Int.emod_lt_of_pos _ (by decide)
  have:x % 2=0∨x % 2=1:=by omega
  rcases this with h | h
  · exact ⟨1,by rw [h];rfl,rfl⟩
  · exact ⟨-1,by rw [h];rfl,rfl⟩
section
variable {P:Program} {w:World} {K:PySem.W.Frag} {mg:Str→Option Value} {base:Heap}
inductive SpTabBy (K:PySem.W.Frag) (vs:List V) (H:Hp) (Q:VK):Prop
  | mk (a:Addr) (ns:List Int) (f m n:Nat) (_:vs=[.ref a,.int f,.int m,.int n]) (_:SqL K H a (ns.map V.int)) (_:m≤1000) (_:n≤1000) (_:∀(p:Addr) (qs:List Addr) (T:Tb) (H':Hp),Same H H'→TabAt H' p qs T→(∀b∈p::qs,H b=none)→Rect m n T→Big (10^12) T→Q (.ref p) H'):SpTabBy K vs H Q
def spTabBy (K:PySem.W.Frag):Sp:=fun vs H Q _=>SpTabBy K vs H Q
set_option maxHeartbeats 4000000 in
theorem ok_q0q (D:DefAt K mg "_law_table_by" s_q0q ["_law_script","_law_first","_law_high","_law_wide"]) (T:Bt mg) (C_q0m:Callee P w K mg base 1 "_law_at" ["_law_script","_law_k"] (spAt K)):Callee P w K mg base 2 "_law_table_by" ["_law_script","_law_first","_law_high","_law_wide"] (spTabBy K):=by
  refine D.ok (k:=1) sc_q0q (fun vs H Q E h=>?_) (fun f cdv A outer s H vs Q E hr h=>?_)
  · obtain ⟨_,_,_,_,_,rfl,_⟩:=h
    rfl
  · obtain ⟨a,ns,fi,m,n,rfl,ha,hm,hn,k⟩:=h
    refine ⟨_,(pss_cons (ps_set (i:=4) sc_q0q.nd rfl (Or.inl rfl) (pe_lst pa_nil))
        (pss_cons (ps_for PassesOwn.never rfl (pi_range1 rfl T.range (pa_cons (pv 2) pa_nil)) (pg_name (i:=5) sc_q0q.nd rfl (Or.inl rfl)) (pss_cons (ps_set (i:=6) sc_q0q.nd rfl (Or.inl rfl) (pe_lst pa_nil))
        (pss_cons (ps_for PassesOwn.never rfl (pi_range1 rfl T.range (pa_cons (pv 3) pa_nil)) (pg_name (i:=7) sc_q0q.nd rfl (Or.inl rfl)) (pss_cons (ps_set (i:=8) sc_q0q.nd rfl (Or.inl rfl) (pe_callC C_q0m (hr.mono (by decide)) rfl (pa_cons (pv 0) (pa_cons (pe_op op_add (pe_op op_add (pv 1) (pe_op op_mul (pv 5) (pv 3))) (pv 7)) pa_nil))))
        (pss_cons (ps_set (i:=9) sc_q0q.nd rfl (Or.inl rfl) (pe_op op_sub (pe_op op_mod (pe_op op_add (pe_op op_add (pv 8) (pe_op op_mul pe_int (pv 5))) (pe_op op_mul pe_int (pv 7))) pe_int) pe_int))
        (pss_cons (ps_if (pt_cmpR op_eq (pe_op op_mod (pv 8) pe_int) pe_int (nomark _)) (pss_one (ps_set (i:=9) sc_q0q.nd rfl (Or.inl rfl) (pe_op op_mul (pe_op op_mod (pe_op op_fdiv (pv 8) pe_int) (pe_op op_pow pe_int pe_int)) (pe_ix ix_list (pe_lst (pa_cons pe_int (pa_cons (pe_un un_neg pe_int) pa_nil))) (pe_op op_mod (pe_op op_add (pv 5) (pv 7)) pe_int) (fun _ _=>rfl))))) pss_nil)
        (pss_one (ps_expr (pe_bm PySem.F.plainAttrs_list PySem.F.slot_list_append PySem.F.type_list_append mt_append (pv 6) (pa_cons (pv 9) pa_nil))))))))
        (pss_one (ps_expr (pe_bm PySem.F.plainAttrs_list PySem.F.slot_list_append PySem.F.type_list_append mt_append (pv 4) (pa_cons (pv 6) pa_nil)))))))
        (pss_one (ps_ret (pv 4))))),?_⟩
    refine ⟨Nat.zero_le _,fun l hl=>?_⟩
    have s1:Same H (upd H l (.lst [])):=same_upd hl
    refine ⟨_,rfl,_,rfl,by omega,by omega,for_range0 (fun i σ H2=>∃(qs:List Addr) (Tt:Tb) (v5 v6 v7 v8 v9:Option V),σ=[some (.ref a),some (.int fi),some (.int m),some (.int n),some (.ref l),v5,v6,v7,v8,v9]∧Fill H H2 l qs Tt∧Rect i n Tt∧Big (10^12) Tt∧(∀b∈qs,H b=none)) ⟨[],[],none,none,none,none,none,rfl,⟨s1,⟨⟨upd_same,.nil⟩,by simp⟩,hl⟩,⟨rfl,(fun _ h=>nomatch h)⟩,(fun _ h=>nomatch h),(fun _ h=>nomatch h)⟩ ?_ ?_⟩
    · rintro i σ H2 hi ⟨qs,Tt,v5,v6,v7,v8,v9,rfl,md,hrt,hbig,hnew⟩
      have hi':i<m:=by simpa using hi
      refine ⟨Nat.zero_le _,fun r hrn=>?_⟩
      have s2:Same H2 (upd H2 r (.lst [])):=same_upd hrn
      refine ⟨_,rfl,_,rfl,by omega,by omega,for_range0 (fun j σ H3=>∃(zs:List Int) (v7 v8 v9:Option V),σ=[some (.ref a),some (.int fi),some (.int m),some (.int n),some (.ref l),some (.int i),some (.ref r),v7,v8,v9]∧Same H2 H3∧H3 r=some (.lst (zs.map V.int))∧zs.length=j∧∀x∈zs,x.natAbs≤10^12) ⟨[],v7,v8,v9,rfl,s2,upd_same,rfl,(fun _ h=>nomatch h)⟩ ?_ ?_⟩
      · rintro j σ H3 hj ⟨zs,v7,v8,v9,rfl,s3,hr3,hlz,hzb⟩
        have hj':j<n:=by simpa using hj
        have ha3:=(md.same.trans s3).seq ha
        have i64:-(2^64)<(i:Int)∧(i:Int)<2^64:=⟨by omega,by omega⟩
        refine ⟨_,rfl,_,rfl,_,rfl,_,rfl,_,_,rfl,rfl,.inl i64,_,_,rfl,rfl,_,rfl,_,_,rfl,rfl,a,ns,fi+i*n+j,?_,ha3,?_⟩
        · show [V.ref a,V.int ((fi:Int)+(i:Int)*(n:Int)+(j:Int))]=[V.ref a,V.int ((fi+i*n+j:Nat):Int)]
          push_cast
          rfl
        generalize ns.getD (fi+i*n+j) 0=cell
        have hzl:(zs.map V.int).length<sizeLine:=by rw [List.length_map,hlz];exact Nat.lt_of_lt_of_le (by omega:j<2000) (by decide)
        have fin:∀(e:Int) (H4:Hp),Same H3 H4→e.natAbs≤10^12→∃(zs':List Int) (v7 v8 v9:Option V),([some (.ref a),some (.int fi),some (.int m),some (.int n),some (.ref l),some (.int i),some (.ref r),some (.int (j:Nat)),some (.int cell),some (.int e)]:St)=[some (.ref a),some (.int fi),some (.int m),some (.int n),some (.ref l),some (.int i),some (.ref r),v7,v8,v9]∧Same H2 (upd H4 r (.lst (zs.map V.int++[.int e])))∧(upd H4 r (.lst (zs.map V.int++[.int e]))) r=some (.lst (zs'.map V.int))∧zs'.length=j+1∧∀x∈zs',x.natAbs≤10^12:=fun e H4 s4 he=>by
          refine ⟨zs++[e],_,_,_,rfl,fun b o q=>?_,by rw [upd_same,List.map_append];rfl,by rw [List.length_append,hlz];rfl,fun x hx=>?_⟩
          · rw [upd_ne (ne_of_none q hrn)]
            exact s4 _ _ (s3 _ _ q)
          · rcases List.mem_append.mp hx with z | z
            · exact hzb x z
            · have:x=e:=by simpa using z
              rw [this];exact he
        refine ⟨_,rfl,_,rfl,_,_,rfl,rfl,.inl ⟨by decide,by decide⟩,_,_,rfl,rfl,_,rfl,_,_,rfl,rfl,.inl ⟨by decide,by decide⟩,_,_,rfl,rfl,_,_,rfl,rfl,(by show (0:Int)<23;decide),_,_,rfl,rfl,?_⟩
        refine ⟨_,rfl,_,_,rfl,rfl,(by show (0:Int)<9;decide),rfl,_,rfl,?_⟩
        by_cases h4:cell % 9=4
        · refine iteP (congrArg V.int h4) ?_
          have p12:(0:Int)<(10:Int)^((12:Int).toNat):=by decide
          have c0:0≤(cell / 9) % ((10:Int)^((12:Int).toNat)):=Int.emod_nonneg _ (by decide)
          have c1:(cell / 9) % ((10:Int)^((12:Int).toNat))<(10:Int)^((12:Int).toNat):=Int.emod_lt_of_pos _ p12
          have c2:(10:Int)^((12:Int).toNat)<2^64:=by decide
          obtain ⟨sg,hsg,hsg1⟩:=at_sign ((i:Int)+(j:Int))
          refine ⟨_,rfl,_,_,rfl,rfl,⟨by decide,by decide⟩,_,_,rfl,rfl,⟨by decide,by decide,by decide⟩,_,_,rfl,rfl,p12,_,rfl,by show 2≤sizeLine;decide,fun p4 hp4=>?_⟩
          have s4:Same H3 (upd H3 p4 (.lst [V.int 1,V.int (-1)])):=same_upd hp4
          refine ⟨_,rfl,_,rfl,_,_,rfl,rfl,_,_,rfl,rfl,(by show (0:Int)<2;decide),p4,_,_,_,rfl,rfl,SqL.of upd_same,hsg,_,_,rfl,rfl,.inl ⟨by omega,by omega⟩,?_⟩
          refine ⟨_,rfl,.inl ⟨rfl,_,SqL.of (s4 _ _ hr3)⟩,_,rfl,r,_,_,rfl,rfl,s4 _ _ hr3,hzl,?_⟩
          refine fin _ _ s4 ?_
          show ((cell / 9) % ((10:Int)^((12:Int).toNat))*sg).natAbs≤10^12
          rw [Int.natAbs_mul,hsg1,Nat.mul_one]
          have c3:(10:Int)^((12:Int).toNat)=1000000000000:=by decide
          rw [c3] at c0 c1 ⊢
          omega
        · refine iteN (v_ne h4) ?_
          refine ⟨_,rfl,.inl ⟨rfl,_,SqL.of hr3⟩,_,rfl,r,_,_,rfl,rfl,hr3,hzl,?_⟩
          refine fin _ _ (Same.refl _) ?_
          show ((cell+5*(i:Int)+3*(j:Int)) % 23 - 11).natAbs≤10^12
          omega
      · rintro σ H3 ⟨zs,v7,v8,v9,rfl,s3,hr3,hlz,hzb⟩
        have hlz':zs.length=n:=by rw [hlz];simp
        have hzl:(qs.map V.ref).length<sizeLine:=by rw [List.length_map,md.tab.len hrt];exact Nat.lt_of_lt_of_le (by omega:i<2000) (by decide)
        refine ⟨_,rfl,.inl ⟨rfl,_,SqL.of (s3 _ _ md.tab.tab.1)⟩,_,rfl,l,_,_,rfl,rfl,s3 _ _ md.tab.tab.1,hzl,?_⟩
        refine ⟨qs++[r],Tt++[zs],_,_,_,_,_,rfl,md.more s3 hr3 hrn,hrt.snoc hlz',fun q hq=>?_,fun b hb=>?_⟩
        · rcases List.mem_append.mp hq with z | z
          · exact hbig q z
          · have:q=zs:=by simpa using z
            rw [this];exact hzb
        · rcases List.mem_append.mp hb with z | z
          · exact hnew b z
          · have:b=r:=by simpa using z
            rw [this];exact md.same.free hrn
    · rintro σ H2 ⟨qs,Tt,v5,v6,v7,v8,v9,rfl,md,hrt,hbig,hnew⟩
      have e:((m:Nat):Int).toNat=m:=by simp
      rw [e] at hrt
      refine ⟨_,rfl,k l qs Tt H2 md.same md.tab (fun b hb=>?_) hrt hbig⟩
      rcases List.mem_cons.mp hb with z | z
      · rw [z];exact hl
      · exact hnew b z
inductive SpScaled (vs:List V) (H:Hp) (Q:VK):Prop
  | mk (a:Addr) (rs:List Addr) (T:Tb) (q:Int) (m n:Nat) (_:vs=[.ref a,.int q]) (_:TabAt H a rs T) (_:Rect m n T) (_:m≤1000) (_:n≤1000) (_:(-(2^64)<q∧q<2^64)) (_:∀(p:Addr) (qs:List Addr) (H':Hp),Same H H'→TabAt H' p qs (T.map fun r=>r.map fun x=>q*x)→(∀b∈p::qs,H b=none)→Q (.ref p) H'):SpScaled vs H Q
def spScaled:Sp:=fun vs H Q _=>SpScaled vs H Q
theorem ok_q0p (D:DefAt K mg "_law_scaled" s_q0p ["_law_table","_law_many"]) (T:Bt mg):Callee P w K mg base 1 "_law_scaled" ["_law_table","_law_many"] spScaled:=by
  refine D.ok (k:=0) sc_q0p (fun vs H Q E h=>?_) (fun f cdv A outer s H vs Q E hr h=>?_)
  · obtain ⟨_,_,_,_,_,_,rfl,_⟩:=h
    rfl
  · obtain ⟨a,rs,Tt,q,m,n,rfl,ht,hr',hm,hn,hq64,k⟩:=h
    refine ⟨_,(pss_one (ps_ret (pe_comp (N:=["_law_many","_law_row"]) (cap:=[1]) (k:=1) (CompScope.mk' (defScope s_q0p) ["_law_table","_law_many"] rfl rfl (by decide +kernel)) rfl (pi_list (pv 0)) (fun _ _ _ _=>(pg_name (i:=1) (show (["_law_many","_law_row"]:List Str).Nodup by decide +kernel) rfl (Or.inl rfl))) (fun _ _ _ _=>(pe_comp (N:=["_law_many","_law_number"]) (cap:=[0]) (k:=1) (CompScope.mk' (relabelS _ (defScope s_q0p)) ["_law_many","_law_row"] rfl rfl (by decide +kernel)) rfl (pi_listK (K:=K) rfl (pv 1)) (fun _ _ _ _=>(pg_name (i:=1) (show (["_law_many","_law_number"]:List Str).Nodup by decide +kernel) rfl (Or.inl rfl))) (fun _ _ _ _=>(pe_op op_mul (pv 0) (pv 1)))))))),?_⟩
    have h1:=ht.tab.1
    have hlen:=ht.tab.2.length
    refine ⟨_,rfl,a,rfl,⟨_,SqL.of h1⟩,comp_list (K:=K) (a:=a) (xs:=rs.map V.ref) (fun i ys H2=>∃qs,ys=qs.map V.ref∧qs.length=i∧i≤Tt.length∧CopyAt H H2 qs ((Tt.map fun r=>r.map fun x=>q*x).take i)) (by rw [List.length_map,hlen,hr'.1];exact Nat.le_trans hm (by decide)) ⟨[],rfl,rfl,Nat.zero_le _,by simpa using CopyAt.start H⟩ (fun i ys H2 ⟨qs,e,e2,_⟩=>by rw [e,List.length_map,e2]) (fun i ys H2 _ ⟨qs,_,_,_,c⟩=>SqL.of (c.same _ _ h1)) ?_ ?_⟩
    · rintro i x ys H2 hx ⟨qs,rfl,hq,hi,c⟩
      obtain ⟨r,er,rfl⟩:=mref hx
      obtain ⟨row,erow,hrow⟩:=pget ht.tab.2 er
      have hlt:i<Tt.length:=(List.getElem?_eq_some_iff.mp erow).1
      have hlr:row.length=n:=hr'.2 row (List.mem_of_getElem? erow)
      have hr2:=c.same _ _ hrow
      refine ⟨rfl,_,rfl,r,rfl,⟨_,SqL.of hr2⟩,comp_list (K:=K) (a:=r) (xs:=row.map V.int) (fun j zs H3=>H3=H2∧j≤n∧zs=((row.map fun x=>q*x).take j).map V.int) (by rw [List.length_map,hlr];exact Nat.le_trans hn (by decide)) ⟨rfl,Nat.zero_le _,by simp⟩ (fun j zs H3 ⟨_,hle,e⟩=>by rw [e,List.length_map,List.length_take,List.length_map,hlr];omega) (fun j zs H3 _ ⟨e,_⟩=>by rw [e];exact SqL.of hr2) ?_ ?_⟩
      · rintro j z zs H3 hz ⟨rfl,_,rfl⟩
        obtain ⟨u,eu,rfl⟩:=mint hz
        refine ⟨rfl,_,rfl,_,rfl,_,_,rfl,rfl,.inl hq64,rfl,?_,?_⟩
        · have:=(List.getElem?_eq_some_iff.mp eu).1;omega
        · rw [take_map (f:=fun x=>q*x) eu,List.map_append];rfl
      · rintro zs H3 ⟨rfl,_,rfl⟩ l hl
        have e1:((row.map fun x=>q*x).take (row.map V.int).length)=row.map fun x=>q*x:=List.take_of_length_le (by rw [List.length_map,List.length_map];exact Nat.le_refl _)
        rw [e1]
        refine ⟨qs++[l],by rw [List.map_append];rfl,by rw [List.length_append,hq];rfl,hlt,?_⟩
        have e:(Tt.map fun r=>r.map fun x=>q*x).take (i+1)=(Tt.map fun r=>r.map fun x=>q*x).take i++[row.map fun x=>q*x]:=by rw [List.take_succ,List.getElem?_map,erow];rfl
        rw [e]
        exact c.more hl
    · rintro ys H2 ⟨qs,rfl,hq,hi,c⟩ p hp
      have e:(Tt.map fun r=>r.map fun x=>q*x).take (rs.map V.ref).length=Tt.map fun r=>r.map fun x=>q*x:=List.take_of_length_le (by rw [List.length_map,List.length_map,hlen];exact Nat.le_refl _)
      rw [e] at c
      obtain ⟨q1,q2,q3⟩:=c.done hp
      exact k p qs _ q1 q2 q3
end
end X1
namespace X1
open PySem L2
theorem pred_sub {m i:Nat} (h:i<m):∃k,m - i=k+1:=⟨m - i - 1,by omega⟩
theorem sub_succ' {a i k:Nat} (h:a - i=k+1):a - (i+1)=k:=by omega
theorem in2 {b p l:Addr} {F:List Addr} (h:b∈F):b∈p::l::F:=List.mem_cons_of_mem _ (List.mem_cons_of_mem _ h)
theorem n_rs:¬ (("rows" : Str) = "side"):=by decide +kernel
theorem n_rc:¬ (("rows" : Str) = "changes"):=by decide +kernel
theorem n_sc:¬ (("side" : Str) = "changes"):=by decide +kernel
def flds (a:Addr) (s:Bool) (l:Addr):List (Str×V):=[("rows",.ref a),("side",.str (sd s)),("changes",.ref l)]
theorem pf2 (a:Addr) (x:V):putF "side" x (putF "rows" (.ref a) [])=([("rows",V.ref a),("side",x)]:List (Str×V)):=by
  simp only [putF,n_rs,if_false]
theorem pf3 (a l:Addr) (x:V):putF "changes" (.ref l) ([("rows",V.ref a),("side",x)]:List (Str×V))=([("rows",V.ref a),("side",x),("changes",.ref l)]:List (Str×V)):=by
  simp only [putF,n_rc,n_sc,if_false]
theorem flds_putR (a b:Addr) (s:Bool) (l:Addr):putF "rows" (.ref b) (flds a s l)=flds b s l:=by
  simp only [flds,putF,if_true]
theorem flds_putS (a:Addr) (s t:Bool) (l:Addr):putF "side" (.str (sd t)) (flds a s l)=flds a t l:=by
  simp only [flds,putF,n_rs,if_false,if_true]
theorem flds_eq (a:Addr) (s:Bool) (l:Addr):flds a s l=putF "changes" (.ref l) (putF "side" (.str (sd s)) (putF "rows" (.ref a) [])):=by rw [pf2,pf3];rfl
theorem flds_rows (a:Addr) (s:Bool) (l:Addr):(flds a s l).lookup ("rows" : Str)=some (.ref a):=by
  rw [flds_eq,lookup_putF,if_neg n_rc,lookup_putF,if_neg n_rs,lookup_putF,if_pos rfl]
theorem flds_side (a:Addr) (s:Bool) (l:Addr):(flds a s l).lookup ("side" : Str)=some (.str (sd s)):=by
  rw [flds_eq,lookup_putF,if_neg n_sc,lookup_putF,if_pos rfl]
theorem flds_changes (a:Addr) (s:Bool) (l:Addr):(flds a s l).lookup ("changes" : Str)=some (.ref l):=by
  rw [flds_eq,lookup_putF,if_pos rfl]
theorem flds_no (a:Addr) (s:Bool) (l:Addr) {m:Str} (h1:¬ m = "rows") (h2:¬ m = "side") (h3:¬ m = "changes"):(flds a s l).lookup m=none:=by
  rw [flds_eq,lookup_putF,if_neg h3,lookup_putF,if_neg h2,lookup_putF,if_neg h1];rfl
theorem no_q11 (a:Addr) (s:Bool) (l:Addr):(flds a s l).lookup ("make" : Str)=none:=flds_no a s l (by decide +kernel) (by decide +kernel) (by decide +kernel)
theorem no_q12 (a:Addr) (s:Bool) (l:Addr):(flds a s l).lookup ("add_times" : Str)=none:=flds_no a s l (by decide +kernel) (by decide +kernel) (by decide +kernel)
theorem no_q13 (a:Addr) (s:Bool) (l:Addr):(flds a s l).lookup ("swap_rows" : Str)=none:=flds_no a s l (by decide +kernel) (by decide +kernel) (by decide +kernel)
theorem no_q14 (a:Addr) (s:Bool) (l:Addr):(flds a s l).lookup ("turn_row" : Str)=none:=flds_no a s l (by decide +kernel) (by decide +kernel) (by decide +kernel)
theorem no_q15 (a:Addr) (s:Bool) (l:Addr):(flds a s l).lookup ("lessen" : Str)=none:=flds_no a s l (by decide +kernel) (by decide +kernel) (by decide +kernel)
theorem no_q16 (a:Addr) (s:Bool) (l:Addr):(flds a s l).lookup ("meet" : Str)=none:=flds_no a s l (by decide +kernel) (by decide +kernel) (by decide +kernel)
theorem no_q17 (a:Addr) (s:Bool) (l:Addr):(flds a s l).lookup ("tip_over" : Str)=none:=flds_no a s l (by decide +kernel) (by decide +kernel) (by decide +kernel)
def tc (s:Bool) (c:E1.RC):Ch:=toCh (s,c)
inductive WalkEx (C:Addr) (H0 H:Hp) (p:Addr) (e:E1.Tab) (m n:Nat) (s:Bool) (cs:List Ch):Prop
  | mk (dx a l:Addr) (rs ts:List Addr) (T:Tb) (_:H p=some (.ins C dx (flds a s l))) (_:TabAt H a rs T) (_:Rect m n T) (_:ent T=e) (_:IsChs H l ts cs) (_:l∉a::rs) (_:∀b∈p::l::a::rs,H0 b=none):WalkEx C H0 H p e m n s cs
structure WalkAt (C:Addr) (H0 H:Hp) (p:Addr) (e:E1.Tab) (m n:Nat) (s:Bool) (cs:List Ch):Prop where
  same:Same H0 H
  ex:WalkEx C H0 H p e m n s cs
  m0:0<m
  n0:0<n
  m1:m≤1000
  n1:n≤1000
section
variable {C:Addr} {H0 H H':Hp} {p:Addr} {e:E1.Tab} {m n:Nat} {s:Bool} {cs:List Ch}
theorem WalkAt.on (W:WalkAt C H0 H p e m n s cs) (sm:Same H H'):WalkAt C H0 H' p e m n s cs:=by
  obtain ⟨dx,a,l,rs,ts,T,hp,ht,hr,he,hc,hl,hn⟩:=W.ex
  exact ⟨W.same.trans sm,⟨dx,a,l,rs,ts,T,sm _ _ hp,ht.same sm,hr,he,hc.same sm,hl,hn⟩,W.m0,W.n0,W.m1,W.n1⟩
theorem WalkAt.sub {H1:Hp} (W:WalkAt C H1 H p e m n s cs) (sm:Same H0 H1):WalkAt C H0 H p e m n s cs:=by
  obtain ⟨dx,a,l,rs,ts,T,hp,ht,hr,he,hc,hl,hn⟩:=W.ex
  exact ⟨sm.trans W.same,⟨dx,a,l,rs,ts,T,hp,ht,hr,he,hc,hl,fun b hb=>sm.free (hn b hb)⟩,W.m0,W.n0,W.m1,W.n1⟩
theorem WalkAt.laid {q:Addr} {o:HO} (W:WalkAt C H0 H p e m n s cs) (hq:H q=none):WalkAt C (upd H0 q o) (upd H q o) p e m n s cs:=by
  have W2:=W.on (same_upd (o:=o) hq)
  obtain ⟨dx,a,l,rs,ts,T,hp,ht,hr,he,hc,hl,hn⟩:=W2.ex
  obtain ⟨dx',a',l',rs',ts',T',hp',ht',_,_,hc',_,_⟩:=W.ex
  refine ⟨fun b u eb=>?_,⟨dx,a,l,rs,ts,T,hp,ht,hr,he,hc,hl,fun b hb=>?_⟩,W.m0,W.n0,W.m1,W.n1⟩
  · by_cases z:b=q
    · subst z;rw [upd_same] at eb ⊢;exact eb
    · rw [upd_ne z] at eb ⊢;exact W.same b u eb
  · have hb0:=hn b hb
    have hbq:b≠q:=by
      rintro rfl
      have hp2:(upd H b o) p=some (.ins C dx' (flds a' s l')):=same_upd hq _ _ hp'
      rw [hp] at hp2
      have e1:flds a s l=flds a' s l':=by injection hp2 with z;injection z
      have ea:a=a':=by
        have:=congrArg (fun f=>List.lookup ("rows" : Str) f) e1
        simp only [flds_rows] at this
        injection this with z;injection z
      have el:l=l':=by
        have:=congrArg (fun f=>List.lookup ("changes" : Str) f) e1
        simp only [flds_changes] at this
        injection this with z;injection z
      subst ea el
      have hrs:rs=rs':=by
        have h1:=same_upd (o:=o) hq _ _ ht'.tab.1
        rw [ht.tab.1] at h1
        injection h1 with z;injection z with z
        exact map_ref_inj z
      subst hrs
      rcases List.mem_cons.mp hb with z | hb
      · rw [z] at hq;rw [hp'] at hq;cases hq
      rcases List.mem_cons.mp hb with z | hb
      · rw [z] at hq;rw [hc'.1] at hq;cases hq
      obtain ⟨u,hu⟩:=ht'.tracked b hb
      rw [hu] at hq;cases hq
    rw [upd_ne hbq];exact hb0
where
  map_ref_inj:∀{xs ys:List Addr},xs.map V.ref=ys.map V.ref→xs=ys
    | [],[],_=>rfl
    | [],_::_,h=>by simp at h
    | _::_,[],h=>by simp at h
    | x::xs,y::ys,h=>by
      simp only [List.map_cons,List.cons.injEq,V.ref.injEq] at h
      rw [h.1,map_ref_inj h.2]
theorem WalkAt.put {q:Addr} {o u:HO} (W:WalkAt C H0 H p e m n s cs) (hq:H0 q=some u) (hm:∀xs,u≠.tup xs):WalkAt C (upd H0 q o) (upd H q o) p e m n s cs:=by
  obtain ⟨dx,a,l,rs,ts,T,hp,ht,hr,he,hc,hl,hn⟩:=W.ex
  have ne:∀b∈p::l::a::rs,b≠q:=fun b hb z=>by rw [z] at hb;rw [hn q hb] at hq;cases hq
  have st:Stay H (upd H q o) [q]:=fun b v eb hb=>by rw [upd_ne (by simpa using hb)];exact eb
  refine ⟨fun b v eb=>?_,⟨dx,a,l,rs,ts,T,?_,?_,hr,he,⟨?_,?_⟩,hl,fun b hb=>?_⟩,W.m0,W.n0,W.m1,W.n1⟩
  · by_cases z:b=q
    · subst z;rw [upd_same] at eb ⊢;exact eb
    · rw [upd_ne z] at eb ⊢;exact W.same b v eb
  · rw [upd_ne (ne p (by simp))];exact hp
  · exact ht.stay st fun b hb=>by simpa using ne b (in2 hb)
  · rw [upd_ne (ne l (by simp))];exact hc.1
  · refine pimp hc.2 fun t c z=>?_
    show upd H q o t=_
    have:t≠q:=by
      rintro rfl
      have h2:=W.same _ _ hq
      rw [IsCh,h2] at z
      exact hm _ (Option.some.inj z)
    rw [upd_ne this];exact z
  · rw [upd_ne (ne b hb)];exact hn b hb
end
structure WTxt (K:PySem.W.Frag) (C:Addr):Prop where
  cl:Cls K C
  nR:NoAttr K C "rows"
  nS:NoAttr K C "side"
  nC:NoAttr K C "changes"
section
variable {P:Program} {w:World} {K:PySem.W.Frag} {mg:Str→Option Value} {base:Heap} {C:Addr}
theorem WalkAt.cell {H0 H:Hp} {p:Addr} {e:E1.Tab} {m n:Nat} {s:Bool} {cs:List Ch} {σ:St} {iw i j x y:Nat} {Q:VK} (W:WalkAt C H0 H p e m n s cs) (X:WTxt K C) (hw:σ[iw]?=some (some (.ref p))) (hi:σ[i]?=some (some (.int (x:Nat)))) (hj:σ[j]?=some (some (.int (y:Nat))))
    (hx:x<m) (hy:y<n) (k:Q (.int (e x y)) H):tOp (rIxL K) (tOp (rIxL K) (tFld K (tVar iw) "rows") (tVar i)) (tVar j) σ H Q:=by
  obtain ⟨dx,a,l,rs,ts,T,hp,ht,hr,rfl,hc,hl,hn⟩:=W.ex
  obtain ⟨r,er,_,hrow,hlr⟩:=ht.at hr hx
  exact ⟨_,hw,p,C,dx,_,_,rfl,hp,X.cl,X.nR,flds_rows _ _ _,_,hi,a,_,_,_,rfl,rfl,SqL.of ht.tab.1,atI_nat (rget er),_,hj,r,_,_,_,rfl,rfl,SqL.of hrow,atI_nat (iget (getD_some hlr hy)),k⟩
theorem WalkAt.rowAt {H0 H:Hp} {p:Addr} {e:E1.Tab} {m n:Nat} {s:Bool} {cs:List Ch} {σ:St} {iw i x:Nat} {Q:VK} (W:WalkAt C H0 H p e m n s cs) (X:WTxt K C) (hw:σ[iw]?=some (some (.ref p))) (hi:σ[i]?=some (some (.int (x:Nat))))
    (hx:x<m) (k:∀(r:Addr) (row:List Int),IsRow H r row→row.length=n→(fun y=>row.getD y 0)=e x→Q (.ref r) H):tOp (rIxL K) (tFld K (tVar iw) "rows") (tVar i) σ H Q:=by
  obtain ⟨dx,a,l,rs,ts,T,hp,ht,hr,rfl,hc,hl,hn⟩:=W.ex
  obtain ⟨r,er,_,hrow,hlr⟩:=ht.at hr hx
  exact ⟨_,hw,p,C,dx,_,_,rfl,hp,X.cl,X.nR,flds_rows _ _ _,_,hi,a,_,_,_,rfl,rfl,SqL.of ht.tab.1,atI_nat (rget er),k r _ hrow hlr rfl⟩
theorem WalkAt.rows {H0 H:Hp} {p:Addr} {e:E1.Tab} {m n:Nat} {s:Bool} {cs:List Ch} {σ:St} {iw:Nat} {Q:VK} (W:WalkAt C H0 H p e m n s cs) (X:WTxt K C) (hw:σ[iw]?=some (some (.ref p)))
    (k:∀(a:Addr) (rs:List Addr) (T:Tb),TabAt H a rs T→Rect m n T→ent T=e→(∀b∈a::rs,H0 b=none)→Q (.ref a) H):tFld K (tVar iw) "rows" σ H Q:=by
  obtain ⟨dx,a,l,rs,ts,T,hp,ht,hr,he,hc,hl,hn⟩:=W.ex
  exact ⟨_,hw,p,C,dx,_,_,rfl,hp,X.cl,X.nR,flds_rows _ _ _,k a rs T ht hr he fun b hb=>hn b (in2 hb)⟩
theorem WalkAt.ob {H0 H:Hp} {p:Addr} {e:E1.Tab} {m n:Nat} {s:Bool} {cs:List Ch} (W:WalkAt C H0 H p e m n s cs):∃(dx a l:Addr),H p=some (.ins C dx (flds a s l)):=by
  obtain ⟨dx,a,l,rs,ts,T,hp,_,_,_,_,_,_⟩:=W.ex
  exact ⟨dx,a,l,hp⟩
inductive SpCol (vs:List V) (H:Hp) (Q:VK):Prop
  | mk (a:Addr) (rs:List Addr) (T:Tb) (m n y:Nat) (_:vs=[.ref a,.int y]) (_:TabAt H a rs T) (_:Rect m n T) (_:y<n) (_:m≤1000) (_:∀q,H q=none→Q (.ref q) (upd H q (.lst ((T.map fun r=>r.getD y 0).map V.int)))):SpCol vs H Q
def spCol:Sp:=fun vs H Q _=>SpCol vs H Q
theorem take_mapR {f:List Int→Int} {xs:Tb} {i:Nat} {x:List Int} (hx:xs[i]?=some x):(xs.map f).take (i+1)=(xs.map f).take i++[f x]:=by
  rw [List.take_succ,List.getElem?_map,hx];rfl
theorem ok_q09 (D:DefAt K mg "column_of" s_q09 ["rows","place"]) (T:Bt mg):Callee P w K mg base 1 "column_of" ["rows","place"] spCol:=by
  refine D.ok (k:=0) sc_q09 (fun vs H Q E h=>?_) (fun f cdv A outer s H vs Q E hr h=>?_)
  · obtain ⟨_,_,_,_,_,_,rfl,_⟩:=h
    rfl
  · obtain ⟨a,rs,Tt,m,n,y,rfl,ht,hr',hy,hm,k⟩:=h
    refine ⟨_,(pss_one (ps_ret (pe_comp (N:=["place","row"]) (cap:=[1]) (k:=1) (CompScope.mk' (defScope s_q09) ["rows","place"] rfl rfl (by decide +kernel)) rfl (pi_list (pv 0)) (fun _ _ _ _=>(pg_name (i:=1) (show (["place","row"]:List Str).Nodup by decide +kernel) rfl (Or.inl rfl))) (fun _ _ _ _=>(pe_ix (ix_listK (K:=K) rfl) (pv 1) (pv 0) (fun _ _=>rfl)))))),?_⟩
    have h1:=ht.tab.1
    have hl:=ht.len hr'
    refine ⟨_,rfl,a,rfl,⟨_,SqL.of h1⟩,comp_list (K:=K) (a:=a) (xs:=rs.map V.ref) (fun i ys H2=>H2=H∧i≤m∧ys=((Tt.map fun r=>r.getD y 0).take i).map V.int) (by rw [List.length_map,hl];exact Nat.le_trans hm (by decide)) ⟨rfl,Nat.zero_le _,by simp⟩ (fun i ys H2 ⟨_,hle,e⟩=>by rw [e,List.length_map,List.length_take,List.length_map,hr'.1];omega) (fun i ys H2 _ ⟨e,_,_⟩=>by rw [e];exact SqL.of h1) ?_ ?_⟩
    · rintro i x ys H2 hx ⟨rfl,_,rfl⟩
      obtain ⟨r,er,rfl⟩:=mref hx
      have him:i<m:=by rw [←hl];exact (List.getElem?_eq_some_iff.mp er).1
      obtain ⟨r',er',erow,hrow,hlr⟩:=ht.at hr' him
      rw [er] at er';cases er'
      refine ⟨rfl,_,rfl,_,rfl,r,_,_,_,rfl,rfl,SqL.of hrow,atI_nat (iget (getD_some hlr hy)),rfl,him,?_⟩
      rw [take_mapR (f:=fun r=>r.getD y 0) erow,List.map_append];rfl
    · rintro ys H2 ⟨rfl,_,rfl⟩ q hq
      have e:((Tt.map fun r=>r.getD y 0).take (rs.map V.ref).length)=Tt.map fun r=>r.getD y 0:=List.take_of_length_le (by rw [List.length_map,List.length_map,hl,hr'.1];exact Nat.le_refl _)
      rw [e]
      exact k q hq
inductive SpInit (C:Addr) (vs:List V) (H:Hp) (Q:VK):Prop
  | mk (H0:Hp) (x dx a:Addr) (rs:List Addr) (T:Tb) (m n:Nat) (_:vs=[.ref x,.ref a]) (_:H x=some (.ins C dx [])) (_:Same H0 H) (_:H0 x=none) (_:TabAt H a rs T) (_:Rect m n T) (_:0<m) (_:0<n) (_:m≤1000) (_:n≤1000) (_:∀H',WalkAt C H0 H' x (ent T) m n true []→Q .non H'):SpInit C vs H Q
def spInit (C:Addr):Sp:=fun vs H Q _=>SpInit C vs H Q
theorem ok_q18 (D:MkAt K mg C "Walk" "Walk.__init__" s_q0t ["self","table"]) (T:Bt mg) (X:WTxt K C) (C_q06:Callee P w K mg base 1 "copied" ["table"] spCopy):Maker P w K mg base C 2 "Walk" ["self","table"] (spInit C):=by
  refine D.ok (k:=1) sc_q0t (fun vs H Q E h=>?_) (fun f cdv A outer s H vs Q E hr h=>?_)
  · obtain ⟨_,_,_,_,_,_,_,_,rfl,_⟩:=h
    rfl
  · obtain ⟨H0,x,dx,a,rs,Tt,m,n,rfl,hx,sm0,hx0,ht,hr',m0,n0,m1,n1,k⟩:=h
    refine ⟨_,(pss_cons (ps_fld (pv 0) (pe_callC C_q06 (hr.mono (by decide)) rfl (pa_cons (pv 1) pa_nil)) rfl)
        (pss_cons (ps_fld (pv 0) pe_str rfl)
        (pss_one (ps_fld (pv 0) (pe_lst pa_nil) rfl)))),?_⟩
    refine ⟨_,rfl,a,rs,Tt,rfl,ht,by rw [hr'.1];exact m1,fun a2 qs H1 s1 ht1 new1=>?_⟩
    refine ⟨_,rfl,x,C,dx,_,rfl,s1 _ _ hx,X.cl,X.nR,by show 0<1000;decide,?_⟩
    refine ⟨_,rfl,x,C,dx,_,rfl,upd_same,X.cl,X.nS,by show 1<1000;decide,?_⟩
    rw [pf2,upd_upd]
    refine ⟨Nat.zero_le _,fun l hl=>?_⟩
    have hxl:x≠l:=by
      rintro rfl;rw [upd_same] at hl;cases hl
    have hl1:H1 l=none:=by rw [upd_ne hxl.symm] at hl;exact hl
    refine ⟨_,rfl,x,C,dx,_,rfl,by rw [upd_ne hxl,upd_same],X.cl,X.nC,by show 2<1000;decide,?_⟩
    have hx1:=s1 _ _ hx
    have hax:∀b∈a2::qs,b≠x:=fun b hb z=>by
      have:=new1 b hb
      rw [z,hx] at this;cases this
    have hal:∀b∈a2::qs,b≠l:=fun b hb z=>by
      obtain ⟨o,ho⟩:=ht1.tracked b hb
      rw [z,hl1] at ho;cases ho
    refine k _ ⟨fun b o eb=>?_,⟨dx,a2,l,qs,[],Tt,?_,?_,hr',rfl,⟨?_,.nil⟩,fun z=>(hal l z) rfl,fun b hb=>?_⟩,m0,n0,m1,n1⟩
    · have hbx:b≠x:=fun z=>by rw [z,hx0] at eb;cases eb
      have hb1:=s1 _ _ (sm0 _ _ eb)
      rw [upd_ne hbx,upd_ne (ne_of_none hb1 hl1),upd_ne hbx]
      exact hb1
    · rw [upd_same,pf3];rfl
    · refine ht1.stay (F:=[x,l]) (fun b o eb hb=>?_) fun b hb=>?_
      · have hb:b≠x∧b≠l:=by simpa using hb
        rw [upd_ne hb.1,upd_ne hb.2,upd_ne hb.1];exact eb
      · simp [hax b hb,hal b hb]
    · rw [upd_ne hxl.symm,upd_same];rfl
    · rcases List.mem_cons.mp hb with z | hb
      · rw [z];exact hx0
      rcases List.mem_cons.mp hb with z | hb
      · rw [z];exact sm0.free (s1.free hl1)
      · exact sm0.free (new1 b hb)
theorem tipB_take {T:Tb} {n i:Nat} (hi:i<n):(tipB n T).take (i+1)=(tipB n T).take i++[T.map fun r=>r.getD i 0]:=by
  have e:(tipB n T)[i]?=some (T.map fun r=>r.getD i 0):=by
    unfold tipB
    rw [List.getElem?_map,List.getElem?_range hi];rfl
  rw [List.take_succ,e];rfl
inductive SpTip (C:Addr) (vs:List V) (H:Hp) (Q:VK):Prop
  | mk (H0:Hp) (p:Addr) (e:E1.Tab) (m n:Nat) (s:Bool) (cs:List Ch) (_:vs=[.ref p]) (_:WalkAt C H0 H p e m n s cs) (_:∀H',WalkAt C H0 H' p (E1.tipT e) n m (!s) cs→Q .non H'):SpTip C vs H Q
def spTip (C:Addr):Sp:=fun vs H Q _=>SpTip C vs H Q
theorem ok_q0u (D:MDefAt K C "tip_over" "Walk.tip_over" s_q0u ["self"]) (T:Bt mg) (X:WTxt K C) (C_q09:Callee P w K mg base 1 "column_of" ["rows","place"] spCol):MCallee P w K mg base C 2 "tip_over" ["self"] (spTip C):=by
  refine D.ok (k:=1) X.cl sc_q0u (fun vs H Q E h=>?_) (fun f cdv A outer s H vs Q E hr h=>?_)
  · obtain ⟨_,_,_,_,_,_,_,rfl,_⟩:=h
    rfl
  · obtain ⟨H0,p,e,m,n,s,cs,rfl,W,k⟩:=h
    refine ⟨_,(pss_cons (ps_fld (pv 0) (pe_comp (N:=["self","place"]) (cap:=[0]) (k:=1) (CompScope.mk' (defScope s_q0u) ["self"] rfl rfl (by decide +kernel)) rfl (pi_range1 rfl T.range (pa_cons (pe_callB call_len_seq rfl T.len bt_len (pa_cons (pe_ix ix_list (pe_fld (pv 0) rfl) pe_int (fun _ _=>rfl)) pa_nil)) pa_nil)) (fun _ _ _ _=>(pg_name (i:=1) (show (["self","place"]:List Str).Nodup by decide +kernel) rfl (Or.inl rfl))) (fun _ _ _ _=>(pe_callC C_q09 (hr.mono (by decide)) rfl (pa_cons (pe_fldK (K:=K) rfl (pv 0) rfl) (pa_cons (pv 1) pa_nil))))) rfl)
        (pss_one (ps_fld (pv 0) (pe_ifExp (pt_cmpR op_eq (pe_fld (pv 0) rfl) pe_str (nomark _)) pe_str pe_str) rfl))),?_⟩
    obtain ⟨dx,a,l,rs,ts,Tt,hp,ht,hr',he,hc,hla,hn⟩:=W.ex
    have h1:=ht.tab.1
    have hl:=ht.len hr'
    obtain ⟨r0,e0,_,hr0,hl0⟩:=ht.at hr' W.m0
    refine ⟨_,rfl,p,C,dx,_,_,rfl,hp,X.cl,X.nR,flds_rows _ _ _,a,_,_,_,rfl,rfl,SqL.of h1,atI_nat (j:=0) (rget e0),r0,_,rfl,.inl (SqL.of hr0),_,rfl,by omega,by rw [List.length_map,hl0];have:=W.n1;omega,?_⟩
    rw [List.length_map,hl0]
    refine comp_it (J:=Itr 0 _) (n:=n) (fun i ys H2=>∃qs,ys=qs.map V.ref∧qs.length=i∧i≤n∧CopyAt H H2 qs ((tipB n Tt).take i)) (Nat.le_trans W.n1 (by decide)) ⟨[],rfl,rfl,Nat.zero_le _,by simpa using CopyAt.start H⟩ (fun i ys H2 ⟨qs,e,e2,_⟩=>by rw [e,List.length_map,e2])
      (fun i ys H2 hi _=>by show i<Int.toNat _;simpa using hi) (fun ys H2 _=>by show Int.toNat _≤n;simp) ?_ ?_
    · rintro i x ys H2 H3 hi ⟨qs,rfl,hq,_,c⟩ ⟨rfl,hx0⟩
      obtain rfl:=z0 hx0
      refine ⟨rfl,_,rfl,p,C,dx,_,_,rfl,c.same _ _ hp,X.cl,X.nR,flds_rows _ _ _,_,rfl,a,rs,Tt,m,n,i,rfl,ht.same c.same,hr',hi,W.m1,fun q hqn=>?_⟩
      refine ⟨qs++[q],by rw [List.map_append];rfl,by rw [List.length_append,hq];rfl,hi,?_⟩
      rw [tipB_take hi]
      exact c.more hqn
    · rintro ys H2 ⟨qs,rfl,hq,_,c⟩ p2 hp2
      have et:(tipB n Tt).take n=tipB n Tt:=List.take_of_length_le (by simp [tipB])
      rw [et] at c
      obtain ⟨q1,q2,q3⟩:=c.done hp2
      generalize hH3:upd H2 p2 (.lst (qs.map V.ref))=H3 at q1 q2 ⊢
      have hp3:=q1 _ _ hp
      refine ⟨_,rfl,p,C,dx,_,rfl,hp3,X.cl,X.nR,by show 3<1000;decide,?_⟩
      rw [flds_putR]
      refine ⟨_,rfl,p,C,dx,_,_,rfl,upd_same,X.cl,X.nS,flds_side _ _ _,rfl,_,rfl,?_⟩
      have fin:WalkAt C H0 (upd H3 p (.ins C dx (flds p2 (!s) l))) p (E1.tipT e) n m (!s) cs:=by
        refine ⟨fun b o eb=>?_,⟨dx,p2,l,qs,ts,tipB n Tt,upd_same,?_,tipB_rect hr',by rw [ent_tipB hr',he],⟨?_,?_⟩,fun z=>?_,fun b hb=>?_⟩,W.n0,W.m0,W.n1,W.m1⟩
        · have hbp:b≠p:=fun z=>by rw [z,hn p (by simp)] at eb;cases eb
          rw [upd_ne hbp];exact q1 _ _ (W.same _ _ eb)
        · refine q2.stay (F:=[p]) (fun b o eb hb=>by rw [upd_ne (by simpa using hb)];exact eb) fun b hb=>?_
          have:=q3 b hb
          simp only [List.mem_singleton]
          rintro rfl;rw [hp] at this;cases this
        · rw [upd_ne (ne_of hc.1 hp (by intro z;cases z))];exact q1 _ _ hc.1
        · refine pimp hc.2 fun t c z=>?_
          show upd H3 p _ t=_
          rw [upd_ne (ne_of z hp (by intro z;cases z))];exact q1 _ _ z
        · have:=q3 l z
          rw [hc.1] at this;cases this
        · rcases List.mem_cons.mp hb with z | hb
          · rw [z];exact hn p (by simp)
          rcases List.mem_cons.mp hb with z | hb
          · rw [z];exact hn l (by simp)
          · exact W.same.free (q3 b hb)
      rw [sd_row]
      cases s with
      | true =>
        refine iteT ⟨_,rfl,p,C,dx,_,rfl,upd_same,X.cl,X.nS,by show 3<1000;decide,?_⟩
        rw [upd_upd,show (V.str "column")=V.str (sd false) from rfl,flds_putS]
        exact k _ fin
      | false =>
        refine iteF ⟨_,rfl,p,C,dx,_,rfl,upd_same,X.cl,X.nS,by show 3<1000;decide,?_⟩
        rw [upd_upd,show (V.str "row")=V.str (sd true) from rfl,flds_putS]
        exact k _ fin
end
end X1
namespace X1
open PySem L2
theorem rowd_toCh (s:Bool) (c:E1.RC):(toCh (s,c)).rowd=toCh (true,c):=by cases c <;> rfl
theorem fits_toCh {B:Nat} {s:Bool} {c:E1.RC} (h:E1.qle B c):(toCh (s,c)).fits B:=by cases c <;> exact h
section
variable {P:Program} {w:World} {K:PySem.W.Frag} {mg:Str→Option Value} {base:Heap} {C:Addr}
inductive SpMake (B:Nat) (C:Addr) (vs:List V) (H:Hp) (Q:VK):Prop
  | mk (H0:Hp) (p t:Addr) (e:E1.Tab) (m n:Nat) (s:Bool) (cs:List Ch) (c:E1.RC) (_:vs=[.ref p,.ref t]) (_:WalkAt C H0 H p e m n s cs) (_:IsCh H t (tc s c)) (_:c.ok m) (_:E1.qle B c) (_:E1.Le B e) (_:cs.length<sizeLine) (_:∀H',WalkAt C H0 H' p (c.app e) m n s (cs++[tc s c])→Q .non H'):SpMake B C vs H Q
def spMake (B:Nat) (C:Addr):Sp:=fun vs H Q _=>SpMake B C vs H Q
theorem ok_q0v {B:Nat} (D:MDefAt K C "make" "Walk.make" s_q0v ["self","change"]) (T:Bt mg) (X:WTxt K C) (C_q07:Callee P w K mg base 2 "change_by_row" ["rows","change"] (spRow B)):MCallee P w K mg base C 3 "make" ["self","change"] (spMake B C):=by
  refine D.ok (k:=2) X.cl sc_q0v (fun vs H Q E h=>?_) (fun f cdv A outer s H vs Q E hr h=>?_)
  · obtain ⟨_,_,_,_,_,_,_,_,_,rfl,_⟩:=h
    rfl
  · obtain ⟨H0,p,t,e,m,n,s,cs,c,rfl,W,ht,hok,hq,hle,hz,k⟩:=h
    refine ⟨_,(pss_cons (ps_expr (pe_callC C_q07 (hr.mono (by decide)) rfl (pa_cons (pe_fld (pv 0) rfl) (pa_cons (pv 1) pa_nil))))
        (pss_one (ps_expr (pe_bm PySem.F.plainAttrs_list PySem.F.slot_list_append PySem.F.type_list_append mt_append (pe_fld (pv 0) rfl) (pa_cons (pv 1) pa_nil))))),?_⟩
    obtain ⟨dx,a,l,rs,ts,Tt,hp,hta,hr',he,hc,hla,hn⟩:=W.ex
    have hokT:(toCh (s,c)).rowd.ok m n:=by rw [rowd_toCh];exact toCh_ok (show E1.ok2 m n (true,c) from hok)
    refine ⟨_,rfl,p,C,dx,_,_,rfl,hp,X.cl,X.nR,flds_rows _ _ _,_,rfl,a,t,rs,Tt,m,n,toCh (s,c),rfl,hta,hr',W.n1,ht,hokT,fits_toCh hq,by rw [he];exact hle,fun qs H1 ht1 st1 new1=>?_⟩
    have npa:p∉a::rs:=fun z=>by
      rcases List.mem_cons.mp z with z | z
      · subst z;rw [hta.tab.1] at hp;cases hp
      · obtain ⟨row,e2⟩:=hta.tab.2.tracked p z
        rw [IsRow,hp] at e2;cases e2
    have hp1:=st1 _ _ hp npa
    have hl1:=st1 _ _ hc.1 hla
    have nt:t∉a::rs:=fun z=>by
      rcases List.mem_cons.mp z with z | z
      · subst z;rw [IsCh,hta.tab.1] at ht;cases ht
      · obtain ⟨row,e2⟩:=hta.tab.2.tracked t z
        rw [IsRow,ht] at e2;cases e2
    have ht1':=st1 _ _ ht nt
    refine ⟨_,rfl,p,C,dx,_,_,rfl,hp1,X.cl,X.nC,flds_changes _ _ _,.inl ⟨rfl,_,SqL.of hl1⟩,_,rfl,l,_,_,rfl,rfl,hl1,by rw [List.length_map,Paired.length hc.2];exact hz,?_⟩
    have hent:ent ((toCh (s,c)).rowd.app Tt)=c.app e:=by
      rw [rowd_toCh,ent_toCh hr' (show E1.ok2 m n (true,c) from hok),he];rfl
    have hrect:Rect m n ((toCh (s,c)).rowd.app Tt):=Ch.app_rect hr' hokT
    have memq:∀b∈a::qs,b∈a::rs∨H b=none:=fun b hb=>by
      rcases List.mem_cons.mp hb with z | z
      · exact .inl (by rw [z];exact List.mem_cons_self)
      · rcases new1 b z with z | z
        · exact .inl (List.mem_cons_of_mem _ z)
        · exact .inr z
    have hlq:l∉a::qs:=fun z=>by
      rcases memq l z with z | z
      · exact hla z
      · rw [hc.1] at z;cases z
    refine k _ ⟨fun b o eb=>?_,⟨dx,a,l,qs,ts++[t],_,?_,?_,hrect,hent,⟨?_,?_⟩,hlq,fun b hb=>?_⟩,W.m0,W.n0,W.m1,W.n1⟩
    · have hbl:b≠l:=fun z=>by rw [z,hn l (by simp)] at eb;cases eb
      rw [upd_ne hbl]
      refine st1 _ _ (W.same _ _ eb) fun z=>?_
      rw [hn b (in2 z)] at eb;cases eb
    · rw [upd_ne (ne_of hp1 hl1 (by intro z;cases z))];exact hp1
    · exact ht1.stay (F:=[l]) (fun b o eb hb=>by rw [upd_ne (by simpa using hb)];exact eb) fun b hb=>by
        simp only [List.mem_singleton]
        rintro rfl;exact hlq hb
    · rw [upd_same,List.map_append];rfl
    · refine psnoc (pimp hc.2 fun t' c' z=>?_) ?_
      · show upd H1 l _ t'=_
        have z1:H1 t'=some (.tup (chV c')):=st1 _ _ z fun zz=>by
          rcases List.mem_cons.mp zz with zz | zz
          · subst zz;rw [IsCh,hta.tab.1] at z;cases z
          · obtain ⟨row,e2⟩:=hta.tab.2.tracked t' zz
            rw [IsRow,z] at e2;cases e2
        rw [upd_ne (ne_of z1 hl1 (by intro z;cases z))];exact z1
      · show upd H1 l _ t=_
        rw [upd_ne (ne_of ht1' hl1 (by intro z;cases z))];exact ht1'
    · rcases List.mem_cons.mp hb with z | hb
      · rw [z];exact hn p (by simp)
      rcases List.mem_cons.mp hb with z | hb
      · rw [z];exact hn l (by simp)
      · rcases memq b hb with z | z
        · exact hn b (in2 z)
        · exact W.same.free z
inductive SpAdd (B:Nat) (C:Addr) (vs:List V) (H:Hp) (Q:VK):Prop
  | mk (H0:Hp) (p:Addr) (e:E1.Tab) (m n:Nat) (s:Bool) (cs:List Ch) (i j:Nat) (q:Int) (_:vs=[.ref p,.int i,.int j,.int q]) (_:WalkAt C H0 H p e m n s cs) (_:i<m) (_:j<m) (_:i≠j) (_:q.natAbs≤2^B) (_:E1.Le B e) (_:cs.length+(E1.lch i j q).length≤sizeLine) (_:∀H',WalkAt C H0 H' p (E1.addR e i j q) m n s (cs++(E1.lch i j q).map (tc s))→Q .non H'):SpAdd B C vs H Q
def spAdd (B:Nat) (C:Addr):Sp:=fun vs H Q _=>SpAdd B C vs H Q
theorem ok_q0w {B:Nat} (D:MDefAt K C "add_times" "Walk.add_times" s_q0w ["self","one","two","many"]) (T:Bt mg) (X:WTxt K C) (M_q11:MCallee P w K mg base C 3 "make" ["self","change"] (spMake B C)):MCallee P w K mg base C 4 "add_times" ["self","one","two","many"] (spAdd B C):=by
  refine D.ok (k:=3) X.cl sc_q0w (fun vs H Q E h=>?_) (fun f cdv A outer s H vs Q E hr h=>?_)
  · obtain ⟨_,_,_,_,_,_,_,_,_,_,rfl,_⟩:=h
    rfl
  · obtain ⟨H0,p,e,m,n,s,cs,i,j,q,rfl,W,hi,hj,hij,hq,hle,hz,k⟩:=h
    refine ⟨_,(pss_one (ps_if (pt_cmpR op_ne (pv 3) pe_int (nomark _)) (pss_one (ps_expr (pe_methC M_q11 (pv 0) (hr.mono (by decide)) (pa_cons (pe_tup (pa_cons pe_str (pa_cons (pe_fld (pv 0) rfl) (pa_cons (pv 1) (pa_cons (pv 2) (pa_cons (pv 3) pa_nil)))))) pa_nil)))) pss_nil)),?_⟩
    refine ⟨_,rfl,rfl,_,rfl,?_⟩
    by_cases h0:q=0
    · refine iteNS (by rw [h0]) ?_
      have e1:E1.lch i j q=[]:=by unfold E1.lch;rw [if_pos h0]
      rw [e1,h0,E1.addR_zero] at k
      exact k H (by simpa using W)
    · refine iteNN (v_ne h0) ?_
      have e1:E1.lch i j q=[.add i j q]:=by unfold E1.lch;rw [if_neg h0]
      rw [e1] at k hz
      obtain ⟨dx,a,l,hp⟩:=W.ob
      refine ⟨_,rfl,p,dx,_,rfl,hp,(by first | exact no_q15 _ _ _ | exact no_q11 _ _ _ | exact no_q12 _ _ _ | exact no_q13 _ _ _ | exact no_q17 _ _ _ | exact no_q16 _ _ _ | exact no_q14 _ _ _),_,rfl,p,C,dx,_,_,rfl,hp,X.cl,X.nS,flds_side _ _ _,_,rfl,_,rfl,_,rfl,by show 5≤sizeLine;decide,fun t ht=>?_⟩
      exact ⟨H0,p,t,e,m,n,s,cs,.add i j q,rfl,W.on (same_upd ht),upd_same,⟨hi,hj,hij⟩,hq,hle,hz,fun H' W'=>k H' W'⟩
inductive SpSwapR (B:Nat) (C:Addr) (vs:List V) (H:Hp) (Q:VK):Prop
  | mk (H0:Hp) (p:Addr) (e:E1.Tab) (m n:Nat) (s:Bool) (cs:List Ch) (i j:Nat) (_:vs=[.ref p,.int i,.int j]) (_:WalkAt C H0 H p e m n s cs) (_:i<m) (_:j<m) (_:E1.Le B e) (_:cs.length+(if i=j then [] else [E1.RC.swap i j]).length≤sizeLine) (_:∀H',WalkAt C H0 H' p (E1.rapps (if i=j then [] else [E1.RC.swap i j]) e) m n s (cs++(if i=j then [] else [E1.RC.swap i j]).map (tc s))→Q .non H'):SpSwapR B C vs H Q
def spSwapR (B:Nat) (C:Addr):Sp:=fun vs H Q _=>SpSwapR B C vs H Q
theorem ok_q0x {B:Nat} (D:MDefAt K C "swap_rows" "Walk.swap_rows" s_q0x ["self","one","two"]) (T:Bt mg) (X:WTxt K C) (M_q11:MCallee P w K mg base C 3 "make" ["self","change"] (spMake B C)):MCallee P w K mg base C 4 "swap_rows" ["self","one","two"] (spSwapR B C):=by
  refine D.ok (k:=3) X.cl sc_q0x (fun vs H Q E h=>?_) (fun f cdv A outer s H vs Q E hr h=>?_)
  · obtain ⟨_,_,_,_,_,_,_,_,_,rfl,_⟩:=h
    rfl
  · obtain ⟨H0,p,e,m,n,s,cs,i,j,rfl,W,hi,hj,hle,hz,k⟩:=h
    refine ⟨_,(pss_one (ps_if (pt_cmpR op_ne (pv 1) (pv 2) (nomark _)) (pss_one (ps_expr (pe_methC M_q11 (pv 0) (hr.mono (by decide)) (pa_cons (pe_tup (pa_cons pe_str (pa_cons (pe_fld (pv 0) rfl) (pa_cons (pv 1) (pa_cons (pv 2) pa_nil))))) pa_nil)))) pss_nil)),?_⟩
    refine ⟨_,rfl,_,rfl,rfl,_,rfl,?_⟩
    by_cases h0:i=j
    · refine iteNS (by rw [h0]) ?_
      rw [if_pos h0] at k
      exact k H (by simpa [E1.rapps] using W)
    · refine iteNN (v_ne (by omega)) ?_
      rw [if_neg h0] at k hz
      obtain ⟨dx,a,l,hp⟩:=W.ob
      refine ⟨_,rfl,p,dx,_,rfl,hp,(by first | exact no_q15 _ _ _ | exact no_q11 _ _ _ | exact no_q12 _ _ _ | exact no_q13 _ _ _ | exact no_q17 _ _ _ | exact no_q16 _ _ _ | exact no_q14 _ _ _),_,rfl,p,C,dx,_,_,rfl,hp,X.cl,X.nS,flds_side _ _ _,_,rfl,_,rfl,by show 4≤sizeLine;decide,fun t ht=>?_⟩
      exact ⟨H0,p,t,e,m,n,s,cs,.swap i j,rfl,W.on (same_upd ht),upd_same,⟨hi,hj,h0⟩,trivial,hle,hz,fun H' W'=>k H' W'⟩
inductive SpTurnR (B:Nat) (C:Addr) (vs:List V) (H:Hp) (Q:VK):Prop
  | mk (H0:Hp) (p:Addr) (e:E1.Tab) (m n:Nat) (s:Bool) (cs:List Ch) (i:Nat) (_:vs=[.ref p,.int i]) (_:WalkAt C H0 H p e m n s cs) (_:i<m) (_:E1.Le B e) (_:cs.length<sizeLine) (_:∀H',WalkAt C H0 H' p (E1.turnR e i) m n s (cs++[tc s (.turn i)])→Q .non H'):SpTurnR B C vs H Q
def spTurnR (B:Nat) (C:Addr):Sp:=fun vs H Q _=>SpTurnR B C vs H Q
theorem ok_q0y {B:Nat} (D:MDefAt K C "turn_row" "Walk.turn_row" s_q0y ["self","one"]) (T:Bt mg) (X:WTxt K C) (M_q11:MCallee P w K mg base C 3 "make" ["self","change"] (spMake B C)):MCallee P w K mg base C 4 "turn_row" ["self","one"] (spTurnR B C):=by
  refine D.ok (k:=3) X.cl sc_q0y (fun vs H Q E h=>?_) (fun f cdv A outer s H vs Q E hr h=>?_)
  · obtain ⟨_,_,_,_,_,_,_,_,rfl,_⟩:=h
    rfl
  · obtain ⟨H0,p,e,m,n,s,cs,i,rfl,W,hi,hle,hz,k⟩:=h
    refine ⟨_,(pss_one (ps_expr (pe_methC M_q11 (pv 0) (hr.mono (by decide)) (pa_cons (pe_tup (pa_cons pe_str (pa_cons (pe_fld (pv 0) rfl) (pa_cons (pv 1) pa_nil)))) pa_nil)))),?_⟩
    obtain ⟨dx,a,l,hp⟩:=W.ob
    refine ⟨_,rfl,p,dx,_,rfl,hp,(by first | exact no_q15 _ _ _ | exact no_q11 _ _ _ | exact no_q12 _ _ _ | exact no_q13 _ _ _ | exact no_q17 _ _ _ | exact no_q16 _ _ _ | exact no_q14 _ _ _),_,rfl,p,C,dx,_,_,rfl,hp,X.cl,X.nS,flds_side _ _ _,_,rfl,by show 3≤sizeLine;decide,fun t ht=>?_⟩
    exact ⟨H0,p,t,e,m,n,s,cs,.turn i,rfl,W.on (same_upd ht),upd_same,hi,trivial,hle,hz,fun H' W'=>k H' W'⟩
inductive SpLess (B:Nat) (C:Addr) (vs:List V) (H:Hp) (Q:VK):Prop
  | mk (H0:Hp) (p:Addr) (e:E1.Tab) (m n:Nat) (s:Bool) (cs:List Ch) (i j y:Nat) (_:vs=[.ref p,.int i,.int j,.int y]) (_:WalkAt C H0 H p e m n s cs) (_:i<m) (_:j<m) (_:i≠j) (_:y<n) (_:e j y≠0) (_:E1.Le B e) (_:cs.length+(E1.lch i j (E1.lq e i j y)).length≤sizeLine) (_:∀H',WalkAt C H0 H' p (E1.less e i j y) m n s (cs++(E1.lch i j (E1.lq e i j y)).map (tc s))→Q .non H'):SpLess B C vs H Q
def spLess (B:Nat) (C:Addr):Sp:=fun vs H Q _=>SpLess B C vs H Q
theorem ok_q0z {B:Nat} (hB:B≤33554432) (hB1:1≤B) (hse:base.NoSeer) (htr:P.given.tree=none) (D:MDefAt K C "lessen" "Walk.lessen" s_q0z ["self","one","two","place"]) (T:Bt mg) (X:WTxt K C) (M_q12:MCallee P w K mg base C 4 "add_times" ["self","one","two","many"] (spAdd B C)):MCallee P w K mg base C 41 "lessen" ["self","one","two","place"] (spLess B C):=by
  refine D.ok (k:=40) X.cl sc_q0z (fun vs H Q E h=>?_) (fun f cdv A outer s H vs Q E hr h=>?_)
  · obtain ⟨_,_,_,_,_,_,_,_,_,_,rfl,_⟩:=h
    rfl
  · obtain ⟨H0,p,e,m,n,s,cs,i,j,y,rfl,W,hi,hj,hij,hy,hnz,hle,hz,k⟩:=h
    refine ⟨_,(pss_cons (ps_set (i:=4) sc_q0z.nd rfl (Or.inl rfl) (pe_ix ix_list (pe_ix ix_list (pe_fld (pv 0) rfl) (pv 1) (fun _ _=>rfl)) (pv 3) (fun _ _=>rfl)))
        (pss_cons (ps_set (i:=5) sc_q0z.nd rfl (Or.inl rfl) (pe_ix ix_list (pe_ix ix_list (pe_fld (pv 0) rfl) (pv 2) (fun _ _=>rfl)) (pv 3) (fun _ _=>rfl)))
        (pss_one (ps_expr (pe_methC M_q12 (pv 0) (hr.mono (by decide)) (pa_cons (pv 1) (pa_cons (pv 2) (pa_cons (pe_un un_neg (pe_op (op_fdivB hse htr hr (by decide) rfl rfl ⟨_,rfl⟩) (pe_op op_add (pe_op (op_mulB B hB) pe_int (pv 4)) (pv 5)) (pe_op (op_mulB B hB) pe_int (pv 5)))) pa_nil)))))))),?_⟩
    have h2:(2:Int).natAbs≤2^B:=by
      have:2^1≤2^B:=Nat.pow_le_pow_right (by decide) hB1
      exact this
    refine W.cell X (iw:=0) (i:=1) (j:=3) rfl rfl rfl hi hy ?_
    refine W.cell X (iw:=0) (i:=2) (j:=3) rfl rfl rfl hj hy ?_
    obtain ⟨dx,a,l,hp⟩:=W.ob
    refine ⟨_,rfl,p,dx,_,rfl,hp,(by first | exact no_q15 _ _ _ | exact no_q11 _ _ _ | exact no_q12 _ _ _ | exact no_q13 _ _ _ | exact no_q17 _ _ _ | exact no_q16 _ _ _ | exact no_q14 _ _ _),_,rfl,_,rfl,_,rfl,_,_,rfl,rfl,⟨h2,hle i y⟩,_,rfl,_,_,rfl,rfl,_,rfl,_,_,rfl,rfl,⟨h2,hle j y⟩,_,_,rfl,rfl,by omega,_,rfl,?_⟩
    have hql:(E1.lq e i j y).natAbs≤2^B:=Nat.le_trans (E1.quo_le hnz) (hle i y)
    exact ⟨H0,p,e,m,n,s,cs,i,j,E1.lq e i j y,rfl,W,hi,hj,hij,hql,hle,hz,fun H' W'=>k H' W'⟩
inductive SpMeet (B:Nat) (C:Addr) (vs:List V) (H:Hp) (Q:VK):Prop
  | mk (H0:Hp) (p:Addr) (e e':E1.Tab) (m n:Nat) (s:Bool) (cs:List Ch) (top low y:Nat) (L:List E1.RC) (_:vs=[.ref p,.int top,.int low,.int y]) (_:WalkAt C H0 H p e m n s cs) (_:E1.MeetR B top low y e L e') (_:top<m) (_:low<m) (_:top≠low) (_:y<n) (_:cs.length+L.length≤sizeLine) (_:∀H',WalkAt C H0 H' p e' m n s (cs++L.map (tc s))→Q .non H'):SpMeet B C vs H Q
def spMeet (B:Nat) (C:Addr):Sp:=fun vs H Q _=>SpMeet B C vs H Q
theorem ok_q10 {B:Nat} (D:MDefAt K C "meet" "Walk.meet" s_q10 ["self","top","low","place"]) (T:Bt mg) (X:WTxt K C) (M_q15:MCallee P w K mg base C 41 "lessen" ["self","one","two","place"] (spLess B C)) (M_q13:MCallee P w K mg base C 4 "swap_rows" ["self","one","two"] (spSwapR B C)):MCallee P w K mg base C 42 "meet" ["self","top","low","place"] (spMeet B C):=by
  refine D.ok (k:=41) X.cl sc_q10 (fun vs H Q E h=>?_) (fun f cdv A outer s H vs Q E hr h=>?_)
  · obtain ⟨_,_,_,_,_,_,_,_,_,_,_,_,rfl,_⟩:=h
    rfl
  · obtain ⟨H0,p,e,e',m,n,s,cs,top,low,y,L,rfl,W,hm,ht,hl,htl,hy,hz,k⟩:=h
    refine ⟨_,(pss_one (ps_while PassesOwn.never (pt_cmpR op_ne (pe_ix ix_list (pe_ix ix_list (pe_fld (pv 0) rfl) (pv 2) (fun _ _=>rfl)) (pv 3) (fun _ _=>rfl)) pe_int (nomark _)) (pss_cons (ps_expr (pe_methC M_q15 (pv 0) (hr.mono (by decide)) (pa_cons (pv 2) (pa_cons (pv 1) (pa_cons (pv 3) pa_nil)))))
        (pss_one (ps_if (pt_cmpR op_ne (pe_ix ix_list (pe_ix ix_list (pe_fld (pv 0) rfl) (pv 2) (fun _ _=>rfl)) (pv 3) (fun _ _=>rfl)) pe_int (nomark _)) (pss_cons (ps_expr (pe_methC M_q15 (pv 0) (hr.mono (by decide)) (pa_cons (pv 1) (pa_cons (pv 2) (pa_cons (pv 3) pa_nil)))))
        (pss_one (ps_if (pt_cmpR op_eq (pe_ix ix_list (pe_ix ix_list (pe_fld (pv 0) rfl) (pv 1) (fun _ _=>rfl)) (pv 3) (fun _ _=>rfl)) pe_int (nomark _)) (pss_one (ps_expr (pe_methC M_q13 (pv 0) (hr.mono (by decide)) (pa_cons (pv 1) (pa_cons (pv 2) pa_nil))))) pss_nil))) pss_nil))))),?_⟩
    obtain ⟨N,hN⟩:=E1.meetH_of hm
    refine ⟨fun M σ H2=>σ=[some (.ref p),some (.int top),some (.int low),some (.int y)]∧∃(e1:E1.Tab) (cs1:List Ch) (L1:List E1.RC),E1.MeetH B top low y M e1 L1 e'∧WalkAt C H0 H2 p e1 m n s cs1∧cs1++L1.map (tc s)=cs++L.map (tc s),⟨N,rfl,e,cs,L,hN,W,rfl⟩,?_⟩
    rintro M σ H2 ⟨rfl,e1,cs1,L1,hM,W1,hcs⟩
    have hlen:cs1.length+L1.length=cs.length+L.length:=by
      have:=congrArg List.length hcs
      simpa using this
    refine W1.cell X (iw:=0) (i:=2) (j:=3) rfl rfl rfl hl hy ⟨rfl,_,rfl,?_⟩
    cases M with
    | zero=>exact absurd hM (by simp [E1.MeetH])
    | succ M =>
    rcases hM with ⟨hle,h0,rfl,rfl⟩ | ⟨hle,h0,h1,e2,he2,hle2,hM⟩
    · rw [h0]
      refine iteF ?_
      exact k H2 (by rw [←hcs];simpa using W1)
    · refine iteNN (v_ne h0) ?_
      refine ⟨fun σ' H'=>σ'=[some (.ref p),some (.int top),some (.int low),some (.int y)]∧∃(e1:E1.Tab) (cs1:List Ch) (L1:List E1.RC),E1.MeetH B top low y M e1 L1 e'∧WalkAt C H0 H' p e1 m n s cs1∧cs1++L1.map (tc s)=cs++L.map (tc s),fun σ' H' z=>⟨M,Nat.lt_succ_self _,z⟩,?_⟩
      obtain ⟨dx,a,l,hp⟩:=W1.ob
      have hz1:cs1.length+(E1.lch low top (E1.lq e1 low top y)).length≤sizeLine:=by
        rcases hM with ⟨_,rfl,_⟩ | ⟨_,e3,_,_,⟨_,L2,_,rfl⟩ | ⟨_,rfl,_⟩⟩
        · omega
        · simp only [List.length_append] at hlen;omega
        · simp only [List.length_append] at hlen;omega
      refine ⟨_,rfl,p,dx,_,rfl,hp,(by first | exact no_q15 _ _ _ | exact no_q11 _ _ _ | exact no_q12 _ _ _ | exact no_q13 _ _ _ | exact no_q17 _ _ _ | exact no_q16 _ _ _ | exact no_q14 _ _ _),_,rfl,_,rfl,_,rfl,H0,p,e1,m,n,s,cs1,low,top,y,rfl,W1,hl,ht,htl.symm,hy,h1,hle,hz1,fun H3 W3=>?_⟩
      rw [←he2] at W3
      refine W3.cell X (iw:=0) (i:=2) (j:=3) rfl rfl rfl hl hy ⟨rfl,_,rfl,?_⟩
      rcases hM with ⟨g0,rfl,rfl,k',rfl⟩ | ⟨g0,e3,he3,hle3,hM⟩
      · rw [g0]
        refine iteF ⟨rfl,e',_,[],?_,W3,?_⟩
        · exact .inl ⟨hle2,g0,rfl,rfl⟩
        · simpa using hcs
      · refine iteNN (v_ne g0) ?_
        obtain ⟨dx3,a3,l3,hp3⟩:=W3.ob
        have hz3:(cs1++(E1.lch low top (E1.lq e1 low top y)).map (tc s)).length+(E1.lch top low (E1.lq e2 top low y)).length≤sizeLine:=by
          rcases hM with ⟨_,L2,_,rfl⟩ | ⟨_,rfl,_⟩ <;> simp at hlen ⊢ <;> omega
        refine ⟨_,rfl,p,dx3,_,rfl,hp3,(by first | exact no_q15 _ _ _ | exact no_q11 _ _ _ | exact no_q12 _ _ _ | exact no_q13 _ _ _ | exact no_q17 _ _ _ | exact no_q16 _ _ _ | exact no_q14 _ _ _),_,rfl,_,rfl,_,rfl,H0,p,e2,m,n,s,_,top,low,y,rfl,W3,ht,hl,htl,hy,g0,hle2,hz3,fun H4 W4=>?_⟩
        rw [←he3] at W4
        refine W4.cell X (iw:=0) (i:=1) (j:=3) rfl rfl rfl ht hy ⟨rfl,_,rfl,?_⟩
        rcases hM with ⟨g1,L2,hM2,rfl⟩ | ⟨g1,rfl,rfl,g2,g3,k',rfl⟩
        · refine iteN (v_ne g1) ⟨rfl,e3,_,L2,hM2,W4,?_⟩
          rw [←hcs];simp
        · refine iteP (congrArg V.int g1) ?_
          obtain ⟨dx4,a4,l4,hp4⟩:=W4.ob
          refine ⟨_,rfl,p,dx4,_,rfl,hp4,(by first | exact no_q15 _ _ _ | exact no_q11 _ _ _ | exact no_q12 _ _ _ | exact no_q13 _ _ _ | exact no_q17 _ _ _ | exact no_q16 _ _ _ | exact no_q14 _ _ _),_,rfl,_,rfl,H0,p,e3,m,n,s,_,top,low,rfl,W4,ht,hl,hle3,by rw [if_neg htl];simp at hlen ⊢;omega,fun H5 W5=>?_⟩
          rw [if_neg htl] at W5
          refine ⟨rfl,_,_,[],?_,W5,?_⟩
          · exact .inl ⟨g3,g2,rfl,rfl⟩
          · rw [←hcs];simp
end
end X1
namespace X1
open PySem L2
def stV (st:List Nat):List V:=st.map fun i=>V.int (i:Nat)
theorem stV_len (st:List Nat):(stV st).length=st.length:=by simp [stV]
theorem stV_at {st:List Nat} {i:Nat} (h:i<st.length):(stV st)[i]?=some (.int (E1.sat st i:Nat)):=by
  simp [stV,E1.sat,h]
theorem upd_id {H:Hp} {q:Addr} {o:HO} (h:H q=some o):upd H q o=H:=by
  funext b
  unfold upd
  split
  · rename_i z;rw [z,h]
  · rfl
theorem same_put {H0:Hp} {q:Addr} {o:HO} (h:H0 q=none):Same H0 (upd H0 q o):=same_upd h
section
variable {P:Program} {w:World} {K:PySem.W.Frag} {mg:Str→Option Value} {base:Heap} {C:Addr}
inductive SpFirst (vs:List V) (H:Hp) (Q:VK):Prop
  | mk (r:Addr) (row:List Int) (_:vs=[.ref r]) (_:IsRow H r row) (_:∀H',Same H H'→Q (.int (E1.fp (fun y=>row.getD y 0) 0 row.length:Nat)) H'):SpFirst vs H Q
def spFirst:Sp:=fun vs H Q _=>SpFirst vs H Q
theorem ok_q00 (D:DefAt K mg "first_place" s_q00 ["row"]) (T:Bt mg):Callee P w K mg base 1 "first_place" ["row"] spFirst:=by
  refine D.ok (k:=0) sc_q00 (fun vs H Q E h=>?_) (fun f cdv A outer s H vs Q E hr h=>?_)
  · obtain ⟨_,_,rfl,_⟩:=h
    rfl
  · obtain ⟨r,row,rfl,hrow,k⟩:=h
    refine ⟨_,(pss_cons (ps_for PassesOwn.never rfl (pi_enum rfl T.enumerate (pa_cons (pv 0) pa_nil)) (pg_tup (n:=2) rfl (pgs_cons (pg_name (i:=1) sc_q00.nd rfl (Or.inl rfl)) (pgs_cons (pg_name (i:=2) sc_q00.nd rfl (Or.inl rfl)) pgs_nil))) (pss_one (ps_if (pt_cmpR op_ne (pv 2) pe_int (nomark _)) (pss_one (ps_ret (pv 1))) pss_nil)))
        (pss_one (ps_ret (pe_callB call_len_seq rfl T.len bt_len (pa_cons (pv 0) pa_nil))))),?_⟩
    refine ⟨_,rfl,r,_,rfl,SqL.of hrow,for_it (J:=Ite K r) (n:=row.length) (fun i σ H2=>Same H H2∧(∃v1 v2,σ=[some (.ref r),v1,v2])∧∀z,z<i→row.getD z 0=0) ⟨Same.refl H,⟨none,none,rfl⟩,fun z hz=>absurd hz (Nat.not_lt_zero _)⟩
      (fun i σ H2 hi ⟨sm,_⟩=>⟨_,SqL.of (sm _ _ hrow),by rw [List.length_map];exact hi⟩) (fun σ H2 ⟨sm,_⟩=>⟨_,SqL.of (sm _ _ hrow),by rw [List.length_map];exact Nat.le_refl _⟩) ?_ ?_⟩
    · rintro i x σ H2 H3 hi ⟨sm,⟨v1,v2,rfl⟩,hz⟩ ⟨q,u,rfl,hq,rfl,hu⟩
      obtain ⟨u',eu,rfl⟩:=mint (hu _ (SqL.of (sm _ _ hrow)))
      have eu':row.getD i 0=u':=by simp [eu]
      refine ⟨q,_,rfl,SqT.of upd_same,rfl,_,_,rfl,_,_,rfl,rfl,?_⟩
      refine ⟨_,rfl,rfl,_,rfl,?_⟩
      by_cases h0:u'=0
      · refine iteNS (by rw [h0]) ⟨sm.laid hq,⟨_,_,rfl⟩,fun z hzi=>?_⟩
        by_cases e:z=i
        · rw [e,eu',h0]
        · exact hz z (by omega)
      · refine iteNN (v_ne h0) ⟨_,rfl,?_⟩
        have e:E1.fp (fun y=>row.getD y 0) 0 row.length=i:=E1.fp_from _ _ _ (Nat.zero_le _) (by omega) (fun z _ hzi=>hz z hzi) (by show row.getD i 0≠0;rw [eu'];exact h0)
        have:=k (upd H2 q (.tup [.int (i:Nat),.int u'])) (sm.laid hq)
        rw [e] at this
        exact this
    · rintro σ H2 ⟨sm,⟨v1,v2,rfl⟩,hz⟩
      have e:E1.fp (fun y=>row.getD y 0) 0 row.length=row.length:=by
        rw [E1.fp_none row.length 0 (fun z _ hzi=>hz z (by omega))];omega
      have:=k H2 sm
      rw [e] at this
      refine ⟨_,rfl,r,_,rfl,.inl (SqL.of (sm _ _ hrow)),?_⟩
      rw [List.length_map]
      exact this
inductive SpLRow (B:Nat) (C:Addr) (vs:List V) (H:Hp) (Q:VK):Prop
  | mk (H0:Hp) (p q:Addr) (e e':E1.Tab) (m n:Nat) (s:Bool) (cs:List Ch) (st:List Nat) (row t:Nat) (L:List E1.RC) (_:vs=[.ref p,.ref q,.int row,.int t]) (_:WalkAt C H0 H p e m n s cs) (_:H0 q=some (.lst (stV st))) (_:E1.LRow B st row t (st.length - t) e L e') (_:row<m) (_:t≤2000) (_:st.length≤m) (_:(∀i,t≤i→i<st.length→i≠row∧E1.sat st i<n)) (_:cs.length+L.length≤sizeLine) (_:∀H',WalkAt C H0 H' p e' m n s (cs++L.map (tc s))→Q .non H'):SpLRow B C vs H Q
def spLRow (B:Nat) (C:Addr):Sp:=fun vs H Q _=>SpLRow B C vs H Q
theorem ok_q03 {B:Nat} (D:DefAt K mg "lessen_row" s_q03 ["walk","steps","row","start"]) (T:Bt mg) (X:WTxt K C) (M_q15:MCallee P w K mg base C 41 "lessen" ["self","one","two","place"] (spLess B C)):Callee P w K mg base 42 "lessen_row" ["walk","steps","row","start"] (spLRow B C):=by
  refine D.ok (k:=41) sc_q03 (fun vs H Q E h=>?_) (fun f cdv A outer s H vs Q E hr h=>?_)
  · obtain ⟨_,_,_,_,_,_,_,_,_,_,_,_,_,rfl,_⟩:=h
    rfl
  · obtain ⟨H0,p,q,e,e',m,n,s,cs,st,row,t,L,rfl,W,hq,hL,hrow,ht,hst,hi,hz,k⟩:=h
    refine ⟨_,(pss_one (ps_for PassesOwn.never rfl (pi_range2 rfl T.range (pa_cons (pv 3) (pa_cons (pe_callB call_len_seq rfl T.len bt_len (pa_cons (pv 1) pa_nil)) pa_nil))) (pg_name (i:=4) sc_q03.nd rfl (Or.inl rfl)) (pss_one (ps_expr (pe_methC M_q15 (pv 0) (hr.mono (by decide)) (pa_cons (pv 2) (pa_cons (pv 4) (pa_cons (pe_ix ix_list (pv 1) (pv 4) (fun _ _=>rfl)) pa_nil)))))))),?_⟩
    have hq1:=W.same _ _ hq
    have hm1:=W.m1
    refine ⟨_,rfl,_,rfl,q,_,rfl,.inl (SqL.of hq1),_,_,rfl,⟨by omega,by omega,by omega,by rw [stV_len];omega⟩,?_⟩
    rw [stV_len]
    have en:((st.length:Int) - (t:Int)).toNat=st.length - t:=by omega
    rw [en]
    refine for_range (fun i σ H2=>∃(v:Option V) (e1:E1.Tab) (cs1:List Ch) (L1:List E1.RC),σ=[some (.ref p),some (.ref q),some (.int row),some (.int t),v]∧E1.LRow B st row (t+i) (st.length - t - i) e1 L1 e'∧WalkAt C H0 H2 p e1 m n s cs1∧cs1++L1.map (tc s)=cs++L.map (tc s)) ⟨none,e,cs,L,rfl,hL,W,rfl⟩ ?_ ?_
    · rintro i σ H2 hlt ⟨v,e1,cs1,L1,rfl,hL1,W1,hcs⟩
      have hlen:cs1.length+L1.length=cs.length+L.length:=by
        have:=congrArg List.length hcs
        simpa using this
      obtain ⟨k',hk'⟩:∃k',st.length - t - i=k'+1:=pred_sub hlt
      rw [hk'] at hL1
      obtain ⟨hle,hnz,L2,hL2,rfl⟩:=hL1
      have ex:((t:Int)+(i:Int))=((t+i:Nat):Int):=by omega
      rw [ex]
      obtain ⟨hne,hsn⟩:=hi (t+i) (by omega) (by omega)
      obtain ⟨dx,a,l,hp⟩:=W1.ob
      have hqa:(stV st)[t+i]?=some (.int (E1.sat st (t+i):Nat)):=stV_at (by omega)
      refine ⟨_,rfl,p,dx,_,rfl,hp,(by first | exact no_q15 _ _ _ | exact no_q11 _ _ _ | exact no_q12 _ _ _ | exact no_q13 _ _ _ | exact no_q17 _ _ _ | exact no_q16 _ _ _ | exact no_q14 _ _ _),_,rfl,_,rfl,_,rfl,_,rfl,q,_,_,_,rfl,rfl,SqL.of (W1.same _ _ hq),atI_nat hqa,H0,p,e1,m,n,s,cs1,row,t+i,E1.sat st (t+i),rfl,W1,hrow,by omega,hne.symm,hsn,hnz,hle,by simp at hlen;omega,fun H3 W3=>?_⟩
      refine ⟨_,_,_,L2,rfl,?_,W3,?_⟩
      · have e2:st.length - t - (i+1)=k':=sub_succ' hk'
        rw [e2];exact hL2
      · rw [←hcs];simp
    · rintro σ H2 ⟨v,e1,cs1,L1,rfl,hL1,W1,hcs⟩
      have e2:st.length - t - (st.length - t)=0:=by omega
      rw [e2] at hL1
      obtain ⟨_,rfl,rfl⟩:=hL1
      exact k H2 (by rw [←hcs];simpa using W1)
inductive SpLift (B:Nat) (C:Addr) (vs:List V) (H:Hp) (Q:VK):Prop
  | mk (H0:Hp) (p:Addr) (e:E1.Tab) (m n:Nat) (s:Bool) (cs:List Ch) (low top ht:Nat) (_:vs=[.ref p,.int low,.int top,.int ht]) (_:WalkAt C H0 H p e m n s cs) (_:low<m) (_:ht≤low) (_:top≤ht) (_:E1.Le B e) (_:cs.length+(E1.liftL low top ht).length≤sizeLine) (_:∀H',WalkAt C H0 H' p (E1.rapps (E1.liftL low top ht) e) m n s (cs++(E1.liftL low top ht).map (tc s))→Q .non H'):SpLift B C vs H Q
def spLift (B:Nat) (C:Addr):Sp:=fun vs H Q _=>SpLift B C vs H Q
theorem ok_q04 {B:Nat} (D:DefAt K mg "lift" s_q04 ["walk","low","top","height"]) (T:Bt mg) (X:WTxt K C) (M_q13:MCallee P w K mg base C 4 "swap_rows" ["self","one","two"] (spSwapR B C)):Callee P w K mg base 5 "lift" ["walk","low","top","height"] (spLift B C):=by
  refine D.ok (k:=4) sc_q04 (fun vs H Q E h=>?_) (fun f cdv A outer s H vs Q E hr h=>?_)
  · obtain ⟨_,_,_,_,_,_,_,_,_,_,rfl,_⟩:=h
    rfl
  · obtain ⟨H0,p,e,m,n,s,cs,low,top,ht,rfl,W,hlow,h1,h2,hle,hz,k⟩:=h
    refine ⟨_,(pss_cons (ps_expr (pe_methC M_q13 (pv 0) (hr.mono (by decide)) (pa_cons (pv 1) (pa_cons (pv 3) pa_nil))))
        (pss_one (ps_for PassesOwn.never rfl (pi_rangeD rfl T.range (pa_cons (pv 3) (pa_cons (pv 2) (pa_cons (pe_un un_neg pe_int) pa_nil)))) (pg_name (i:=4) sc_q04.nd rfl (Or.inl rfl)) (pss_one (ps_expr (pe_methC M_q13 (pv 0) (hr.mono (by decide)) (pa_cons (pv 4) (pa_cons (pe_op op_sub (pv 4) pe_int) pa_nil)))))))),?_⟩
    have hm1:=W.m1
    obtain ⟨dx,a,l,hp⟩:=W.ob
    unfold E1.liftL at hz k
    rw [List.length_append] at hz
    refine ⟨_,rfl,p,dx,_,rfl,hp,(by first | exact no_q15 _ _ _ | exact no_q11 _ _ _ | exact no_q12 _ _ _ | exact no_q13 _ _ _ | exact no_q17 _ _ _ | exact no_q16 _ _ _ | exact no_q14 _ _ _),_,rfl,_,rfl,H0,p,e,m,n,s,cs,low,ht,rfl,W,hlow,by omega,hle,by omega,fun H1 W1=>?_⟩
    generalize hL1:(if low=ht then [] else [E1.RC.swap low ht])=L1 at hz k W1
    have hle1:E1.Le B (E1.rapps L1 e):=by
      rw [←hL1]
      split
      · exact hle
      · exact fun x y=>hle _ _
    refine ⟨_,rfl,_,rfl,_,rfl,_,_,rfl,⟨by omega,by omega,by omega,by omega⟩,?_⟩
    have en:((ht:Int) - (top:Int)).toNat=ht - top:=by omega
    rw [en]
    refine for_down (fun i σ H2=>∃(v:Option V) (e1:E1.Tab) (cs1:List Ch),σ=[some (.ref p),some (.int low),some (.int top),some (.int ht),v]∧WalkAt C H0 H2 p e1 m n s cs1∧E1.Le B e1∧E1.rapps (E1.downs top (ht - top - i)) e1=E1.rapps (L1++E1.downs top (ht - top)) e∧cs1++(E1.downs top (ht - top - i)).map (tc s)=cs++(L1++E1.downs top (ht - top)).map (tc s)) ⟨none,_,_,rfl,W1,hle1,by rw [E1.rapps_app];rfl,by simp⟩ ?_ ?_
    · rintro i σ H2 hlt ⟨v,e1,cs1,rfl,W2,hle2,he,hcs⟩
      obtain ⟨k',hk'⟩:∃k',ht - top - i=k'+1:=pred_sub hlt
      rw [hk'] at he hcs
      have hlen:=congrArg List.length hcs
      simp only [List.length_append,List.length_map,E1.downs_len] at hlen hz
      obtain ⟨dx2,a2,l2,hp2⟩:=W2.ob
      have ex1:((ht:Int) - (i:Int))=((top+k'+1:Nat):Int):=by omega
      have ex2:((top+k'+1:Nat):Int) - 1=((top+k':Nat):Int):=by omega
      rw [ex1]
      refine ⟨_,rfl,p,dx2,_,rfl,hp2,(by first | exact no_q15 _ _ _ | exact no_q11 _ _ _ | exact no_q12 _ _ _ | exact no_q13 _ _ _ | exact no_q17 _ _ _ | exact no_q16 _ _ _ | exact no_q14 _ _ _),_,rfl,_,rfl,_,_,rfl,rfl,?_⟩
      dsimp only
      rw [ex2]
      have hne:¬ top+k'+1=top+k':=by omega
      refine ⟨H0,p,e1,m,n,s,cs1,top+k'+1,top+k',rfl,W2,by omega,by omega,hle2,by rw [if_neg hne];simp;omega,fun H3 W3=>?_⟩
      rw [if_neg hne] at W3
      have e2:ht - top - (i+1)=k':=sub_succ' hk'
      refine ⟨_,_,_,rfl,W3,fun x y=>hle2 _ _,?_,?_⟩
      · rw [e2,←he];rfl
      · rw [e2,←hcs];simp [E1.downs]
    · rintro σ H2 ⟨v,e1,cs1,rfl,W2,_,he,hcs⟩
      have e2:ht - top - (ht - top)=0:=by omega
      rw [e2] at he hcs
      refine k H2 ?_
      rw [←he,←hcs]
      simpa [E1.downs,E1.rapps] using W2
inductive SpTake (B:Nat) (C:Addr) (vs:List V) (H:Hp) (Q:VK):Prop
  | mk (H0:Hp) (p q:Addr) (e e1 e2:E1.Tab) (m n:Nat) (s:Bool) (cs:List Ch) (st st1:List Nat) (low top:Nat) (L1 L2:List E1.RC) (_:vs=[.ref p,.ref q,.int low]) (_:WalkAt C H0 H p e m n s cs) (_:H0 q=some (.lst (stV st))) (_:E1.TakeR B low n st 0 e L1 top e1) (_:top≤st.length) (_:st.length≤low) (_:low<m) (_:((E1.fp (e1 low) 0 n<n∧st1=E1.ins st top (E1.fp (e1 low) 0 n)∧L2=E1.liftL low top st.length∧e2=E1.rapps L2 e1)∨(¬ E1.fp (e1 low) 0 n<n∧st1=st∧L2=[]∧e2=e1))) (_:(∀i,i<st.length→E1.sat st i<n)) (_:cs.length+(L1++L2).length≤sizeLine) (_:∀H',WalkAt C (upd H0 q (.lst (stV st1))) H' p e2 m n s (cs++(L1++L2).map (tc s))→Q .non H'):SpTake B C vs H Q
def spTake (B:Nat) (C:Addr):Sp:=fun vs H Q _=>SpTake B C vs H Q
theorem TakeR_le {B low n:Nat} {st:List Nat} {t top:Nat} {e e':E1.Tab} {L:List E1.RC} (h:E1.TakeR B low n st t e L top e'):E1.Le B e':=by
  induction h with
  | stop h _=>exact h
  | skip _ _ _ _ ih=>exact ih
  | meet _ _ _ _ _ _ _ ih=>exact ih
theorem stV_ins (st:List Nat) (top x:Nat):stV (E1.ins st top x)=(stV st).take top++V.int (x:Nat)::(stV st).drop top:=by
  simp [stV,E1.ins,List.map_take,List.map_drop]
theorem tAnd_of {tA tB:TT} {c1 c2:Bool} {σ:St} {H:Hp} {Q:Bool→Hp→Prop} (hA:∀R:Bool→Hp→Prop,R c1 H→tA σ H R) (hB:c1=true→∀R:Bool→Hp→Prop,(∀H3,Same H H3→R c2 H3)→tB σ H R) (k:∀H3,Same H H3→Q (c1&&c2) H3):tAnd tA tB σ H Q:=by
  refine hA _ ?_
  cases c1 with
  | false=>exact iteF (k H (Same.refl H))
  | true=>exact iteT (hB rfl _ fun H3 s=>k H3 s)
theorem ok_q02 {B:Nat} (D:DefAt K mg "take_in" s_q02 ["walk","steps","low"]) (T:Bt mg) (X:WTxt K C) (C_q00:Callee P w K mg base 1 "first_place" ["row"] spFirst) (M_q16:MCallee P w K mg base C 42 "meet" ["self","top","low","place"] (spMeet B C)) (C_q03:Callee P w K mg base 42 "lessen_row" ["walk","steps","row","start"] (spLRow B C)) (C_q04:Callee P w K mg base 5 "lift" ["walk","low","top","height"] (spLift B C)):Callee P w K mg base 43 "take_in" ["walk","steps","low"] (spTake B C):=by
  refine D.ok (k:=42) sc_q02 (fun vs H Q E h=>?_) (fun f cdv A outer s H vs Q E hr h=>?_)
  · obtain ⟨_,_,_,_,_,_,_,_,_,_,_,_,_,_,_,_,rfl,_⟩:=h
    rfl
  · obtain ⟨H0,p,q,e,e1,e2,m,n,s,cs,st,st1,low,top,L1,L2,rfl,W,hq,hT,htop,hst,hlow,hcase,hsat,hz,k⟩:=h
    refine ⟨_,(pss_cons (ps_set (i:=3) sc_q02.nd rfl (Or.inl rfl) pe_int)
        (pss_cons (ps_while PassesOwn.never (PW.pt (pw_and (pt_cmpR op_lt (pv 3) (pe_callB call_len_seq rfl T.len bt_len (pa_cons (pv 1) pa_nil)) (nomark _)) (pw_and1 (pt_cmpR op_le (pe_ix ix_list (pv 1) (pv 3) (fun _ _=>rfl)) (pe_callC C_q00 (hr.mono (by decide)) rfl (pa_cons (pe_ix ix_list (pe_fld (pv 0) rfl) (pv 2) (fun _ _=>rfl)) pa_nil)) (nomark _))))) (pss_cons (ps_if (pt_cmpR op_eq (pe_ix ix_list (pv 1) (pv 3) (fun _ _=>rfl)) (pe_callC C_q00 (hr.mono (by decide)) rfl (pa_cons (pe_ix ix_list (pe_fld (pv 0) rfl) (pv 2) (fun _ _=>rfl)) pa_nil)) (nomark _)) (pss_cons (ps_expr (pe_methC M_q16 (pv 0) (hr.mono (by decide)) (pa_cons (pv 3) (pa_cons (pv 2) (pa_cons (pe_ix ix_list (pv 1) (pv 3) (fun _ _=>rfl)) pa_nil)))))
        (pss_cons (ps_expr (pe_callC C_q03 (hr.mono (by decide)) rfl (pa_cons (pv 0) (pa_cons (pv 1) (pa_cons (pv 3) (pa_cons (pe_op op_add (pv 3) pe_int) pa_nil))))))
        (pss_one (ps_expr (pe_callC C_q03 (hr.mono (by decide)) rfl (pa_cons (pv 0) (pa_cons (pv 1) (pa_cons (pv 2) (pa_cons (pe_op op_add (pv 3) pe_int) pa_nil))))))))) pss_nil)
        (pss_one (ps_aug (i:=3) sc_q02.nd rfl (Or.inl rfl) pe_int ip_add))))
        (pss_cons (ps_set (i:=4) sc_q02.nd rfl (Or.inl rfl) (pe_callC C_q00 (hr.mono (by decide)) rfl (pa_cons (pe_ix ix_list (pe_fld (pv 0) rfl) (pv 2) (fun _ _=>rfl)) pa_nil)))
        (pss_one (ps_if (pt_cmpR op_lt (pv 4) (pe_callB call_len_seq rfl T.len bt_len (pa_cons (pe_ix ix_list (pe_fld (pv 0) rfl) (pv 2) (fun _ _=>rfl)) pa_nil)) (nomark _)) (pss_cons (ps_expr (pe_callC C_q04 (hr.mono (by decide)) rfl (pa_cons (pv 0) (pa_cons (pv 2) (pa_cons (pv 3) (pa_cons (pe_callB call_len_seq rfl T.len bt_len (pa_cons (pv 1) pa_nil)) pa_nil))))))
        (pss_one (ps_expr (pe_bm PySem.F.plainAttrs_list PySem.F.slot_list_insert PySem.F.type_list_insert mt_insert (pv 1) (pa_cons (pv 3) (pa_cons (pv 4) pa_nil)))))) pss_nil))))),?_⟩
    have hm1:=W.m1
    have hle1:=TakeR_le hT
    refine ⟨fun M σ H2=>∃(t:Nat) (ea:E1.Tab) (csa:List Ch) (La:List E1.RC) (v:Option V),σ=[some (.ref p),some (.ref q),some (.int low),some (.int t),v]∧M=st.length - t∧E1.TakeR B low n st t ea La top e1∧WalkAt C H0 H2 p ea m n s csa∧csa++La.map (tc s)=cs++L1.map (tc s),⟨_,0,e,cs,L1,none,rfl,rfl,hT,W,rfl⟩,?_⟩
    rintro M σ H2 ⟨t,ea,csa,La,v,rfl,rfl,hTa,Wa,hcs⟩
    have hlen:csa.length+La.length=cs.length+L1.length:=by
      have:=congrArg List.length hcs
      simpa using this
    have hqa:=Wa.same _ _ hq
    refine tAnd_of (c1:=decide (t<st.length)) (c2:=decide (E1.sat st t≤E1.fp (ea low) 0 n)) (fun R hR=>?_) (fun hc R hR=>?_) (fun H3 s3=>?_)
    · refine ⟨_,rfl,_,rfl,q,_,rfl,.inl (SqL.of hqa),_,_,rfl,rfl,_,rfl,?_⟩
      have ed:decide ((t:Int)<(((stV st).length:Nat):Int))=decide (t<st.length):=by
        rw [stV_len];exact decide_eq_decide.mpr (by omega)
      rw [ed];exact hR
    · have hlt:t<st.length:=by simpa using hc
      refine ⟨_,rfl,_,rfl,q,_,_,_,rfl,rfl,SqL.of hqa,atI_nat (stV_at hlt),Wa.rowAt X (iw:=0) (i:=2) rfl rfl hlow fun r row hrow hlr her=>⟨r,row,rfl,hrow,fun H4 s4=>⟨_,_,rfl,rfl,_,rfl,?_⟩⟩⟩
      have ev:E1.fp (fun y=>row.getD y 0) 0 row.length=E1.fp (ea low) 0 n:=by rw [her,hlr]
      have ed:decide (((E1.sat st t:Nat):Int)≤((E1.fp (fun y=>row.getD y 0) 0 row.length:Nat):Int))=decide (E1.sat st t≤E1.fp (ea low) 0 n):=by
        rw [ev];exact decide_eq_decide.mpr (by omega)
      rw [ed];exact hR H4 s4
    have W3:=Wa.on s3
    have hq3:=W3.same _ _ hq
    cases hTa with
    | stop hle hno =>
      have eb:(decide (top<st.length)&&decide (E1.sat st top≤E1.fp (e1 low) 0 n))=false:=by
        rw [←Bool.decide_and];exact decide_eq_false hno
      refine iteB0 eb ?_
      refine W3.rowAt X (iw:=0) (i:=2) rfl rfl hlow fun r row hrow hlr her=>⟨r,row,rfl,hrow,fun H4 s4=>?_⟩
      have ev:E1.fp (fun y=>row.getD y 0) 0 row.length=E1.fp (e1 low) 0 n:=by rw [her,hlr]
      rw [ev]
      have W4:=W3.on s4
      have hq4:=W4.same _ _ hq
      refine ⟨_,rfl,W4.rowAt X (iw:=0) (i:=2) rfl rfl hlow fun r2 row2 hrow2 hlr2 her2=>⟨r2,_,rfl,.inl (SqL.of hrow2),_,_,rfl,rfl,_,rfl,?_⟩⟩
      rw [List.length_map,hlr2]
      have hcs':csa=cs++L1.map (tc s):=by simpa using hcs
      rcases hcase with ⟨hf,rfl,rfl,rfl⟩ | ⟨hf,rfl,rfl,rfl⟩
      · refine iteP (by omega) ?_
        refine ⟨_,rfl,_,rfl,_,rfl,_,rfl,q,_,rfl,.inl (SqL.of hq4),H0,p,e1,m,n,s,csa,low,top,st.length,by rw [stV_len];rfl,W4,hlow,hst,htop,hle,by simp at hlen hz;omega,fun H6 W6=>?_⟩
        have hq6:=W6.same _ _ hq
        refine ⟨_,rfl,.inl ⟨rfl,_,SqL.of hq6⟩,_,rfl,_,rfl,q,_,top,_,rfl,rfl,hq6,by rw [stV_len];exact htop,by rw [stV_len];exact Nat.lt_of_lt_of_le (by omega:st.length<1000) (by decide),?_⟩
        refine k _ ?_
        rw [stV_ins,List.map_append,←List.append_assoc,←hcs']
        exact W6.put hq (fun xs z=>by cases z)
      · refine iteN (by omega) ?_
        refine k H4 ?_
        rw [upd_id hq,List.append_nil,←hcs']
        exact W4
    | skip hle hlt hsk hrest =>
      have eb:(decide (t<st.length)&&decide (E1.sat st t≤E1.fp (ea low) 0 n))=true:=by
        rw [←Bool.decide_and];exact decide_eq_true ⟨hlt,by omega⟩
      refine iteB eb ⟨fun σ' H'=>∃(ea:E1.Tab) (csa:List Ch) (La:List E1.RC) (v:Option V),σ'=[some (.ref p),some (.ref q),some (.int low),some (.int (t+1:Nat)),v]∧E1.TakeR B low n st (t+1) ea La top e1∧WalkAt C H0 H' p ea m n s csa∧csa++La.map (tc s)=cs++L1.map (tc s),fun σ' H' ⟨ea,csa,La,v,z1,z2,z3,z4⟩=>⟨st.length - (t+1),by omega,t+1,ea,csa,La,v,z1,rfl,z2,z3,z4⟩,?_⟩
      refine ⟨_,rfl,_,rfl,q,_,_,_,rfl,rfl,SqL.of hq3,atI_nat (stV_at hlt),W3.rowAt X (iw:=0) (i:=2) rfl rfl hlow fun r row hrow hlr her=>⟨r,row,rfl,hrow,fun H4 s4=>⟨rfl,_,rfl,?_⟩⟩⟩
      have ev:E1.fp (fun y=>row.getD y 0) 0 row.length=E1.fp (ea low) 0 n:=by rw [her,hlr]
      rw [ev]
      refine iteN (v_ne (by omega)) ⟨_,rfl,_,_,rfl,rfl,?_⟩
      exact ⟨ea,csa,La,v,rfl,hrest,W3.on s4,hcs⟩
    | meet hle hlt hme hM hA hC hrest =>
      rename_i eb ec ed LA LB LC LD
      have eb':(decide (t<st.length)&&decide (E1.sat st t≤E1.fp (ea low) 0 n))=true:=by
        rw [←Bool.decide_and];exact decide_eq_true ⟨hlt,by omega⟩
      refine iteB eb' ⟨fun σ' H'=>∃(ea:E1.Tab) (csa:List Ch) (La:List E1.RC) (v:Option V),σ'=[some (.ref p),some (.ref q),some (.int low),some (.int (t+1:Nat)),v]∧E1.TakeR B low n st (t+1) ea La top e1∧WalkAt C H0 H' p ea m n s csa∧csa++La.map (tc s)=cs++L1.map (tc s),fun σ' H' ⟨ea,csa,La,v,z1,z2,z3,z4⟩=>⟨st.length - (t+1),by omega,t+1,ea,csa,La,v,z1,rfl,z2,z3,z4⟩,?_⟩
      refine ⟨_,rfl,_,rfl,q,_,_,_,rfl,rfl,SqL.of hq3,atI_nat (stV_at hlt),W3.rowAt X (iw:=0) (i:=2) rfl rfl hlow fun r row hrow hlr her=>⟨r,row,rfl,hrow,fun H4 s4=>⟨rfl,_,rfl,?_⟩⟩⟩
      have ev:E1.fp (fun y=>row.getD y 0) 0 row.length=E1.fp (ea low) 0 n:=by rw [her,hlr]
      rw [ev]
      refine iteP (by rw [hme]) ?_
      have W4:=W3.on s4
      have hq4:=W4.same _ _ hq
      obtain ⟨dx,a,l,hp⟩:=W4.ob
      simp only [List.length_append] at hlen
      refine ⟨_,rfl,p,dx,_,rfl,hp,(by first | exact no_q15 _ _ _ | exact no_q11 _ _ _ | exact no_q12 _ _ _ | exact no_q13 _ _ _ | exact no_q17 _ _ _ | exact no_q16 _ _ _ | exact no_q14 _ _ _),_,rfl,_,rfl,_,rfl,_,rfl,q,_,_,_,rfl,rfl,SqL.of hq4,atI_nat (stV_at hlt),H0,p,ea,eb,m,n,s,csa,t,low,E1.sat st t,LA,rfl,W4,hM,by omega,hlow,by omega,hsat t hlt,by simp at hz;omega,fun H5 W5=>?_⟩
      refine ⟨_,rfl,_,rfl,_,rfl,_,rfl,_,_,rfl,rfl,H0,p,q,eb,ec,m,n,s,_,st,t,t+1,LB,rfl,W5,hq,hA,by omega,by omega,by omega,fun i h1 h2=>⟨by omega,hsat i h2⟩,by simp at hz ⊢;omega,fun H6 W6=>?_⟩
      refine ⟨_,rfl,_,rfl,_,rfl,_,rfl,_,_,rfl,rfl,H0,p,q,ec,ed,m,n,s,_,st,low,t+1,LC,rfl,W6,hq,hC,hlow,by omega,by omega,fun i h1 h2=>⟨by omega,hsat i h2⟩,by simp at hz ⊢;omega,fun H7 W7=>?_⟩
      refine ⟨_,rfl,_,_,rfl,rfl,?_⟩
      exact ⟨ed,_,LD,v,rfl,hrest,W7,by rw [←hcs];simp⟩
inductive SpBuild (B:Nat) (C:Addr) (vs:List V) (H:Hp) (Q:VK):Prop
  | mk (H0:Hp) (p:Addr) (e e':E1.Tab) (m n:Nat) (s:Bool) (cs:List Ch) (st':List Nat) (L:List E1.RC) (_:vs=[.ref p]) (_:WalkAt C H0 H p e m n s cs) (_:E1.Build B n m 0 [] e L st' e') (_:cs.length+L.length≤sizeLine) (_:∀q H',H0 q=none→WalkAt C (upd H0 q (.lst (stV st'))) H' p e' m n s (cs++L.map (tc s))→Q (.ref q) H'):SpBuild B C vs H Q
def spBuild (B:Nat) (C:Addr):Sp:=fun vs H Q _=>SpBuild B C vs H Q
theorem ok_q01 {B:Nat} (D:DefAt K mg "build_stairs" s_q01 ["walk"]) (T:Bt mg) (X:WTxt K C) (C_q02:Callee P w K mg base 43 "take_in" ["walk","steps","low"] (spTake B C)) (C_q03:Callee P w K mg base 42 "lessen_row" ["walk","steps","row","start"] (spLRow B C)):Callee P w K mg base 44 "build_stairs" ["walk"] (spBuild B C):=by
  refine D.ok (k:=43) sc_q01 (fun vs H Q E h=>?_) (fun f cdv A outer s H vs Q E hr h=>?_)
  · obtain ⟨_,_,_,_,_,_,_,_,_,_,rfl,_⟩:=h
    rfl
  · obtain ⟨H0,p,e,e',m,n,s,cs,st',L,rfl,W,hB,hz,k⟩:=h
    refine ⟨_,(pss_cons (ps_set (i:=1) sc_q01.nd rfl (Or.inl rfl) (pe_lst pa_nil))
        (pss_cons (ps_for PassesOwn.never rfl (pi_range1 rfl T.range (pa_cons (pe_callB call_len_seq rfl T.len bt_len (pa_cons (pe_fld (pv 0) rfl) pa_nil)) pa_nil)) (pg_name (i:=2) sc_q01.nd rfl (Or.inl rfl)) (pss_cons (ps_expr (pe_callC C_q02 (hr.mono (by decide)) rfl (pa_cons (pv 0) (pa_cons (pv 1) (pa_cons (pv 2) pa_nil)))))
        (pss_one (ps_for PassesOwn.never rfl (pi_rangeD rfl T.range (pa_cons (pe_op op_sub (pe_callB call_len_seq rfl T.len bt_len (pa_cons (pv 1) pa_nil)) pe_int) (pa_cons (pe_un un_neg pe_int) (pa_cons (pe_un un_neg pe_int) pa_nil)))) (pg_name (i:=3) sc_q01.nd rfl (Or.inl rfl)) (pss_one (ps_expr (pe_callC C_q03 (hr.mono (by decide)) rfl (pa_cons (pv 0) (pa_cons (pv 1) (pa_cons (pv 3) (pa_cons (pe_op op_add (pv 3) pe_int) pa_nil)))))))))))
        (pss_one (ps_ret (pv 1))))),?_⟩
    have hm1:=W.m1
    refine ⟨Nat.zero_le _,fun q hq=>?_⟩
    have hq0:H0 q=none:=W.same.free hq
    have W1:=W.laid (o:=.lst []) hq
    refine W1.rows X (iw:=0) rfl fun a rs Tt hta hrt hent hnew=>⟨a,_,rfl,.inl (SqL.of hta.tab.1),_,rfl,by omega,by rw [List.length_map,hta.len hrt];omega,?_⟩
    rw [List.length_map,hta.len hrt]
    refine for_range0 (fun i σ H2=>∃(v2 v3:Option V) (st:List Nat) (ea:E1.Tab) (csa:List Ch) (La:List E1.RC),σ=[some (.ref p),some (.ref q),v2,v3]∧E1.Build B n (m - i) i st ea La st' e'∧WalkAt C (upd H0 q (.lst (stV st))) H2 p ea m n s csa∧csa++La.map (tc s)=cs++L.map (tc s)∧(∀j,j<st.length→E1.sat st j<n)) ⟨none,none,[],e,cs,L,rfl,hB,W1,rfl,fun j h=>absurd h (by simp)⟩ ?_ ?_
    · rintro low σ H2 hlow ⟨v2,v3,st,ea,csa,La,rfl,hBa,Wa,hcs,hsat⟩
      have hlow':low<m:=by simpa using hlow
      obtain ⟨k',hk'⟩:∃k',m - low=k'+1:=pred_sub hlow'
      rw [hk'] at hBa
      obtain ⟨LA,top,e1,st1,LB,e2,LC,e3,LD,hT,htop,hst,hcase,hR,hB2,rfl⟩:=hBa
      have hlen:csa.length+(LA++(LB++(LC++LD))).length=cs.length+L.length:=by
        have:=congrArg List.length hcs
        simpa using this
      simp only [List.length_append] at hlen
      have hsat1:∀j,j<st1.length→E1.sat st1 j<n:=by
        rcases hcase with ⟨hf,rfl,_,_⟩ | ⟨_,rfl,_,_⟩
        · intro j hj
          rw [E1.ins_len htop] at hj
          rw [E1.ins_sat htop]
          split
          · exact hsat j (by omega)
          · split
            · exact hf
            · exact hsat (j - 1) (by omega)
        · exact hsat
      have hlen1:st1.length≤low+1:=by
        rcases hcase with ⟨_,rfl,_,_⟩ | ⟨_,rfl,_,_⟩
        · rw [E1.ins_len htop];omega
        · omega
      refine ⟨_,rfl,_,rfl,_,rfl,upd H0 q (.lst (stV st)),p,q,ea,e1,e2,m,n,s,csa,st,st1,low,top,LA,LB,rfl,Wa,upd_same,hT,htop,hst,hlow',hcase,hsat,by simp;omega,fun H3 W3=>?_⟩
      rw [upd_upd] at W3
      have hq3:=W3.same _ _ (upd_same (H:=H0) (a:=q) (o:=.lst (stV st1)))
      refine ⟨_,rfl,q,_,rfl,.inl (SqL.of hq3),_,_,rfl,rfl,_,rfl,_,rfl,_,_,rfl,⟨by omega,by rw [stV_len];omega,by omega,by omega⟩,?_⟩
      rw [stV_len]
      have en:((st1.length:Int) - 1 - -1).toNat=st1.length:=by omega
      rw [en]
      refine for_down (fun i σ H4=>∃(v3:Option V) (eb:E1.Tab) (csb:List Ch) (Lb:List E1.RC),σ=[some (.ref p),some (.ref q),some (.int low),v3]∧E1.Red B st1 (st1.length - i) eb Lb e3∧WalkAt C (upd H0 q (.lst (stV st1))) H4 p eb m n s csb∧csb++Lb.map (tc s)=csa++(LA++(LB++LC)).map (tc s)) ⟨_,_,_,LC,rfl,hR,W3,by simp⟩ ?_ ?_
      · rintro i σ H4 hi ⟨v3,eb,csb,Lb,rfl,hRb,Wb,hcb⟩
        obtain ⟨k2,hk2⟩:∃k2,st1.length - i=k2+1:=pred_sub hi
        rw [hk2] at hRb
        obtain ⟨LE,ee,LF,hLE,hRF,rfl⟩:=hRb
        have hlb:csb.length+(LE++LF).length=csa.length+(LA++(LB++LC)).length:=by
          have:=congrArg List.length hcb
          simpa using this
        simp only [List.length_append] at hlb
        have ex:((st1.length:Int) - 1 - (i:Int))=((k2:Nat):Int):=by omega
        rw [ex]
        refine ⟨_,rfl,_,rfl,_,rfl,_,rfl,_,_,rfl,rfl,upd H0 q (.lst (stV st1)),p,q,eb,ee,m,n,s,csb,st1,k2,k2+1,LE,rfl,Wb,upd_same,hLE,by omega,by omega,by omega,fun j h1 h2=>⟨by omega,hsat1 j h2⟩,by omega,fun H5 W5=>?_⟩
        have e2':st1.length - (i+1)=k2:=sub_succ' hk2
        refine ⟨_,ee,_,LF,rfl,?_,W5,?_⟩
        · rw [e2'];exact hRF
        · rw [←hcb];simp
      · rintro σ H4 ⟨v3,eb,csb,Lb,rfl,hRb,Wb,hcb⟩
        rw [Nat.sub_self] at hRb
        obtain ⟨_,rfl,rfl⟩:=hRb
        have e2':m - (low+1)=k':=sub_succ' hk'
        refine ⟨_,_,st1,_,csb,LD,rfl,?_,Wb,?_,hsat1⟩
        · rw [e2'];exact hB2
        · have:csb=csa++(LA++(LB++LC)).map (tc s):=by simpa using hcb
          rw [this,←hcs];simp
    · rintro σ H2 ⟨v2,v3,st,ea,csa,La,rfl,hBa,Wa,hcs,hsat⟩
      have e2:m - ((m:Nat):Int).toNat=0:=by simp
      rw [e2] at hBa
      obtain ⟨_,rfl,rfl,rfl⟩:=hBa
      exact ⟨_,rfl,k q H2 hq0 (by rw [←hcs];simpa using Wa)⟩
inductive SpBoth (B:Nat) (C:Addr) (vs:List V) (H:Hp) (Q:VK):Prop
  | mk (H0:Hp) (p:Addr) (e e':E1.Tab) (m n:Nat) (cs:List Ch) (L1 L2:List E1.RC) (_:vs=[.ref p]) (_:WalkAt C H0 H p e m n true cs) (_:E1.Both B m n e L1 L2 e') (_:cs.length+(L1.length+L2.length)≤sizeLine) (_:∀H',WalkAt C H0 H' p e' m n true (cs++(L1.map (Prod.mk true)++L2.map (Prod.mk false)).map toCh)→Q .non H'):SpBoth B C vs H Q
def spBoth (B:Nat) (C:Addr):Sp:=fun vs H Q _=>SpBoth B C vs H Q
theorem tc_map (s:Bool) (L:List E1.RC):L.map (tc s)=(L.map (Prod.mk s)).map toCh:=by rw [List.map_map];rfl
theorem ok_q0d {B:Nat} (D:DefAt K mg "build_both_stairs" s_q0d ["walk"]) (T:Bt mg) (X:WTxt K C) (C_q01:Callee P w K mg base 44 "build_stairs" ["walk"] (spBuild B C)) (M_q17:MCallee P w K mg base C 2 "tip_over" ["self"] (spTip C)):Callee P w K mg base 45 "build_both_stairs" ["walk"] (spBoth B C):=by
  refine D.ok (k:=44) sc_q0d (fun vs H Q E h=>?_) (fun f cdv A outer s H vs Q E hr h=>?_)
  · obtain ⟨_,_,_,_,_,_,_,_,_,rfl,_⟩:=h
    rfl
  · obtain ⟨H0,p,e,e',m,n,cs,L1,L2,rfl,W,⟨st1,e1,st2,e2,hB1,hB2,rfl⟩,hz,k⟩:=h
    refine ⟨_,(pss_cons (ps_expr (pe_callC C_q01 (hr.mono (by decide)) rfl (pa_cons (pv 0) pa_nil)))
        (pss_cons (ps_expr (pe_methC0 M_q17 (pv 0) (hr.mono (by decide))))
        (pss_cons (ps_expr (pe_callC C_q01 (hr.mono (by decide)) rfl (pa_cons (pv 0) pa_nil)))
        (pss_one (ps_expr (pe_methC0 M_q17 (pv 0) (hr.mono (by decide)))))))),?_⟩
    refine ⟨_,rfl,H0,p,e,e1,m,n,true,cs,st1,L1,rfl,W,hB1,by omega,fun q1 H1 hq1 W1=>?_⟩
    have W1:=W1.sub (same_put hq1)
    obtain ⟨dx,a,l,hp⟩:=W1.ob
    refine ⟨_,rfl,p,dx,_,rfl,hp,(by first | exact no_q15 _ _ _ | exact no_q11 _ _ _ | exact no_q12 _ _ _ | exact no_q13 _ _ _ | exact no_q17 _ _ _ | exact no_q16 _ _ _ | exact no_q14 _ _ _),H0,p,e1,m,n,true,_,rfl,W1,fun H2 W2=>?_⟩
    refine ⟨_,rfl,H0,p,E1.tipT e1,e2,n,m,false,_,st2,L2,rfl,W2,hB2,by simp;omega,fun q3 H3 hq3 W3=>?_⟩
    have W3:=W3.sub (same_put hq3)
    obtain ⟨dx3,a3,l3,hp3⟩:=W3.ob
    refine ⟨_,rfl,p,dx3,_,rfl,hp3,(by first | exact no_q15 _ _ _ | exact no_q11 _ _ _ | exact no_q12 _ _ _ | exact no_q13 _ _ _ | exact no_q17 _ _ _ | exact no_q16 _ _ _ | exact no_q14 _ _ _),H0,p,e2,n,m,false,_,rfl,W3,fun H4 W4=>?_⟩
    refine k H4 ?_
    rw [List.map_append,←tc_map,←tc_map,←List.append_assoc]
    exact W4
end
end X1
namespace X1
open PySem L2
section
variable {P:Program} {w:World} {K:PySem.W.Frag} {mg:Str→Option Value} {base:Heap} {C:Addr}
inductive SpBeside (vs:List V) (H:Hp) (Q:VK):Prop
  | mk (a:Addr) (rs:List Addr) (T:Tb) (m n:Nat) (_:vs=[.ref a]) (_:TabAt H a rs T) (_:Rect m n T) (_:∀b H',(b=true↔E1.beside m n (ent T))→Same H H'→Q (.bl b) H'):SpBeside vs H Q
def spBeside:Sp:=fun vs H Q _=>SpBeside vs H Q
theorem ok_q0e (D:DefAt K mg "has_number_beside" s_q0e ["rows"]) (T:Bt mg):Callee P w K mg base 1 "has_number_beside" ["rows"] spBeside:=by
  refine D.ok (k:=0) sc_q0e (fun vs H Q E h=>?_) (fun f cdv A outer s H vs Q E hr h=>?_)
  · obtain ⟨_,_,_,_,_,rfl,_⟩:=h
    rfl
  · obtain ⟨a,rs,Tt,m,n,rfl,ht,hr',k⟩:=h
    refine ⟨_,(pss_cons (ps_for PassesOwn.never rfl (pi_enum rfl T.enumerate (pa_cons (pv 0) pa_nil)) (pg_tup (n:=2) rfl (pgs_cons (pg_name (i:=1) sc_q0e.nd rfl (Or.inl rfl)) (pgs_cons (pg_name (i:=2) sc_q0e.nd rfl (Or.inl rfl)) pgs_nil))) (pss_one (ps_for PassesOwn.never rfl (pi_enum rfl T.enumerate (pa_cons (pv 2) pa_nil)) (pg_tup (n:=2) rfl (pgs_cons (pg_name (i:=3) sc_q0e.nd rfl (Or.inl rfl)) (pgs_cons (pg_name (i:=4) sc_q0e.nd rfl (Or.inl rfl)) pgs_nil))) (pss_one (ps_if (PW.pt (pw_and (pt_cmpR op_ne (pv 3) (pv 1) (nomark _)) (pw_and1 (pt_cmpR op_ne (pv 4) pe_int (nomark _))))) (pss_one (ps_ret pe_bl)) pss_nil)))))
        (pss_one (ps_ret pe_bl))),?_⟩
    have h1:=ht.tab.1
    have hl:=ht.len hr'
    refine ⟨_,rfl,a,_,rfl,SqL.of h1,for_it (J:=Ite K a) (n:=m) (fun i σ H2=>Same H H2∧(∃v1 v2 v3 v4,σ=[some (.ref a),v1,v2,v3,v4])∧∀x,x<i→∀y,y<n→y≠x→ent Tt x y=0) ⟨Same.refl H,⟨none,none,none,none,rfl⟩,fun x hx=>absurd hx (Nat.not_lt_zero _)⟩
      (fun i σ H2 hi ⟨sm,_⟩=>⟨_,SqL.of (sm _ _ h1),by rw [List.length_map,hl];exact hi⟩) (fun σ H2 ⟨sm,_⟩=>⟨_,SqL.of (sm _ _ h1),by rw [List.length_map,hl];exact Nat.le_refl _⟩) ?_ ?_⟩
    · rintro i x σ H2 H3 hi ⟨sm,⟨v1,v2,v3,v4,rfl⟩,hz⟩ ⟨q,u,rfl,hq,rfl,hu⟩
      obtain ⟨r,er,rfl⟩:=mref (hu _ (SqL.of (sm _ _ h1)))
      obtain ⟨r',er',_,hrow,hlr⟩:=ht.at hr' hi
      rw [er] at er';cases er'
      refine ⟨q,_,rfl,SqT.of upd_same,rfl,_,_,rfl,_,_,rfl,rfl,?_⟩
      have sm3:Same H (upd H2 q (.tup [.int (i:Nat),.ref r])):=sm.laid hq
      generalize upd H2 q (.tup [.int (i:Nat),.ref r])=H3 at sm3 ⊢
      refine ⟨_,rfl,r,_,rfl,SqL.of (sm3 _ _ hrow),for_it (J:=Ite K r) (n:=n) (fun j σ H4=>Same H H4∧(∃v3 v4,σ=[some (.ref a),some (.int (i:Nat)),some (.ref r),v3,v4])∧∀y,y<j→y≠i→ent Tt i y=0) ⟨sm3,⟨_,_,rfl⟩,fun y hy=>absurd hy (Nat.not_lt_zero _)⟩
        (fun j σ H4 hj ⟨sm,_⟩=>⟨_,SqL.of (sm _ _ hrow),by rw [List.length_map,hlr];exact hj⟩) (fun σ H4 ⟨sm,_⟩=>⟨_,SqL.of (sm _ _ hrow),by rw [List.length_map,hlr];exact Nat.le_refl _⟩) ?_ ?_⟩
      · rintro j x σ H4 H5 hj ⟨sm4,⟨v3,v4,rfl⟩,hy⟩ ⟨q2,u2,rfl,hq2,rfl,hu2⟩
        obtain ⟨u',eu,rfl⟩:=mint (hu2 _ (SqL.of (sm4 _ _ hrow)))
        have eu':ent Tt i j=u':=(cell_of eu).symm
        refine ⟨q2,_,rfl,SqT.of upd_same,rfl,_,_,rfl,_,_,rfl,rfl,?_⟩
        refine ⟨_,rfl,_,rfl,rfl,_,rfl,?_⟩
        by_cases hij:j=i
        · refine iteNS (by rw [hij]) (iteF ⟨sm4.laid hq2,⟨_,_,rfl⟩,fun y hy1 hy2=>hy y (by omega) hy2⟩)
        · refine iteNN (v_ne (by omega)) ⟨_,rfl,rfl,_,rfl,?_⟩
          by_cases h0:u'=0
          · refine iteNS (by rw [h0]) ⟨sm4.laid hq2,⟨_,_,rfl⟩,fun y hy1 hy2=>?_⟩
            by_cases e:y=j
            · rw [e,eu',h0]
            · exact hy y (by omega) hy2
          · refine iteNN (v_ne h0) ?_
            exact k true _ ⟨fun _=>⟨i,j,hi,hj,hij,by rw [eu'];exact h0⟩,fun _=>rfl⟩ (sm4.laid hq2)
      · rintro σ H4 ⟨sm4,⟨v3,v4,rfl⟩,hy⟩
        refine ⟨sm4,⟨_,_,_,_,rfl⟩,fun x hx y hyn hyx=>?_⟩
        by_cases e:x=i
        · subst e;exact hy y hyn hyx
        · exact hz x (by omega) y hyn hyx
    · rintro σ H2 ⟨sm,⟨v1,v2,v3,v4,rfl⟩,hz⟩
      refine k false _ ⟨(fun h=>nomatch h),fun ⟨x,y,hx,hy,hne,h0⟩=>absurd (hz x hx y hy hne) h0⟩ sm
inductive SpLen (vs:List V) (H:Hp) (Q:VK):Prop
  | mk (a:Addr) (rs:List Addr) (T:Tb) (m n:Nat) (_:vs=[.ref a]) (_:TabAt H a rs T) (_:Rect m n T) (_:0<m) (_:Q (.int (min m n:Nat)) H):SpLen vs H Q
def spLen:Sp:=fun vs H Q _=>SpLen vs H Q
theorem ok_q0c (D:DefAt K mg "diagonal_length" s_q0c ["rows"]) (T:Bt mg):Callee P w K mg base 1 "diagonal_length" ["rows"] spLen:=by
  refine D.ok (k:=0) sc_q0c (fun vs H Q E h=>?_) (fun f cdv A outer s H vs Q E hr h=>?_)
  · obtain ⟨_,_,_,_,_,rfl,_⟩:=h
    rfl
  · obtain ⟨a,rs,Tt,m,n,rfl,ht,hr',hm0,k⟩:=h
    refine ⟨_,(pss_one (ps_ret (pe_callB (call_min2 rfl) rfl T.min bt_min (pa_cons (pe_callB call_len_seq rfl T.len bt_len (pa_cons (pv 0) pa_nil)) (pa_cons (pe_callB call_len_seq rfl T.len bt_len (pa_cons (pe_ix ix_list (pv 0) pe_int (fun _ _=>rfl)) pa_nil)) pa_nil))))),?_⟩
    have h1:=ht.tab.1
    have hl:=ht.len hr'
    obtain ⟨r0,e0,_,hr0,hl0⟩:=ht.at hr' hm0
    refine ⟨_,rfl,a,_,rfl,.inl (SqL.of h1),_,rfl,a,_,_,_,rfl,rfl,SqL.of h1,atI_nat (j:=0) (rget e0),r0,_,rfl,.inl (SqL.of hr0),_,_,rfl,?_⟩
    rw [List.length_map,List.length_map,hl,hl0]
    have e:(if ((n:Nat):Int)<((m:Nat):Int) then ((n:Nat):Int) else ((m:Nat):Int))=((min m n:Nat):Int):=by
      split <;> omega
    rw [e];exact k
inductive SpLink (B:Nat) (C:Addr) (vs:List V) (H:Hp) (Q:VK):Prop
  | mk (H0:Hp) (p:Addr) (e e':E1.Tab) (m n:Nat) (cs:List Ch) (one two:Nat) (L:List (Bool×E1.RC)) (_:vs=[.ref p,.int one,.int two]) (_:WalkAt C H0 H p e m n true cs) (_:E1.LinkR B one two e L e') (_:one<two) (_:two<m) (_:two<n) (_:cs.length+L.length≤sizeLine) (_:∀H',WalkAt C H0 H' p e' m n true (cs++L.map toCh)→Q .non H'):SpLink B C vs H Q
def spLink (B:Nat) (C:Addr):Sp:=fun vs H Q _=>SpLink B C vs H Q
theorem ok_q0g {B:Nat} (D:DefAt K mg "link" s_q0g ["walk","one","two"]) (T:Bt mg) (X:WTxt K C) (M_q12:MCallee P w K mg base C 4 "add_times" ["self","one","two","many"] (spAdd B C)) (M_q17:MCallee P w K mg base C 2 "tip_over" ["self"] (spTip C)) (M_q16:MCallee P w K mg base C 42 "meet" ["self","top","low","place"] (spMeet B C)) (M_q15:MCallee P w K mg base C 41 "lessen" ["self","one","two","place"] (spLess B C)):Callee P w K mg base 43 "link" ["walk","one","two"] (spLink B C):=by
  refine D.ok (k:=42) sc_q0g (fun vs H Q E h=>?_) (fun f cdv A outer s H vs Q E hr h=>?_)
  · obtain ⟨_,_,_,_,_,_,_,_,_,_,rfl,_⟩:=h
    rfl
  · obtain ⟨H0,p,e,e',m,n,cs,one,two,L,rfl,W,⟨hle,hle1,L2,e2,hM,hle2,hnz,rfl,hle',rfl⟩,h12,h2m,h2n,hz,k⟩:=h
    refine ⟨_,(pss_cons (ps_expr (pe_methC M_q12 (pv 0) (hr.mono (by decide)) (pa_cons (pv 1) (pa_cons (pv 2) (pa_cons pe_int pa_nil)))))
        (pss_cons (ps_expr (pe_methC0 M_q17 (pv 0) (hr.mono (by decide))))
        (pss_cons (ps_expr (pe_methC M_q16 (pv 0) (hr.mono (by decide)) (pa_cons (pv 1) (pa_cons (pv 2) (pa_cons (pv 1) pa_nil)))))
        (pss_cons (ps_expr (pe_methC0 M_q17 (pv 0) (hr.mono (by decide))))
        (pss_one (ps_expr (pe_methC M_q15 (pv 0) (hr.mono (by decide)) (pa_cons (pv 2) (pa_cons (pv 1) (pa_cons (pv 1) pa_nil)))))))))),?_⟩
    obtain ⟨dx,a,l,hp⟩:=W.ob
    simp only [List.length_cons,List.length_append,List.length_map] at hz
    have el:E1.lch one two 1=[.add one two 1]:=rfl
    refine ⟨_,rfl,p,dx,_,rfl,hp,(by first | exact no_q15 _ _ _ | exact no_q11 _ _ _ | exact no_q12 _ _ _ | exact no_q13 _ _ _ | exact no_q17 _ _ _ | exact no_q16 _ _ _ | exact no_q14 _ _ _),_,rfl,_,rfl,H0,p,e,m,n,true,cs,one,two,1,rfl,W,by omega,h2m,by omega,Nat.one_le_two_pow,hle,by rw [el];simp;omega,fun H1 W1=>?_⟩
    obtain ⟨dx1,a1,l1,hp1⟩:=W1.ob
    refine ⟨_,rfl,p,dx1,_,rfl,hp1,(by first | exact no_q15 _ _ _ | exact no_q11 _ _ _ | exact no_q12 _ _ _ | exact no_q13 _ _ _ | exact no_q17 _ _ _ | exact no_q16 _ _ _ | exact no_q14 _ _ _),H0,p,_,m,n,true,_,rfl,W1,fun H2 W2=>?_⟩
    obtain ⟨dx2,a2,l2,hp2⟩:=W2.ob
    refine ⟨_,rfl,p,dx2,_,rfl,hp2,(by first | exact no_q15 _ _ _ | exact no_q11 _ _ _ | exact no_q12 _ _ _ | exact no_q13 _ _ _ | exact no_q17 _ _ _ | exact no_q16 _ _ _ | exact no_q14 _ _ _),_,rfl,_,rfl,_,rfl,H0,p,_,e2,n,m,false,_,one,two,one,L2,rfl,W2,hM,by omega,h2n,by omega,by omega,by rw [el];simp;omega,fun H3 W3=>?_⟩
    obtain ⟨dx3,a3,l3,hp3⟩:=W3.ob
    refine ⟨_,rfl,p,dx3,_,rfl,hp3,(by first | exact no_q15 _ _ _ | exact no_q11 _ _ _ | exact no_q12 _ _ _ | exact no_q13 _ _ _ | exact no_q17 _ _ _ | exact no_q16 _ _ _ | exact no_q14 _ _ _),H0,p,e2,n,m,false,_,rfl,W3,fun H4 W4=>?_⟩
    obtain ⟨dx4,a4,l4,hp4⟩:=W4.ob
    refine ⟨_,rfl,p,dx4,_,rfl,hp4,(by first | exact no_q15 _ _ _ | exact no_q11 _ _ _ | exact no_q12 _ _ _ | exact no_q13 _ _ _ | exact no_q17 _ _ _ | exact no_q16 _ _ _ | exact no_q14 _ _ _),_,rfl,_,rfl,_,rfl,H0,p,E1.tipT e2,m,n,true,_,two,one,one,rfl,W4,h2m,by omega,by omega,by omega,hnz,E1.le_tip hle2,by rw [el];simp;omega,fun H5 W5=>?_⟩
    refine k H5 ?_
    have:cs++((true,E1.RC.add one two 1)::(L2.map (Prod.mk false)++(E1.lch two one (E1.lq (E1.tipT e2) two one one)).map (Prod.mk true))).map toCh=cs++(E1.lch one two 1).map (tc true)++L2.map (tc false)++(E1.lch two one (E1.lq (E1.tipT e2) two one one)).map (tc true):=by
      rw [tc_map,tc_map,tc_map,el]
      simp
    rw [this]
    exact W5
inductive SpChain (B:Nat) (C:Addr) (vs:List V) (H:Hp) (Q:VK):Prop
  | mk (H0:Hp) (p:Addr) (e e':E1.Tab) (m n:Nat) (cs:List Ch) (L:List (Bool×E1.RC)) (_:vs=[.ref p]) (_:WalkAt C H0 H p e m n true cs) (_:E1.ChainO B (min m n) (min m n) 0 e L e') (_:cs.length+L.length≤sizeLine) (_:∀H',WalkAt C H0 H' p e' m n true (cs++L.map toCh)→Q .non H'):SpChain B C vs H Q
def spChain (B:Nat) (C:Addr):Sp:=fun vs H Q _=>SpChain B C vs H Q
theorem ok_q0f {B:Nat} (D:DefAt K mg "chain" s_q0f ["walk"]) (T:Bt mg) (X:WTxt K C) (C_q0c:Callee P w K mg base 1 "diagonal_length" ["rows"] spLen) (C_q0g:Callee P w K mg base 43 "link" ["walk","one","two"] (spLink B C)):Callee P w K mg base 44 "chain" ["walk"] (spChain B C):=by
  refine D.ok (k:=43) sc_q0f (fun vs H Q E h=>?_) (fun f cdv A outer s H vs Q E hr h=>?_)
  · obtain ⟨_,_,_,_,_,_,_,_,rfl,_⟩:=h
    rfl
  · obtain ⟨H0,p,e,e',m,n,cs,L,rfl,W,hC,hz,k⟩:=h
    refine ⟨_,(pss_cons (ps_set (i:=1) sc_q0f.nd rfl (Or.inl rfl) (pe_callC C_q0c (hr.mono (by decide)) rfl (pa_cons (pe_fld (pv 0) rfl) pa_nil)))
        (pss_one (ps_for PassesOwn.never rfl (pi_range1 rfl T.range (pa_cons (pv 1) pa_nil)) (pg_name (i:=2) sc_q0f.nd rfl (Or.inl rfl)) (pss_one (ps_for PassesOwn.never rfl (pi_range2 rfl T.range (pa_cons (pe_op op_add (pv 2) pe_int) (pa_cons (pv 1) pa_nil))) (pg_name (i:=3) sc_q0f.nd rfl (Or.inl rfl)) (pss_one (ps_if (PW.pt (pw_and (pt_cmpR op_ne (pe_ix ix_list (pe_ix ix_list (pe_fld (pv 0) rfl) (pv 3) (fun _ _=>rfl)) (pv 3) (fun _ _=>rfl)) pe_int (nomark _)) (pw_and1 (pt_cmpR op_ne (pe_op op_modN (pe_ix ix_list (pe_ix ix_list (pe_fld (pv 0) rfl) (pv 3) (fun _ _=>rfl)) (pv 3) (fun _ _=>rfl)) (pe_ix ix_list (pe_ix ix_list (pe_fld (pv 0) rfl) (pv 2) (fun _ _=>rfl)) (pv 2) (fun _ _=>rfl))) pe_int (nomark _))))) (pss_one (ps_expr (pe_callC C_q0g (hr.mono (by decide)) rfl (pa_cons (pv 0) (pa_cons (pv 2) (pa_cons (pv 3) pa_nil)))))) pss_nil))))))),?_⟩
    have hm1:=W.m1
    refine W.rows X (iw:=0) rfl fun a rs Tt hta hrt hent hnew=>⟨a,rs,Tt,m,n,rfl,hta,hrt,W.m0,?_⟩
    generalize hlen:min m n=len at hC ⊢
    have hlm:len≤m∧len≤n:=by omega
    refine ⟨_,rfl,_,rfl,by omega,by omega,?_⟩
    refine for_range0 (fun i σ H2=>∃(v2 v3:Option V) (ea:E1.Tab) (csa:List Ch) (La:List (Bool×E1.RC)),σ=[some (.ref p),some (.int (len:Nat)),v2,v3]∧E1.ChainO B len (len - i) i ea La e'∧WalkAt C H0 H2 p ea m n true csa∧csa++La.map toCh=cs++L.map toCh) ⟨none,none,e,cs,L,rfl,hC,W,rfl⟩ ?_ ?_
    · rintro one σ H2 hone ⟨v2,v3,ea,csa,La,rfl,hCa,Wa,hcs⟩
      have hone':one<len:=by simpa using hone
      obtain ⟨k',hk'⟩:∃k',len - one=k'+1:=pred_sub hone'
      rw [hk'] at hCa
      obtain ⟨LA,e1,LB,hI,hO,rfl⟩:=hCa
      have hl1:csa.length+(LA++LB).length=cs.length+L.length:=by
        have:=congrArg List.length hcs
        simpa using this
      simp only [List.length_append] at hl1
      refine ⟨_,rfl,_,_,rfl,rfl,_,rfl,_,_,rfl,⟨by omega,by omega,by omega,by omega⟩,?_⟩
      have en:(((len:Nat):Int) - ((one:Int)+1)).toNat=len - (one+1):=by omega
      rw [en]
      refine for_range (fun i σ H3=>∃(v3:Option V) (eb:E1.Tab) (csb:List Ch) (Lb:List (Bool×E1.RC)),σ=[some (.ref p),some (.int (len:Nat)),some (.int (one:Nat)),v3]∧E1.ChainI B one (len - (one+1) - i) (one+1+i) eb Lb e1∧WalkAt C H0 H3 p eb m n true csb∧csb++Lb.map toCh=csa++LA.map toCh) ⟨_,ea,csa,LA,rfl,hI,Wa,rfl⟩ ?_ ?_
      · rintro i σ H3 hi ⟨v3,eb,csb,Lb,rfl,hIb,Wb,hcb⟩
        obtain ⟨k2,hk2⟩:∃k2,len - (one+1) - i=k2+1:=pred_sub hi
        rw [hk2] at hIb
        obtain ⟨hle,hnz,hIb⟩:=hIb
        have ex:((one:Int)+1+(i:Int))=((one+1+i:Nat):Int):=by omega
        rw [ex]
        generalize htwo:one+1+i=two at hnz hIb ⊢
        have htl:two<len:=by omega
        have e2':len - (one+1) - (i+1)=k2:=sub_succ' hk2
        have e3':one+1+(i+1)=two+1:=by omega
        have hlb:csb.length+Lb.length=csa.length+LA.length:=by
          have:=congrArg List.length hcb
          simpa using this
        refine Wb.cell X (iw:=0) (i:=3) (j:=3) rfl rfl rfl (by omega) (by omega) ⟨rfl,_,rfl,?_⟩
        rcases hIb with ⟨h0,hnd,LC,e4,LD,hLk,hI2,rfl⟩ | ⟨hno,hI2⟩
        · refine iteNN (v_ne h0) ?_
          have h1:=hnz h0
          refine Wb.cell X (iw:=0) (i:=3) (j:=3) rfl rfl rfl (by omega) (by omega) ?_
          refine Wb.cell X (iw:=0) (i:=2) (j:=2) rfl rfl rfl (by omega) (by omega) ⟨_,_,rfl,rfl,h1,rfl,_,rfl,iteNN (v_ne fun z=>hnd (Int.dvd_of_fmod_eq_zero z)) ?_⟩
          simp only [List.length_append] at hlb
          refine ⟨_,rfl,_,rfl,_,rfl,H0,p,eb,e4,m,n,csb,one,two,LC,rfl,Wb,hLk,by omega,by omega,by omega,by omega,fun H4 W4=>?_⟩
          refine ⟨_,e4,_,LD,rfl,?_,W4,?_⟩
          · rw [e2',e3'];exact hI2
          · rw [←hcb];simp
        · have fin:∃(v3:Option V) (eb:E1.Tab) (csb:List Ch) (Lb:List (Bool×E1.RC)),[some (V.ref p),some (V.int (len:Nat)),some (V.int (one:Nat)),some (V.int (two:Nat))]=[some (.ref p),some (.int (len:Nat)),some (.int (one:Nat)),v3]∧E1.ChainI B one (len - (one+1) - (i+1)) (one+1+(i+1)) eb Lb e1∧WalkAt C H0 H3 p eb m n true csb∧csb++Lb.map toCh=csa++LA.map toCh:=by
            refine ⟨_,eb,csb,Lb,rfl,?_,Wb,hcb⟩
            rw [e2',e3'];exact hI2
          by_cases h0:eb two two=0
          · refine iteNS (by rw [h0]) (iteF ?_)
            exact fin
          · refine iteNN (v_ne h0) ?_
            have h1:=hnz h0
            refine Wb.cell X (iw:=0) (i:=3) (j:=3) rfl rfl rfl (by omega) (by omega) ?_
            have hd:eb one one∣eb two two:=by
              rcases Int.decEq ((eb two two).fmod (eb one one)) 0 with z | z
              · exact (hno ⟨h0,fun d=>z (Int.fmod_eq_zero_of_dvd d)⟩).elim
              · exact Int.dvd_of_fmod_eq_zero z
            refine Wb.cell X (iw:=0) (i:=2) (j:=2) rfl rfl rfl (by omega) (by omega) ⟨_,_,rfl,rfl,h1,rfl,_,rfl,iteNS (congrArg V.int (Int.fmod_eq_zero_of_dvd hd)) ?_⟩
            exact fin
      · rintro σ H3 ⟨v3,eb,csb,Lb,rfl,hIb,Wb,hcb⟩
        rw [Nat.sub_self] at hIb
        obtain ⟨_,rfl,rfl⟩:=hIb
        have e2':len - (one+1)=k':=sub_succ' hk'
        refine ⟨_,_,_,csb,LB,rfl,?_,Wb,?_⟩
        · rw [e2'];exact hO
        · have:csb=csa++LA.map toCh:=by simpa using hcb
          rw [this,←hcs];simp
    · rintro σ H2 ⟨v2,v3,ea,csa,La,rfl,hCa,Wa,hcs⟩
      have e2:len - ((len:Nat):Int).toNat=0:=by simp
      rw [e2] at hCa
      obtain ⟨_,rfl,rfl⟩:=hCa
      exact k H2 (by rw [←hcs];simpa using Wa)
inductive SpTurns (B:Nat) (C:Addr) (vs:List V) (H:Hp) (Q:VK):Prop
  | mk (H0:Hp) (p:Addr) (e e':E1.Tab) (m n:Nat) (cs:List Ch) (L:List (Bool×E1.RC)) (_:vs=[.ref p]) (_:WalkAt C H0 H p e m n true cs) (_:E1.Turns B (min m n) 0 e L e') (_:cs.length+L.length≤sizeLine) (_:∀H',WalkAt C H0 H' p e' m n true (cs++L.map toCh)→Q .non H'):SpTurns B C vs H Q
def spTurns (B:Nat) (C:Addr):Sp:=fun vs H Q _=>SpTurns B C vs H Q
theorem ok_q0h {B:Nat} (D:DefAt K mg "turn_up" s_q0h ["walk"]) (T:Bt mg) (X:WTxt K C) (C_q0c:Callee P w K mg base 1 "diagonal_length" ["rows"] spLen) (M_q14:MCallee P w K mg base C 4 "turn_row" ["self","one"] (spTurnR B C)):Callee P w K mg base 5 "turn_up" ["walk"] (spTurns B C):=by
  refine D.ok (k:=4) sc_q0h (fun vs H Q E h=>?_) (fun f cdv A outer s H vs Q E hr h=>?_)
  · obtain ⟨_,_,_,_,_,_,_,_,rfl,_⟩:=h
    rfl
  · obtain ⟨H0,p,e,e',m,n,cs,L,rfl,W,hT,hz,k⟩:=h
    refine ⟨_,(pss_one (ps_for PassesOwn.never rfl (pi_range1 rfl T.range (pa_cons (pe_callC C_q0c (hr.mono (by decide)) rfl (pa_cons (pe_fld (pv 0) rfl) pa_nil)) pa_nil)) (pg_name (i:=1) sc_q0h.nd rfl (Or.inl rfl)) (pss_one (ps_if (pt_cmpR op_lt (pe_ix ix_list (pe_ix ix_list (pe_fld (pv 0) rfl) (pv 1) (fun _ _=>rfl)) (pv 1) (fun _ _=>rfl)) pe_int (nomark _)) (pss_one (ps_expr (pe_methC M_q14 (pv 0) (hr.mono (by decide)) (pa_cons (pv 1) pa_nil)))) pss_nil)))),?_⟩
    have hm1:=W.m1
    refine W.rows X (iw:=0) rfl fun a rs Tt hta hrt hent hnew=>⟨a,rs,Tt,m,n,rfl,hta,hrt,W.m0,?_⟩
    generalize hlen:min m n=len at hT ⊢
    have hlm:len≤m∧len≤n:=by omega
    refine ⟨_,rfl,by omega,by omega,?_⟩
    refine for_range0 (fun i σ H2=>∃(v1:Option V) (ea:E1.Tab) (csa:List Ch) (La:List (Bool×E1.RC)),σ=[some (.ref p),v1]∧E1.Turns B (len - i) i ea La e'∧WalkAt C H0 H2 p ea m n true csa∧csa++La.map toCh=cs++L.map toCh) ⟨none,e,cs,L,rfl,hT,W,rfl⟩ ?_ ?_
    · rintro i σ H2 hi ⟨v1,ea,csa,La,rfl,hTa,Wa,hcs⟩
      have hi':i<len:=by simpa using hi
      obtain ⟨k',hk'⟩:∃k',len - i=k'+1:=pred_sub hi'
      rw [hk'] at hTa
      obtain ⟨hle,hTa⟩:=hTa
      have hl1:csa.length+La.length=cs.length+L.length:=by
        have:=congrArg List.length hcs
        simpa using this
      have e2':len - (i+1)=k':=sub_succ' hk'
      refine Wa.cell X (iw:=0) (i:=1) (j:=1) rfl rfl rfl (by omega) (by omega) ⟨_,_,rfl,rfl,_,rfl,?_⟩
      rcases hTa with ⟨hneg,L2,hT2,rfl⟩ | ⟨hneg,hT2⟩
      · refine iteP hneg ?_
        obtain ⟨dx,a2,l2,hp⟩:=Wa.ob
        simp only [List.length_cons] at hl1
        refine ⟨_,rfl,p,dx,_,rfl,hp,(by first | exact no_q15 _ _ _ | exact no_q11 _ _ _ | exact no_q12 _ _ _ | exact no_q13 _ _ _ | exact no_q17 _ _ _ | exact no_q16 _ _ _ | exact no_q14 _ _ _),_,rfl,H0,p,ea,m,n,true,csa,i,rfl,Wa,by omega,hle,by omega,fun H3 W3=>?_⟩
        refine ⟨_,_,_,L2,rfl,?_,W3,?_⟩
        · rw [e2'];exact hT2
        · rw [←hcs];simp [tc]
      · refine iteN hneg ⟨_,_,_,La,rfl,?_,Wa,hcs⟩
        rw [e2'];exact hT2
    · rintro σ H2 ⟨v1,ea,csa,La,rfl,hTa,Wa,hcs⟩
      have e2:len - ((len:Nat):Int).toNat=0:=by simp
      rw [e2] at hTa
      obtain ⟨_,rfl,rfl⟩:=hTa
      exact k H2 (by rw [←hcs];simpa using Wa)
inductive SpBrought (B:Nat) (vs:List V) (H:Hp) (Q:VK):Prop
  | mk (a:Addr) (rs:List Addr) (T:Tb) (m n:Nat) (L:List (Bool×E1.RC)) (e':E1.Tab) (_:vs=[.ref a]) (_:TabAt H a rs T) (_:Rect m n T) (_:0<m) (_:0<n) (_:m≤1000) (_:n≤1000) (_:E1.BroughtR B m n (ent T) L e') (_:L.length≤sizeLine) (_:∀(p a2 l:Addr) (rs2 ts:List Addr) (T2:Tb) (H':Hp),Same H H'→H' p=some (.tup [.ref a2,.ref l])→TabAt H' a2 rs2 T2→Rect m n T2→ent T2=e'→IsChs H' l ts (L.map toCh)→(∀b∈a2::rs2,H b=none)→Q (.ref p) H'):SpBrought B vs H Q
def spBrought (B:Nat):Sp:=fun vs H Q _=>SpBrought B vs H Q
theorem ok_q0a {B:Nat} (D:DefAt K mg "brought" s_q0a ["table"]) (T:Bt mg) (X:WTxt K C) (C_q05:Callee P w K mg base 1 "refuse_no_table" ["table"] spRefT) (MK_Walk:Maker P w K mg base C 2 "Walk" ["self","table"] (spInit C)) (C_q0d:Callee P w K mg base 45 "build_both_stairs" ["walk"] (spBoth B C)) (C_q0e:Callee P w K mg base 1 "has_number_beside" ["rows"] spBeside) (C_q0f:Callee P w K mg base 44 "chain" ["walk"] (spChain B C)) (C_q0h:Callee P w K mg base 5 "turn_up" ["walk"] (spTurns B C)):Callee P w K mg base 46 "brought" ["table"] (spBrought B):=by
  refine D.ok (k:=45) sc_q0a (fun vs H Q E h=>?_) (fun f cdv A outer s H vs Q E hr h=>?_)
  · obtain ⟨_,_,_,_,_,_,_,rfl,_⟩:=h
    rfl
  · obtain ⟨a,rs,Tt,m,n,L,e',rfl,ht,hr',m0,n0,m1,n1,⟨L1,L2,e1,L3,e2,L4,e3,L5,b1,b2,b3,b4,rfl⟩,hz,k⟩:=h
    refine ⟨_,(pss_cons (ps_expr (pe_callC C_q05 (hr.mono (by decide)) rfl (pa_cons (pv 0) pa_nil)))
        (pss_cons (ps_set (i:=1) sc_q0a.nd rfl (Or.inl rfl) (pe_makeC MK_Walk (hr.mono (by decide)) rfl (pa_cons (pv 0) pa_nil)))
        (pss_cons (ps_expr (pe_callC C_q0d (hr.mono (by decide)) rfl (pa_cons (pv 1) pa_nil)))
        (pss_cons (ps_while PassesOwn.never (pt_val (pe_callC C_q0e (hr.mono (by decide)) rfl (pa_cons (pe_fld (pv 1) rfl) pa_nil))) (pss_one (ps_expr (pe_callC C_q0d (hr.mono (by decide)) rfl (pa_cons (pv 1) pa_nil)))))
        (pss_cons (ps_expr (pe_callC C_q0f (hr.mono (by decide)) rfl (pa_cons (pv 1) pa_nil)))
        (pss_cons (ps_expr (pe_callC C_q0h (hr.mono (by decide)) rfl (pa_cons (pv 1) pa_nil)))
        (pss_one (ps_ret (pe_tup (pa_cons (pe_fld (pv 1) rfl) (pa_cons (pe_fld (pv 1) rfl) pa_nil))))))))))),?_⟩
    obtain ⟨m',rfl⟩:∃m',m=m'+1:=⟨m - 1,by omega⟩
    obtain ⟨n',rfl⟩:∃n',n=n'+1:=⟨n - 1,by omega⟩
    simp only [List.length_append,List.length_map] at hz
    refine ⟨_,rfl,a,rs,Tt,m',n',rfl,ht,hr',?_⟩
    refine ⟨_,rfl,fun x dx hx hdx hne=>?_⟩
    have s0:Same H (upd (upd H dx (.own x)) x (.ins C dx [])):=fun b o eb=>by
      rw [upd_ne (ne_of_none eb hx),upd_ne (ne_of_none eb hdx)];exact eb
    refine ⟨H,x,dx,a,rs,Tt,_,_,rfl,upd_same,s0,hx,ht.same s0,hr',m0,n0,m1,n1,fun H1 W1=>⟨rfl,?_⟩⟩
    refine ⟨_,rfl,H,x,_,e1,_,_,[],L1,L2,rfl,W1,b1,by simp;omega,fun H2 W2=>?_⟩
    obtain ⟨N,hN⟩:=E1.roundsH_of b2
    have hz3:=hz
    refine ⟨fun M σ H3=>σ=[some (.ref a),some (.ref x)]∧∃(ea:E1.Tab) (csa:List Ch) (La:List (Bool×E1.RC)),E1.RoundsH B (m'+1) (n'+1) M ea La e2∧WalkAt C H H3 x ea (m'+1) (n'+1) true csa∧csa++La.map toCh=((L1.map (Prod.mk true)++L2.map (Prod.mk false))++L3).map toCh,⟨N,rfl,e1,_,L3,hN,W2,by simp⟩,?_⟩
    rintro M σ H3 ⟨rfl,ea,csa,La,hM,Wa,hcs⟩
    have hlen:csa.length+La.length=L1.length+L2.length+L3.length:=by
      have:=congrArg List.length hcs
      simp at this
      omega
    cases M with
    | zero=>exact absurd hM (by simp [E1.RoundsH])
    | succ M =>
    refine Wa.rows X (iw:=1) rfl fun a3 rs3 T3 hta3 hrt3 hent3 hnew3=>⟨a3,rs3,T3,_,_,rfl,hta3,hrt3,fun b H4 hb s4=>⟨_,rfl,?_⟩⟩
    rw [hent3] at hb
    have W4:=Wa.on s4
    rcases hM with ⟨hnb,rfl,rfl⟩ | ⟨hbe,e5,LA,LB,LC,hBo,hR,rfl⟩
    · have:b=false:=by
        cases b with
        | false=>rfl
        | true=>exact (hnb (hb.mp rfl)).elim
      subst this
      refine iteF ?_
      refine ⟨_,rfl,H,x,_,e3,_,_,csa,L4,rfl,W4,b3,by simp at hlen;omega,fun H5 W5=>?_⟩
      refine ⟨_,rfl,H,x,_,e',_,_,_,L5,rfl,W5,b4,by simp at hlen ⊢;omega,fun H6 W6=>?_⟩
      obtain ⟨dx6,a6,l6,rs6,ts6,T6,hp6,hta6,hr6,he6,hc6,hla6,hn6⟩:=W6.ex
      refine ⟨_,rfl,x,C,dx6,_,_,rfl,hp6,X.cl,X.nR,flds_rows _ _ _,_,rfl,x,C,dx6,_,_,rfl,hp6,X.cl,X.nC,flds_changes _ _ _,by show 2≤sizeLine;decide,fun p hp=>?_⟩
      have s7:Same H6 (upd H6 p (.tup [.ref a6,.ref l6])):=same_upd hp
      refine k p a6 l6 rs6 ts6 T6 _ (W6.same.trans s7) upd_same (hta6.same s7) hr6 he6 ?_ (fun b hb=>hn6 b (in2 hb))
      have hcs':csa=((L1.map (Prod.mk true)++L2.map (Prod.mk false))++L3).map toCh:=by simpa using hcs
      have ecs:((L1.map (Prod.mk true)++L2.map (Prod.mk false))++(L3++(L4++L5))).map toCh=csa++L4.map toCh++L5.map toCh:=by rw [hcs'];simp
      rw [ecs]
      exact hc6.same s7
    · have:b=true:=hb.mpr hbe
      subst this
      refine iteT ⟨fun σ' H'=>σ'=[some (.ref a),some (.ref x)]∧∃(ea:E1.Tab) (csa:List Ch) (La:List (Bool×E1.RC)),E1.RoundsH B (m'+1) (n'+1) M ea La e2∧WalkAt C H H' x ea (m'+1) (n'+1) true csa∧csa++La.map toCh=((L1.map (Prod.mk true)++L2.map (Prod.mk false))++L3).map toCh,fun σ' H' z=>⟨M,Nat.lt_succ_self _,z⟩,?_⟩
      simp only [List.length_append,List.length_map] at hlen
      refine ⟨_,rfl,H,x,ea,e5,_,_,csa,LA,LB,rfl,W4,hBo,by omega,fun H5 W5=>?_⟩
      exact ⟨rfl,e5,_,LC,hR,W5,by rw [←hcs];simp⟩
def dg (n:Nat) (e:E1.Tab):List Int:=(List.range n).map fun i=>e i i
inductive SpDiagonal (B:Nat) (vs:List V) (H:Hp) (Q:VK):Prop
  | mk (a:Addr) (rs:List Addr) (T:Tb) (m n:Nat) (L:List (Bool×E1.RC)) (e':E1.Tab) (_:vs=[.ref a]) (_:TabAt H a rs T) (_:Rect m n T) (_:0<m) (_:0<n) (_:m≤1000) (_:n≤1000) (_:E1.BroughtR B m n (ent T) L e') (_:L.length≤sizeLine) (_:∀(q:Addr) (H':Hp),Same H H'→H q=none→H' q=some (.lst ((dg (min m n) e').map V.int))→Q (.ref q) H'):SpDiagonal B vs H Q
def spDiagonal (B:Nat):Sp:=fun vs H Q _=>SpDiagonal B vs H Q
theorem dg_take {n i:Nat} {e:E1.Tab} (h:i<n):(dg n e).take (i+1)=(dg n e).take i++[e i i]:=by
  have:(dg n e)[i]?=some (e i i):=by
    unfold dg
    rw [List.getElem?_map,List.getElem?_range h];rfl
  rw [List.take_succ,this];rfl
theorem ok_q0b {B:Nat} (D:DefAt K mg "diagonal" s_q0b ["table"]) (T:Bt mg) (C_q0a:Callee P w K mg base 46 "brought" ["table"] (spBrought B)) (C_q0c:Callee P w K mg base 1 "diagonal_length" ["rows"] spLen):Callee P w K mg base 47 "diagonal" ["table"] (spDiagonal B):=by
  refine D.ok (k:=46) sc_q0b (fun vs H Q E h=>?_) (fun f cdv A outer s H vs Q E hr h=>?_)
  · obtain ⟨_,_,_,_,_,_,_,rfl,_⟩:=h
    rfl
  · obtain ⟨a,rs,Tt,m,n,L,e',rfl,ht,hr',m0,n0,m1,n1,hB,hz,k⟩:=h
    refine ⟨_,(pss_cons (ps_set (i:=1) sc_q0b.nd rfl (Or.inr rfl) (pe_ix ix_tup (pe_callC C_q0a (hr.mono (by decide)) rfl (pa_cons (pv 0) pa_nil)) pe_int (fun _ _=>rfl)))
        (pss_one (ps_ret (pe_comp (N:=["rows","place"]) (cap:=[1]) (k:=1) (CompScope.mk' (defScope s_q0b) ["table","rows"] rfl rfl (by decide +kernel)) rfl (pi_range1 rfl T.range (pa_cons (pe_callC C_q0c (hr.mono (by decide)) rfl (pa_cons (pv 1) pa_nil)) pa_nil)) (fun _ _ _ _=>(pg_name (i:=1) (show (["rows","place"]:List Str).Nodup by decide +kernel) rfl (Or.inl rfl))) (fun _ _ _ _=>(pe_ix (ix_listK (K:=K) rfl) (pe_ix (ix_listK (K:=K) rfl) (pv 0) (pv 1) (fun _ _=>rfl)) (pv 1) (fun _ _=>rfl))))))),?_⟩
    refine ⟨_,rfl,a,rs,Tt,m,n,L,e',rfl,ht,hr',m0,n0,m1,n1,hB,hz,fun p a2 l rs2 ts T2 H1 s1 hp ht2 hr2 he2 hc2 new=>?_⟩
    refine ⟨p,_,_,_,rfl,rfl,SqT.of hp,rfl,?_⟩
    refine ⟨_,rfl,a2,rs2,T2,m,n,rfl,ht2,hr2,m0,_,rfl,by omega,by omega,?_⟩
    refine comp_it (J:=Itr 0 _) (n:=min m n) (fun i ys H2=>H2=H1∧i≤min m n∧ys=((dg (min m n) e').take i).map V.int) (Nat.le_trans (by omega:min m n≤1000) (by decide)) ⟨rfl,Nat.zero_le _,by simp⟩ (fun i ys H2 ⟨_,hle,e⟩=>by rw [e,List.length_map,List.length_take];simp [dg];omega)
      (fun i ys H2 hi _=>by show i<Int.toNat _;simpa using hi) (fun ys H2 _=>by show Int.toNat _≤min m n;simp) ?_ ?_
    · rintro i x ys H2 H3 hi ⟨rfl,_,rfl⟩ ⟨rfl,hx0⟩
      obtain rfl:=z0 hx0
      obtain ⟨r,er,_,hrow,hlr⟩:=ht2.at hr2 (by omega:i<m)
      refine ⟨rfl,_,rfl,_,rfl,a2,_,_,_,rfl,rfl,SqL.of ht2.tab.1,atI_nat (rget er),_,rfl,r,_,_,_,rfl,rfl,SqL.of hrow,atI_nat (iget (getD_some hlr (by omega))),rfl,hi,?_⟩
      rw [dg_take hi,List.map_append,←he2];rfl
    · rintro ys H2 ⟨rfl,_,rfl⟩ q hq
      have e:(dg (min m n) e').take (min m n)=dg (min m n) e':=List.take_of_length_le (by simp [dg])
      rw [e]
      exact k q _ (s1.laid hq) (s1.free hq) upd_same
end
end X1
namespace X1
open PySem L2
section
variable {P:Program} {w:World} {K:PySem.W.Frag} {mg:Str→Option Value} {base:Heap}
def prodL (xs:List Int):Int:=xs.foldl (fun a x=>a*x) 1
theorem prodL_snoc (xs:List Int) (x:Int):prodL (xs++[x])=prodL xs*x:=by unfold prodL;rw [List.foldl_append];rfl
theorem prodL_le {c:Nat}:∀(n:Nat) (xs:List Int),xs.length=n→(∀x∈xs,x.natAbs≤2^c)→(prodL xs).natAbs≤2^(c*n)
  | 0,xs,hl,_=>by
    have:xs=[]:=List.length_eq_zero_iff.mp hl
    subst this;show (1:Int).natAbs≤2^(c*0);simp
  | n+1,xs,hl,h=>by
    obtain ⟨ys,y,rfl⟩:∃ys y,xs=ys++[y]:=⟨xs.dropLast,xs.getLast (by intro z;rw [z] at hl;simp at hl),(List.dropLast_concat_getLast _).symm⟩
    rw [prodL_snoc,Int.natAbs_mul,Nat.mul_add,Nat.pow_add,Nat.mul_one]
    exact Nat.mul_le_mul (prodL_le n ys (by simpa using hl) fun x hx=>h x (List.mem_append_left _ hx)) (h y (by simp))
inductive SpMult (vs:List V) (H:Hp) (Q:VK):Prop
  | mk (a:Addr) (xs:List Int) (_:vs=[.ref a]) (_:H a=some (.lst (xs.map V.int))) (_:xs.length≤16) (_:(∀x∈xs,x.natAbs≤2^1048576)) (_:Q (.int (prodL xs)) H):SpMult vs H Q
def spMult:Sp:=fun vs H Q _=>SpMult vs H Q
theorem ok_q0j (D:DefAt K mg "multiplied" s_q0j ["numbers"]) (T:Bt mg):Callee P w K mg base 1 "multiplied" ["numbers"] spMult:=by
  refine D.ok (k:=0) sc_q0j (fun vs H Q E h=>?_) (fun f cdv A outer s H vs Q E hr h=>?_)
  · obtain ⟨_,_,rfl,_⟩:=h
    rfl
  · obtain ⟨a,xs,rfl,ha,hl,hb,k⟩:=h
    refine ⟨_,(pss_cons (ps_set (i:=1) sc_q0j.nd rfl (Or.inl rfl) pe_int)
        (pss_cons (ps_for PassesOwn.never rfl (pi_list (pv 0)) (pg_name (i:=2) sc_q0j.nd rfl (Or.inl rfl)) (pss_one (ps_set (i:=1) sc_q0j.nd rfl (Or.inl rfl) (pe_op (op_mulB 33554432 (by decide)) (pv 1) (pv 2)))))
        (pss_one (ps_ret (pv 1))))),?_⟩
    refine ⟨_,rfl,a,rfl,⟨_,SqL.of ha⟩,for_list (K:=K) (a:=a) (xs:=xs.map V.int) (fun i σ H2=>H2=H∧∃v,σ=[some (.ref a),some (.int (prodL (xs.take i))),v]) ⟨rfl,none,rfl⟩ (fun i σ H2 _ h=>by rw [h.1];exact SqL.of ha) ?_ ?_⟩
    · rintro i y σ H2 hy ⟨rfl,v,rfl⟩
      obtain ⟨u,eu,rfl⟩:=mint hy
      have hi:i<xs.length:=(List.getElem?_eq_some_iff.mp eu).1
      have e:xs.take (i+1)=xs.take i++[u]:=by rw [List.take_succ,eu];rfl
      have b1:(prodL (xs.take i)).natAbs≤2^33554432:=by
        have h1:=prodL_le (c:=1048576) (xs.take i).length (xs.take i) rfl fun x hx=>hb x (List.mem_of_mem_take hx)
        refine Nat.le_trans h1 (Nat.pow_le_pow_right (by decide) ?_)
        have h2:(xs.take i).length≤16:=by rw [List.length_take];omega
        exact Nat.le_trans (Nat.mul_le_mul_left 1048576 h2) (by decide)
      have b2:u.natAbs≤2^33554432:=Nat.le_trans (hb u (List.mem_of_getElem? eu)) (Nat.pow_le_pow_right (by decide) (by decide))
      refine ⟨_,rfl,_,rfl,_,_,rfl,rfl,⟨b1,b2⟩,rfl,some (.int u),?_⟩
      rw [e,prodL_snoc]
      rfl
    · rintro σ H2 ⟨rfl,v,rfl⟩
      rw [List.length_map,List.take_length]
      exact ⟨_,rfl,k⟩
inductive SpGcd (vs:List V) (H:Hp) (Q:VK):Prop
  | mk (m n:Nat) (_:vs=[.int m,.int n]) (_:Q (.int (Nat.gcd m n:Nat)) H):SpGcd vs H Q
def spGcd:Sp:=fun vs H Q _=>SpGcd vs H Q
theorem ok_q0k (D:DefAt K mg "greatest_into_both" s_q0k ["one","two"]) (T:Bt mg):Callee P w K mg base 1 "greatest_into_both" ["one","two"] spGcd:=by
  refine D.ok (k:=0) sc_q0k (fun vs H Q E h=>?_) (fun f cdv A outer s H vs Q E hr h=>?_)
  · obtain ⟨_,_,rfl,_⟩:=h
    rfl
  · obtain ⟨m,n,rfl,k⟩:=h
    refine ⟨_,(pss_cons (ps_while PassesOwn.never (pt_cmpR op_ne (pv 1) pe_int (nomark _)) (pss_cons (ps_set (i:=2) sc_q0k.nd rfl (Or.inl rfl) (pe_op op_mod (pv 0) (pv 1)))
        (pss_cons (ps_set (i:=0) sc_q0k.nd rfl (Or.inl rfl) (pv 1))
        (pss_one (ps_set (i:=1) sc_q0k.nd rfl (Or.inl rfl) (pv 2))))))
        (pss_one (ps_ret (pv 0)))),?_⟩
    refine ⟨fun M σ H2=>H2=H∧∃(a:Nat) (v:Option V),σ=[some (.int a),some (.int M),v]∧Nat.gcd a M=Nat.gcd m n,⟨n,rfl,m,none,rfl,rfl⟩,?_⟩
    rintro M σ H2 ⟨rfl,a,v,rfl,hg⟩
    refine ⟨_,rfl,rfl,_,rfl,?_⟩
    by_cases h0:M=0
    · refine iteNS (by rw [h0];rfl) ⟨_,rfl,?_⟩
      rw [h0,Nat.gcd_zero_right] at hg
      rw [hg];exact k
    · refine iteNN (v_ne (by omega)) ⟨fun σ' H'=>H'=H2∧∃(v:Option V),σ'=[some (.int M),some (.int (a % M:Nat)),v],fun σ' H' ⟨z1,v',z2⟩=>⟨a % M,Nat.mod_lt _ (by omega),z1,M,v',z2,?_⟩,?_⟩
      · rw [←hg,Nat.gcd_comm a M,Nat.gcd_comm M (a % M)];exact (Nat.gcd_rec M a).symm
      · have e:((a:Int) % (M:Int))=((a % M:Nat):Int):=by omega
        have e2:V.int ((a:Int) % (M:Int))=V.int ((a % M:Nat):Int):=congrArg V.int e
        refine ⟨_,rfl,_,rfl,_,_,rfl,rfl,by show (0:Int)<M;omega,_,rfl,_,rfl,rfl,some (.int ((a % M:Nat):Int)),?_⟩
        exact congrArg (fun z=>[some (V.int (M:Int)),some z,some z]) e2
def hm (n:Nat) (xs:List Int):Int:=prodL (xs.map fun x=>((n / Nat.gcd n x.natAbs:Nat):Int))
inductive SpHowMany (vs:List V) (H:Hp) (Q:VK):Prop
  | mk (a:Addr) (rs:List Addr) (T:Tb) (m n N:Nat) (L:List (Bool×E1.RC)) (e':E1.Tab) (_:vs=[.ref a,.int N]) (_:TabAt H a rs T) (_:Rect m n T) (_:0<m) (_:0<n) (_:m≤16) (_:n≤16) (_:0<N) (_:N≤2^1048576) (_:E1.BroughtR 1048576 m n (ent T) L e') (_:L.length≤sizeLine) (_:(∀i,0≤e' i i)) (_:∀(H':Hp),Same H H'→Q (.int (hm N (dg (min m n) e'))) H'):SpHowMany vs H Q
def spHowMany:Sp:=fun vs H Q _=>SpHowMany vs H Q
theorem ok_q0i (hse:base.NoSeer) (htr:P.given.tree=none) (D:DefAt K mg "how_many" s_q0i ["table","number"]) (T:Bt mg) (C_q05:Callee P w K mg base 1 "refuse_no_table" ["table"] spRefT) (C_q0b:Callee P w K mg base 47 "diagonal" ["table"] (spDiagonal 1048576)) (C_q0j:Callee P w K mg base 1 "multiplied" ["numbers"] spMult) (C_q0k:Callee P w K mg base 1 "greatest_into_both" ["one","two"] spGcd):Callee P w K mg base 48 "how_many" ["table","number"] spHowMany:=by
  refine D.ok (k:=47) sc_q0i (fun vs H Q E h=>?_) (fun f cdv A outer s H vs Q E hr h=>?_)
  · obtain ⟨_,_,_,_,_,_,_,_,rfl,_⟩:=h
    rfl
  · obtain ⟨a,rs,Tt,m,n,N,L,e',rfl,ht,hr',m0,n0,m1,n1,N0,N1,hB,hz,hnn,k⟩:=h
    refine ⟨_,(pss_cons (ps_expr (pe_callC C_q05 (hr.mono (by decide)) rfl (pa_cons (pv 0) pa_nil)))
        (pss_cons (ps_if (pt_cmpR op_lt (pv 1) pe_int (nomark _)) (pss_one ps_never) pss_nil)
        (pss_one (ps_ret (pe_callC C_q0j (hr.mono (by decide)) rfl (pa_cons (pe_comp (N:=["number","other"]) (cap:=[1]) (k:=1) (CompScope.mk' (defScope s_q0i) ["table","number"] rfl rfl (by decide +kernel)) rfl (pi_list (pe_callC C_q0b (hr.mono (by decide)) rfl (pa_cons (pv 0) pa_nil))) (fun _ _ _ _=>(pg_name (i:=1) (show (["number","other"]:List Str).Nodup by decide +kernel) rfl (Or.inl rfl))) (fun _ _ _ _=>(pe_op (op_fdivC hse htr hr (by decide) ⟨_,_,rfl,rfl,rfl,rfl,rfl⟩) (pv 0) (pe_callC C_q0k (hr.mono (by decide)) rfl (pa_cons (pv 0) (pa_cons (pv 1) pa_nil)))))) pa_nil)))))),?_⟩
    obtain ⟨m',rfl⟩:∃m',m=m'+1:=⟨m - 1,by omega⟩
    obtain ⟨n',rfl⟩:∃n',n=n'+1:=⟨n - 1,by omega⟩
    refine ⟨_,rfl,a,rs,Tt,m',n',rfl,ht,hr',?_⟩
    refine ⟨_,rfl,_,_,rfl,rfl,_,rfl,iteN (by omega) ?_⟩
    refine ⟨_,rfl,a,rs,Tt,_,_,L,e',rfl,ht,hr',m0,n0,by omega,by omega,hB,hz,fun q H1 s1 _ hq=>?_⟩
    generalize hxs:dg (min (m'+1) (n'+1)) e'=xs at hq k
    have hxl:xs.length≤16:=by rw [←hxs];simp [dg];omega
    have hxn:∀x∈xs,0≤x:=fun x hx=>by
      rw [←hxs] at hx
      obtain ⟨i,_,rfl⟩:=List.mem_map.mp hx
      exact hnn i
    refine ⟨q,rfl,⟨_,SqL.of hq⟩,comp_list (K:=K) (a:=q) (xs:=xs.map V.int) (fun i ys H2=>H2=H1∧i≤xs.length∧ys=((xs.map fun x=>((N / Nat.gcd N x.natAbs:Nat):Int)).take i).map V.int) (by rw [List.length_map];exact Nat.le_trans hxl (by decide)) ⟨rfl,Nat.zero_le _,by simp⟩ (fun i ys H2 ⟨_,hle,e⟩=>by rw [e,List.length_map,List.length_take,List.length_map];omega) (fun i ys H2 _ ⟨e,_,_⟩=>by rw [e];exact SqL.of hq) ?_ ?_⟩
    · rintro i x ys H2 hx ⟨rfl,_,rfl⟩
      obtain ⟨u,eu,rfl⟩:=mint hx
      have hu:=hxn u (List.mem_of_getElem? eu)
      obtain ⟨v,rfl⟩:=Int.eq_ofNat_of_zero_le hu
      have hg:(Nat.gcd N v:Int)≠0:=by
        have:=Nat.gcd_pos_of_pos_left v N0
        omega
      refine ⟨rfl,_,rfl,_,rfl,_,rfl,N,v,rfl,_,_,rfl,rfl,hg,rfl,(List.getElem?_eq_some_iff.mp eu).1,?_⟩
      have e1:(N:Int).fdiv (Nat.gcd N v:Int)=((N / Nat.gcd N v:Nat):Int):=by
        rw [Int.fdiv_eq_ediv_of_nonneg _ (by omega)];rfl
      dsimp only
      rw [e1,take_map (f:=fun x=>((N / Nat.gcd N x.natAbs:Nat):Int)) eu,List.map_append];rfl
    · rintro ys H2 ⟨rfl,_,rfl⟩ p hp
      have e:((xs.map fun x=>((N / Nat.gcd N x.natAbs:Nat):Int)).take (xs.map V.int).length)=xs.map fun x=>((N / Nat.gcd N x.natAbs:Nat):Int):=List.take_of_length_le (by rw [List.length_map,List.length_map];exact Nat.le_refl _)
      rw [e]
      refine ⟨p,_,rfl,upd_same,by rw [List.length_map];exact hxl,fun x hx=>?_,k _ (s1.laid hp)⟩
      obtain ⟨y,_,rfl⟩:=List.mem_map.mp hx
      exact Nat.le_trans (Nat.div_le_self _ _) N1
end
end X1
namespace X1
open PySem L2
def rowF (row:List Int):E1.Vc:=fun y=>row.getD y 0
def rowV (n:Nat) (v:E1.Vc):List Int:=(List.range n).map v
theorem rowV_len (n:Nat) (v:E1.Vc):(rowV n v).length=n:=by simp [rowV]
theorem rowF_rowV {n:Nat} {v:E1.Vc} (h:∀y,n≤y→v y=0):rowF (rowV n v)=v:=by
  funext y
  unfold rowF rowV
  rw [List.getD_eq_getElem?_getD,List.getElem?_map]
  by_cases hy:y<n
  · rw [List.getElem?_range hy];rfl
  · rw [List.getElem?_eq_none (by simpa using Nat.not_lt.mp hy),h y (by omega)];rfl
theorem rowV_rowF {n:Nat} {r:List Int} (h:r.length=n):rowV n (rowF r)=r:=by
  refine List.ext_getElem? fun j=>?_
  unfold rowV rowF
  rw [List.getElem?_map]
  by_cases hj:j<n
  · rw [List.getElem?_range hj,List.getElem?_eq_getElem (by omega)]
    simp [h,hj]
  · rw [List.getElem?_eq_none (by simpa using Nat.not_lt.mp hj),List.getElem?_eq_none (by omega)];rfl
theorem rowF_inj {n:Nat} {a b:List Int} (ha:a.length=n) (hb:b.length=n) (h:rowF a=rowF b):a=b:=by rw [←rowV_rowF ha,←rowV_rowF hb,h]
def stepR (N n:Nat) (e:E1.Vc) (t:Nat) (r:List Int):List Int:=rowV n (E1.red N n fun y=>rowF r y+(t:Int)*e y)
theorem red_out (N n:Nat) (v:E1.Vc):∀y,n≤y→E1.red N n v y=0:=fun y hy=>by unfold E1.red;rw [if_neg (by omega)]
theorem rowF_stepR (N n:Nat) (e:E1.Vc) (t:Nat) (r:List Int):rowF (stepR N n e t r)=E1.red N n fun y=>rowF r y+(t:Int)*e y:=rowF_rowV (red_out N n _)
theorem stepR_zero {N n:Nat} {e:E1.Vc} {r:List Int} (hl:r.length=n) (h:E1.Rst N n (rowF r)):stepR N n e 0 r=r:=by
  unfold stepR
  have:(fun y=>rowF r y+((0:Nat):Int)*e y)=rowF r:=by funext y;simp
  rw [this,E1.red_self h,rowV_rowF hl]
theorem stepR_succ (N n:Nat) (e:E1.Vc) (t:Nat) (r:List Int):rowV n (E1.red N n fun y=>rowF (stepR N n e t r) y+e y)=stepR N n e (t+1) r:=by
  rw [rowF_stepR]
  have h:=E1.red_red (N:=N) (w:=n) (fun y=>rowF r y+(t:Int)*e y) e
  rw [h]
  unfold stepR
  congr 2
  funext y
  push_cast
  rw [Int.add_mul];omega
theorem stepR_get {N n:Nat} (e:E1.Vc) (t:Nat) (r:List Int) {k:Nat} (hk:k<n):(stepR N n e (t+1) r)[k]?=some ((rowF (stepR N n e t r) k+e k) % (N:Int)):=by
  rw [←stepR_succ]
  unfold rowV
  rw [List.getElem?_map,List.getElem?_range hk]
  show some (E1.red N n _ k)=_
  unfold E1.red
  rw [if_pos hk]
structure Seen (N n i:Nat) (e:E1.Tab) (R:List (List Int)):Prop where
  nd:R.Nodup
  len:∀r∈R,r.length=n
  mem:∀r:List Int,r.length=n→(r∈R↔E1.Rst N n (rowF r)∧E1.InM N i e (rowF r))
theorem Seen.cnt {N n i:Nat} {e:E1.Tab} {R:List (List Int)} (h:Seen N n i e R):E1.Cnt N i n e R.length:=by
  refine ⟨R.map rowF,E1.nodup_map (g:=rowV n) h.nd fun r hr=>rowV_rowF (h.len r hr),fun v=>?_,by simp⟩
  rw [List.mem_map]
  constructor
  · rintro ⟨r,hr,rfl⟩
    exact (h.mem r (h.len r hr)).mp hr
  · rintro ⟨a,b⟩
    have e1:rowF (rowV n v)=v:=rowF_rowV fun y hy=>(a y).2 hy
    exact ⟨rowV n v,(h.mem _ (rowV_len n v)).mpr (by rw [e1];exact ⟨a,b⟩),e1⟩
theorem Seen.rests {N n i:Nat} {e:E1.Tab} {R:List (List Int)} (h:Seen N n i e R) (hN:N≤12):∀r∈R,r.length=n∧∀x∈r,0≤x∧x<12:=fun r hr=>by
  have hl:=h.len r hr
  refine ⟨hl,fun x hx=>?_⟩
  obtain ⟨j,hj,rfl⟩:=List.getElem_of_mem hx
  have:=(((h.mem r hl).mp hr).1 j).1 (by omega)
  have e1:rowF r j=r[j]:=by unfold rowF;simp [hj]
  rw [e1] at this
  omega
theorem seen_zero {N n:Nat} (hN:0<N) (e:E1.Tab):Seen N n 0 e [List.replicate n 0]:=by
  refine ⟨by simp,fun r hr=>?_,fun r hr=>?_⟩
  · have:r=List.replicate n 0:=by simpa using hr
    rw [this];simp
  · rw [E1.inm_zero hN,List.mem_singleton]
    have e1:rowF (List.replicate n (0:Int))=fun _=>0:=by
      funext y
      unfold rowF
      rw [List.getD_eq_getElem?_getD,List.getElem?_replicate]
      split <;> rfl
    exact ⟨fun z=>by rw [z,e1],fun z=>rowF_inj hr (by simp) (by rw [z,e1])⟩
theorem Seen.more {N n i:Nat} (hN:0<N) {e:E1.Tab} (he:∀x y,n≤y→e x y=0) {R R':List (List Int)} (h:Seen N n i e R) (nd:R'.Nodup) (hm:∀q,q∈R'↔q∈R∨∃r∈R,∃t,1≤t∧t<N∧q=stepR N n (e i) t r):Seen N n (i+1) e R':=by
  have hst:∀r∈R,E1.Rst N n (rowF r):=fun r hr=>((h.mem r (h.len r hr)).mp hr).1
  have hm':∀q,q∈R'↔∃r∈R,∃t,t<N∧q=stepR N n (e i) t r:=fun q=>by
    rw [hm]
    constructor
    · rintro (z | ⟨r,hr,t,_,h2,e⟩)
      · exact ⟨q,z,0,hN,(stepR_zero (h.len q z) (hst q z)).symm⟩
      · exact ⟨r,hr,t,h2,e⟩
    · rintro ⟨r,hr,t,h2,e⟩
      rcases Nat.eq_zero_or_pos t with rfl | ht
      · rw [stepR_zero (h.len r hr) (hst r hr)] at e
        exact .inl (e▸hr)
      · exact .inr ⟨r,hr,t,ht,h2,e⟩
  refine ⟨nd,fun q hq=>?_,fun q hq=>?_⟩
  · obtain ⟨r,_,t,_,rfl⟩:=(hm' q).mp hq
    exact rowV_len _ _
  · rw [hm',E1.inm_step hN he]
    constructor
    · rintro ⟨r,hr,t,ht,rfl⟩
      obtain ⟨a,b⟩:=(h.mem r (h.len r hr)).mp hr
      exact ⟨rowF r,t,a,b,ht,rowF_stepR ..⟩
    · rintro ⟨v0,t,a,b,ht,ev⟩
      have e1:rowF (rowV n v0)=v0:=rowF_rowV fun y hy=>(a y).2 hy
      refine ⟨rowV n v0,(h.mem _ (rowV_len n v0)).mpr (by rw [e1];exact ⟨a,b⟩),t,ht,rowF_inj hq (rowV_len _ _) ?_⟩
      rw [rowF_stepR,e1];exact ev
theorem Seen.ne {N n i:Nat} (hN:0<N) {e:E1.Tab} {R:List (List Int)} (h:Seen N n i e R):R≠[]:=fun z=>by
  have h0:=(h.mem (List.replicate n 0) (by simp)).mpr ⟨fun y=>?_,fun _=>0,E1.InR.cong (E1.InR.zero i e) fun y=>?_⟩
  · rw [z] at h0;cases h0
  · unfold rowF
    rw [List.getD_eq_getElem?_getD,List.getElem?_replicate]
    split
    · exact ⟨fun _=>⟨Int.le_refl _,by show (0:Int)<N;omega⟩,fun _=>rfl⟩
    · exact ⟨fun _=>⟨Int.le_refl _,by show (0:Int)<N;omega⟩,fun _=>rfl⟩
  · show rowF (List.replicate n 0) y+(N:Int)*0=0
    unfold rowF
    rw [List.getD_eq_getElem?_getD,List.getElem?_replicate]
    split <;> simp
theorem rep_of (c:Int) (n:Nat):(List.replicate n [V.int c]).flatten=(List.replicate n c).map V.int:=by
  induction n with
  | zero=>rfl
  | succ n ih=>rw [List.replicate_succ,List.flatten_cons,ih];rfl
theorem small_len {n:Nat} (h:n≤3):(small12 n).length≤1728:=by
  have:∀n,n≤3→(small12 n).length≤1728:=by decide +kernel
  exact this n h
def Upto (N n:Nat) (e:E1.Vc) (R:List (List Int)) (j s:Nat) (q:List Int):Prop:=q∈R∨(∃k r t,k<j∧R[k]?=some r∧1≤t∧t<N∧q=stepR N n e t r)∨∃r t,R[j]?=some r∧1≤t∧t≤s∧q=stepR N n e t r
structure More (N n:Nat) (e:E1.Vc) (R:List (List Int)) (j s:Nat) (R':List (List Int)):Prop where
  nd:R'.Nodup
  sm:∀q∈R',q.length=n∧∀x∈q,0≤x∧x<12
  mem:∀q,q∈R'↔Upto N n e R j s q
theorem More.len {N n:Nat} (n3:n≤3) {e:E1.Vc} {R R':List (List Int)} {j s:Nat} (h:More N n e R j s R'):R'.length<sizeLine :=
  Nat.lt_of_le_of_lt (Nat.le_trans (E1.len_le _ _ h.nd fun q hq=>mem_small (h.sm q hq).1 (h.sm q hq).2) (small_len n3)) (by decide)
theorem stepR_small {N n:Nat} (N0:0<N) (N12:N≤12) (e:E1.Vc) (t:Nat) (r:List Int):(stepR N n e t r).length=n∧∀x∈stepR N n e t r,0≤x∧x<12:=by
  refine ⟨rowV_len _ _,fun x hx=>?_⟩
  obtain ⟨y,_,rfl⟩:=List.mem_map.mp hx
  have h:=E1.red_rst (w:=n) N0 (fun y=>rowF r y+(t:Int)*e y) y
  by_cases hy:y<n
  · have:=h.1 hy;omega
  · rw [h.2 (by omega)];omega
theorem More.start {N n:Nat} {e:E1.Vc} {R:List (List Int)} (nd:R.Nodup) (sm:∀q∈R,q.length=n∧∀x∈q,0≤x∧x<12):More N n e R 0 0 R :=
  ⟨nd,sm,fun q=>⟨.inl,fun z=>by
    rcases z with z | ⟨k,_,_,hk,_⟩ | ⟨_,t,_,h1,h2,_⟩
    · exact z
    · omega
    · omega⟩⟩
theorem More.put {N n:Nat} (N0:0<N) (N12:N≤12) {e:E1.Vc} {R R':List (List Int)} {j s:Nat} {r:List Int} (h:More N n e R j s R') (hr:R[j]?=some r):More N n e R j (s+1) (addRow R' (stepR N n e (s+1) r)):=by
  refine ⟨addRow_nodup h.nd,fun q hq=>?_,fun q=>?_⟩
  · rcases addRow_mem.mp hq with z | z
    · exact h.sm q z
    · rw [z];exact stepR_small N0 N12 e _ r
  · rw [addRow_mem,h.mem]
    unfold Upto
    constructor
    · rintro ((z | z | ⟨r',t,h1,h2,h3,h4⟩) | z)
      · exact .inl z
      · exact .inr (.inl z)
      · exact .inr (.inr ⟨r',t,h1,h2,by omega,h4⟩)
      · exact .inr (.inr ⟨r,s+1,hr,by omega,by omega,z⟩)
    · rintro (z | z | ⟨r',t,h1,h2,h3,h4⟩)
      · exact .inl (.inl z)
      · exact .inl (.inr (.inl z))
      · by_cases ht:t≤s
        · exact .inl (.inr (.inr ⟨r',t,h1,h2,ht,h4⟩))
        · have:t=s+1:=by omega
          subst this
          rw [hr] at h1;cases h1
          exact .inr h4
theorem More.next {N n:Nat} {e:E1.Vc} {R R':List (List Int)} {j:Nat} (h:More N n e R j (N - 1) R'):More N n e R (j+1) 0 R':=by
  refine ⟨h.nd,h.sm,fun q=>?_⟩
  rw [h.mem]
  unfold Upto
  constructor
  · rintro (z | ⟨k,r,t,h1,h2,h3⟩ | ⟨r,t,h1,h2,h3,h4⟩)
    · exact .inl z
    · exact .inr (.inl ⟨k,r,t,by omega,h2,h3⟩)
    · exact .inr (.inl ⟨j,r,t,by omega,h1,h2,by omega,h4⟩)
  · rintro (z | ⟨k,r,t,h1,h2,h3,h4,h5⟩ | ⟨r,t,h1,h2,h3,h4⟩)
    · exact .inl z
    · by_cases hk:k<j
      · exact .inr (.inl ⟨k,r,t,hk,h2,h3,h4,h5⟩)
      · have:k=j:=by omega
        subst this
        exact .inr (.inr ⟨r,t,h2,h3,by omega,h5⟩)
    · omega
theorem More.seen {N n i:Nat} (N0:0<N) {e:E1.Tab} (he:∀x y,n≤y→e x y=0) {R R':List (List Int)} (h:Seen N n i e R) (hm:More N n (e i) R R.length 0 R'):Seen N n (i+1) e R':=by
  refine h.more N0 he hm.nd fun q=>?_
  rw [hm.mem]
  unfold Upto
  constructor
  · rintro (z | ⟨k,r,t,h1,h2,h3,h4,h5⟩ | ⟨r,t,h1,h2,h3,h4⟩)
    · exact .inl z
    · exact .inr ⟨r,List.mem_of_getElem? h2,t,h3,h4,h5⟩
    · omega
  · rintro (z | ⟨r,hr,t,h3,h4,h5⟩)
    · exact .inl z
    · obtain ⟨k,hk,e1⟩:=List.getElem_of_mem hr
      exact .inr (.inl ⟨k,r,t,hk,by rw [List.getElem?_eq_getElem hk,e1],h3,h4,h5⟩)
section
variable {P:Program} {w:World} {K:PySem.W.Frag} {mg:Str→Option Value} {base:Heap}
inductive SpTried (vs:List V) (H:Hp) (Q:VK):Prop
  | mk (a:Addr) (rs:List Addr) (T:Tb) (m n N:Nat) (_:vs=[.ref a,.int N]) (_:TabAt H a rs T) (_:Rect m n T) (_:0<m) (_:0<n) (_:n≤3) (_:0<N) (_:N≤12) (_:∀(k:Nat) (H':Hp),Same H H'→E1.Cnt N m n (ent T) k→Q (.int k) H'):SpTried vs H Q
def spTried:Sp:=fun vs H Q _=>SpTried vs H Q
set_option maxHeartbeats 4000000 in
theorem ok_q0r (D:DefAt K mg "_law_tried" s_q0r ["_law_table","_law_number"]) (T:Bt mg) (Tdict:mg "dict" = none):Callee P w K mg base 1 "_law_tried" ["_law_table","_law_number"] spTried:=by
  refine D.ok (k:=0) sc_q0r (fun vs H Q E h=>?_) (fun f cdv A outer s H vs Q E hr h=>?_)
  · obtain ⟨_,_,_,_,_,_,rfl,_⟩:=h
    rfl
  · obtain ⟨a,rs,Tt,m,n,N,rfl,ht,hrt,m0,n0,n3,N0,N12,k⟩:=h
    refine ⟨_,(pss_cons (ps_set (i:=2) sc_q0r.nd rfl (Or.inl rfl) (pe_dispT (Nat.lt_of_le_of_lt (Nat.add_le_add_left (by decide) _) hr.units) (pe_callTy (call_tuple_ofK (K:=K) rfl) rfl T.tuple bt_tuple (pa_cons (pe_op op_rep (pe_lst (pa_cons pe_int pa_nil)) (pe_callB call_len_seq rfl T.len bt_len (pa_cons (pe_ix ix_list (pv 0) pe_int (fun _ _=>rfl)) pa_nil))) pa_nil)) pe_bl))
        (pss_cons (ps_for PassesOwn.never rfl (pi_list (pv 0)) (pg_name (i:=3) sc_q0r.nd rfl (Or.inr rfl)) (pss_cons (ps_set (i:=4) sc_q0r.nd rfl (Or.inl rfl) (pe_callTy call_dictT rfl Tdict bt_dict (pa_cons (pv 2) pa_nil)))
        (pss_cons (ps_for PassesOwn.never rfl (pi_list (pe_callTy (call_listT rfl) rfl T.list bt_list (pa_cons (pv 2) pa_nil))) (pg_name (i:=5) sc_q0r.nd rfl (Or.inl rfl)) (pss_cons (ps_set (i:=6) sc_q0r.nd rfl (Or.inr rfl) (pe_callTy call_list_of rfl T.list bt_list (pa_cons (pv 5) pa_nil)))
        (pss_one (ps_for PassesOwn.never rfl (pi_range2 rfl T.range (pa_cons pe_int (pa_cons (pv 1) pa_nil))) (pg_name (i:=7) sc_q0r.nd rfl (Or.inl rfl)) (pss_cons (ps_set (i:=6) sc_q0r.nd rfl (Or.inr rfl) (pe_comp (N:=["_law_here","_law_row","_law_number","_law_k"]) (cap:=[6,3,1]) (k:=1) (CompScope.mk' (defScope s_q0r) ["_law_table","_law_number","_law_seen","_law_row","_law_more","_law_rests","_law_here","_law_times"] rfl rfl (by decide +kernel)) rfl (pi_range1 rfl T.range (pa_cons (pe_callB call_len_seq rfl T.len bt_len (pa_cons (pv 3) pa_nil)) pa_nil)) (fun _ _ _ _=>(pg_name (i:=3) (show (["_law_here","_law_row","_law_number","_law_k"]:List Str).Nodup by decide +kernel) rfl (Or.inl rfl))) (fun _ _ _ _=>(pe_op op_mod (pe_op op_add (pe_ix (ix_listK (K:=K) rfl) (pv 0) (pv 3) (fun _ _=>rfl)) (pe_ix (ix_listK (K:=K) rfl) (pv 1) (pv 3) (fun _ _=>rfl))) (pv 2)))))
        (pss_one (ps_dput (Nat.lt_of_le_of_lt (Nat.add_le_add_left (by decide) _) hr.units) (pv 4) (pe_callTy (call_tuple_ofK (K:=K) rfl) rfl T.tuple bt_tuple (pa_cons (pv 6) pa_nil)) pe_bl rfl)))))))
        (pss_one (ps_set (i:=2) sc_q0r.nd rfl (Or.inl rfl) (pv 4))))))
        (pss_one (ps_ret (pe_callB call_lenT rfl T.len bt_len (pa_cons (pv 2) pa_nil)))))),?_⟩
    have h1:=ht.tab.1
    obtain ⟨r0,e0,_,hr0,hl0⟩:=ht.at hrt m0
    intro sd hsd
    have s0:Same H (upd H sd (.dT [])):=same_upd hsd
    have hsd0:(upd H sd (.dT [])) sd=some (.dT []):=upd_same
    generalize upd H sd (.dT [])=H0 at s0 hsd0 ⊢
    refine ⟨by show 1≤sizeLine;decide,fun l1 hl1=>?_⟩
    have s1:Same H0 (upd H0 l1 (.lst [V.int 0])):=same_upd hl1
    have hl11:(upd H0 l1 (.lst [V.int 0])) l1=some (.lst [V.int 0]):=upd_same
    generalize upd H0 l1 (.lst [V.int 0])=H1 at s1 hl11 ⊢
    have s01:=s0.trans s1
    refine ⟨_,rfl,a,_,_,_,rfl,rfl,SqL.of (s01 _ _ h1),atI_nat (j:=0) (rget e0),r0,_,rfl,.inl (SqL.of (s01 _ _ hr0)),?_⟩
    rw [List.length_map,hl0]
    refine ⟨l1,_,_,rfl,rfl,hl11,by omega,by omega,by show 1*((n:Int)).toNat≤sizeLine;exact Nat.le_trans (by simp;omega:1*((n:Int)).toNat≤1000) (by decide),fun z hz=>?_⟩
    rw [Int.toNat_natCast,rep_of]
    have s2:Same H1 (upd H1 z (.lst ((List.replicate n (0:Int)).map V.int))):=same_upd hz
    have hz2:(upd H1 z (.lst ((List.replicate n (0:Int)).map V.int))) z=some (.lst ((List.replicate n (0:Int)).map V.int)):=upd_same
    generalize upd H1 z (.lst ((List.replicate n (0:Int)).map V.int))=H2 at s2 hz2 ⊢
    refine ⟨z,_,rfl,.inl ⟨SqL.of hz2,fun tp htp=>?_⟩⟩
    have s3:Same H2 (upd H2 tp (.tup ((List.replicate n (0:Int)).map V.int))):=same_upd htp
    have htp3:(upd H2 tp (.tup ((List.replicate n (0:Int)).map V.int))) tp=some (.tup ((List.replicate n (0:Int)).map V.int)):=upd_same
    generalize upd H2 tp (.tup ((List.replicate n (0:Int)).map V.int))=H3 at s3 htp3 ⊢
    have s13:=s1.trans (s2.trans s3)
    refine ⟨tp,keyR (List.replicate n 0),rfl,by rw [keyR_kV];exact htp3,s13 _ _ hsd0,?_⟩
    have s4:Same H (upd H3 sd (dRows [List.replicate n 0])):=fun b o e=>by
      rw [upd_ne (ne_of_none e hsd)];exact s13 _ _ (s0 _ _ e)
    have hd4:(upd H3 sd (dRows [List.replicate n 0])) sd=some (dRows [List.replicate n 0]):=upd_same
    refine (?_:(fun HH=>_) (upd H3 sd (dRows [List.replicate n 0])))
    generalize upd H3 sd (dRows [List.replicate n 0])=H4 at s4 hd4 ⊢
    have he:∀x y,n≤y→ent Tt x y=0:=fun x y hy=>ent_out_col hrt x hy
    refine ⟨_,rfl,a,rfl,⟨_,SqL.of (s4 _ _ h1)⟩,for_list (K:=K) (a:=a) (xs:=rs.map V.ref) (fun i σ H5=>∃(sd:Addr) (R:List (List Int)) (v3 v4 v5 v6 v7:Option V),σ=[some (.ref a),some (.int N),some (.ref sd),v3,v4,v5,v6,v7]∧Same H H5∧H sd=none∧H5 sd=some (dRows R)∧Seen N n i (ent Tt) R)
      ⟨sd,_,none,none,none,none,none,rfl,s4,hsd,hd4,seen_zero N0 _⟩ (fun i σ H5 _ ⟨_,_,_,_,_,_,_,_,s5,_⟩=>SqL.of (s5 _ _ h1)) ?_ ?_⟩
    · rintro i y σ H5 hy ⟨sd,R,v3,v4,v5,v6,v7,rfl,s5,hsd,hd5,hS⟩
      obtain ⟨r,er,rfl⟩:=mref hy
      have him:i<m:=by rw [←ht.len hrt];exact (List.getElem?_eq_some_iff.mp er).1
      obtain ⟨r',er',_,hrow,hlr⟩:=ht.at hrt him
      rw [er] at er';cases er'
      have hsm:=hS.rests N12
      refine ⟨_,rfl,sd,R,rfl,hd5,hS.ne N0,hash_rows n3 hS.nd hsm,fun md hmd=>?_⟩
      have s6:Same H5 (upd H5 md (dRows R)):=same_upd hmd
      have hmd6:(upd H5 md (dRows R)) md=some (dRows R):=upd_same
      have hmd0:H md=none:=s5.free hmd
      generalize upd H5 md (dRows R)=H6 at s6 hmd6 ⊢
      refine ⟨_,rfl,sd,_,rfl,s6 _ _ hd5,fun l bs hl hp=>?_⟩
      have s7:Same H6 (upd H6 l (.lst (bs.map V.ref))):=same_upd hl
      have hl7:(upd H6 l (.lst (bs.map V.ref))) l=some (.lst (bs.map V.ref)):=upd_same
      have hlm:l≠md:=fun z=>by rw [z,hmd6] at hl;cases hl
      generalize upd H6 l (.lst (bs.map V.ref))=H7 at s7 hl7 ⊢
      have hmd7:=s7 _ _ hmd6
      have hbs:bs.length=R.length:=by rw [Paired.length hp];unfold rowsD;simp
      have hrow7:IsRow H7 r (Tt.getD i []):=s7 _ _ (s6 _ _ (s5 _ _ hrow))
      have hrm:r≠md:=fun z=>by rw [z,IsRow,hmd7] at hrow7;cases hrow7
      refine ⟨l,rfl,⟨_,SqL.of hl7⟩,for_list (K:=K) (a:=l) (xs:=bs.map V.ref) (fun j σ H8=>∃(R':List (List Int)) (v5 v6 v7:Option V),σ=[some (.ref a),some (.int N),some (.ref sd),some (.ref r),some (.ref md),v5,v6,v7]∧Stay H7 H8 [md]∧H8 md=some (dRows R')∧More N n (ent Tt i) R j 0 R')
        ⟨R,v5,v6,v7,rfl,fun b o e _=>e,hmd7,More.start hS.nd hsm⟩ (fun j σ H8 _ ⟨_,_,_,_,_,st,_⟩=>SqL.of (st _ _ hl7 (by simp [hlm]))) ?_ ?_⟩
      · rintro j y σ H8 hy ⟨R',v5,v6,v7,rfl,st8,hmd8,hM⟩
        obtain ⟨b,eb,rfl⟩:=mref hy
        obtain ⟨kv,ekv,hkv⟩:=pget hp eb
        have hj:∃q,R[j]?=some q∧kv=(keyR q,V.bl true):=by
          unfold rowsD at ekv
          rw [List.getElem?_map] at ekv
          cases e:R[j]? with
          | none=>rw [e] at ekv;cases ekv
          | some q=>rw [e] at ekv;exact ⟨q,rfl,(Option.some.inj ekv).symm⟩
        obtain ⟨q,eq,rfl⟩:=hj
        have hkv:H6 b=some (.tup ((keyR q).map kV)):=hkv
        rw [keyR_kV] at hkv
        have hbm:b≠md:=fun z=>by rw [z,hmd6] at hkv;cases hkv
        have hb8:H8 b=some (.tup (q.map V.int)):=st8 _ _ (s7 _ _ hkv) (by simp [hbm])
        have hqR:q∈R:=List.mem_of_getElem? eq
        have hql:=hS.len q hqR
        refine ⟨_,rfl,b,_,rfl,.inr (SqT.of hb8),fun h0 hh0=>?_⟩
        have hbq:(upd H8 h0 (.lst (q.map V.int))) h0=some (.lst (q.map V.int)):=upd_same
        have st9:Stay H7 (upd H8 h0 (.lst (q.map V.int))) [md]:=fun b o e hb=>by
          have:=st8 b o e hb
          rw [upd_ne (ne_of_none this hh0)];exact this
        have hmd9:(upd H8 h0 (.lst (q.map V.int))) md=some (dRows R'):=by rw [upd_ne (ne_of_none hmd8 hh0)];exact hmd8
        generalize upd H8 h0 (.lst (q.map V.int))=H9 at hbq st9 hmd9 ⊢
        have hq0:stepR N n (ent Tt i) 0 q=q:=stepR_zero hql ((hS.mem q hql).mp hqR).1
        refine ⟨_,rfl,1,N,rfl,⟨by decide,by decide,by omega,by omega⟩,for_range (fun t σ HA=>∃(hd:Addr) (R'':List (List Int)) (v7:Option V),σ=[some (.ref a),some (.int N),some (.ref sd),some (.ref r),some (.ref md),some (.ref b),some (.ref hd),v7]∧Stay H7 HA [md]∧HA md=some (dRows R'')∧HA hd=some (.lst ((stepR N n (ent Tt i) t q).map V.int))∧More N n (ent Tt i) R j t R'')
          ⟨h0,R',v7,rfl,st9,hmd9,by rw [hq0];exact hbq,hM⟩ ?_ ?_⟩
        · rintro t σ HA hlt ⟨hd,R'',v7',rfl,stA,hmdA,hhdA,hMA⟩
          have hrA:IsRow HA r (Tt.getD i []):=stA _ _ hrow7 (by simp [hrm])
          refine ⟨_,rfl,r,_,rfl,.inl (SqL.of hrA),?_⟩
          rw [List.length_map,hlr]
          refine ⟨_,rfl,by omega,by omega,?_⟩
          refine comp_it (J:=Itr 0 _) (n:=n) (fun k ys HB=>HB=HA∧k≤n∧ys=((stepR N n (ent Tt i) (t+1) q).take k).map V.int) (Nat.le_trans (by omega:n≤1000) (by decide)) ⟨rfl,Nat.zero_le _,by simp⟩ (fun k ys HB ⟨_,hle,e⟩=>by rw [e,List.length_map,List.length_take,(show (stepR N n (ent Tt i) (t+1) q).length=n from rowV_len _ _)];omega)
            (fun k ys HB hi _=>by show k<Int.toNat _;simpa using hi) (fun ys HB _=>by show Int.toNat _≤n;simp) ?_ ?_
          · rintro k x ys HB HC hk ⟨rfl,_,rfl⟩ ⟨rfl,rfl⟩
            rw [Int.zero_add]
            have hkl:k<(stepR N n (ent Tt i) t q).length:=by rw [(show (stepR N n (ent Tt i) t q).length=n from rowV_len _ _)];exact hk
            refine ⟨rfl,_,rfl,_,rfl,hd,_,_,_,rfl,rfl,SqL.of hhdA,atI_nat (iget (getD_some (rowV_len _ _) hk)),_,rfl,_,rfl,r,_,_,_,rfl,rfl,SqL.of hrA,atI_nat (iget (getD_some hlr hk)),_,_,rfl,rfl,_,rfl,_,_,rfl,rfl,by omega,rfl,hk,?_⟩
            rw [List.take_succ,stepR_get (ent Tt i) t q hk,List.map_append]
            rfl
          · rintro ys HB ⟨rfl,_,rfl⟩ hn hhn
            have e1:(stepR N n (ent Tt i) (t+1) q).take n=stepR N n (ent Tt i) (t+1) q:=List.take_of_length_le (by rw [(show (stepR N n (ent Tt i) (t+1) q).length=n from rowV_len _ _)];exact Nat.le_refl _)
            rw [e1]
            generalize hS2:stepR N n (ent Tt i) (t+1) q=q2
            have stC:Stay H7 (upd HB hn (.lst (q2.map V.int))) [md]:=fun b o e hb=>by
              have:=stA b o e hb
              rw [upd_ne (ne_of_none this hhn)];exact this
            have hmdC:(upd HB hn (.lst (q2.map V.int))) md=some (dRows R''):=by rw [upd_ne (ne_of_none hmdA hhn)];exact hmdA
            have hhnC:(upd HB hn (.lst (q2.map V.int))) hn=some (.lst (q2.map V.int)):=upd_same
            generalize upd HB hn (.lst (q2.map V.int))=HC at stC hmdC hhnC ⊢
            refine ⟨_,rfl,_,rfl,hn,_,rfl,.inl ⟨SqL.of hhnC,fun tp htp=>?_⟩⟩
            have stD:Stay H7 (upd HC tp (.tup (q2.map V.int))) [md]:=fun b o e hb=>by
              have:=stC b o e hb
              rw [upd_ne (ne_of_none this htp)];exact this
            have hmdD:(upd HC tp (.tup (q2.map V.int))) md=some (dRows R''):=by rw [upd_ne (ne_of_none hmdC htp)];exact hmdC
            have hhnD:(upd HC tp (.tup (q2.map V.int))) hn=some (.lst (q2.map V.int)):=by rw [upd_ne (ne_of_none hhnC htp)];exact hhnC
            have htpD:(upd HC tp (.tup (q2.map V.int))) tp=some (.tup (q2.map V.int)):=upd_same
            generalize upd HC tp (.tup (q2.map V.int))=HD at stD hmdD hhnD htpD ⊢
            have hlen:(rowsD R'').length<sizeLine:=by
              have:=hMA.len n3
              unfold rowsD;rw [List.length_map];exact this
            refine ⟨md,_,rfl,DPut.t (k:=keyR q2) hmdD (by rw [keyR_kV];exact htpD) hlen,?_⟩
            rw [putK_rows]
            have hnm:hn≠md:=fun z=>by rw [z,hmdD] at hhnD;cases hhnD
            refine ⟨hn,addRow R'' q2,_,rfl,fun b o e hb=>?_,upd_same,by rw [upd_ne hnm];exact hhnD,?_⟩
            · have hbm:b≠md:=by simpa using hb
              rw [upd_ne hbm];exact stD b o e hb
            · rw [←hS2];exact hMA.put N0 N12 eq
        · rintro σ HA ⟨hd,R'',v7',rfl,stA,hmdA,hhdA,hMA⟩
          have e1:((N:Int) - 1).toNat=N - 1:=by omega
          rw [e1] at hMA
          exact ⟨R'',_,_,_,rfl,stA,hmdA,hMA.next⟩
      · rintro σ H8 ⟨R',v5',v6',v7',rfl,st8,hmd8,hM⟩
        refine ⟨_,rfl,md,R',_,_,_,_,_,rfl,fun b o e=>?_,hmd0,hmd8,?_⟩
        · exact st8 _ _ (s7 _ _ (s6 _ _ (s5 _ _ e))) (by simp;exact ne_of_none e hmd0)
        · rw [List.length_map,hbs] at hM
          exact More.seen N0 he hS hM
    · rintro σ H5 ⟨sd,R,v3,v4,v5,v6,v7,rfl,s5,hsd,hd5,hS⟩
      refine ⟨_,rfl,sd,_,rfl,hd5,?_⟩
      have hl:(rs.map V.ref).length=m:=by rw [List.length_map,ht.len hrt]
      rw [hl] at hS
      have e1:(rowsD R).length=R.length:=by unfold rowsD;simp
      rw [e1]
      exact k R.length H5 s5 hS.cnt
end
end X1
namespace X1
open PySem L2
theorem at_far6 (x:Int):∃v:Int,atI [V.int 1,V.int 2,V.int 1,V.int 3,V.int 1,V.int 6] (x % 6)=some (.int v)∧1≤v∧v≤6:=by
  have h1:0≤x % 6:=Int.emod_nonneg _ (by decide)
  have h2:x % 6<6:=Int.emod_lt_of_pos _ (by decide)
  have:x % 6=0∨x % 6=1∨x % 6=2∨x % 6=3∨x % 6=4∨x % 6=5:=by omega
  rcases this with h | h | h | h | h | h
  · exact ⟨1,by rw [h];rfl,by decide,by decide⟩
  · exact ⟨2,by rw [h];rfl,by decide,by decide⟩
  · exact ⟨1,by rw [h];rfl,by decide,by decide⟩
  · exact ⟨3,by rw [h];rfl,by decide,by decide⟩
  · exact ⟨1,by rw [h];rfl,by decide,by decide⟩
  · exact ⟨6,by rw [h];rfl,by decide,by decide⟩
theorem hm_pk (N:Nat) (e:E1.Tab):∀k,hm N (dg k e)=((E1.pk N (fun y=>Nat.gcd N (e y y).natAbs) k:Nat):Int)
  | 0=>rfl
  | k+1=>by
    have h1:dg (k+1) e=dg k e++[e k k]:=by unfold dg;rw [List.range_succ,List.map_append];rfl
    have h2:=hm_pk N e k
    unfold hm at h2 ⊢
    rw [h1,List.map_append,List.map_singleton,prodL_snoc,h2]
    show _=((E1.pk N _ k*(N / Nat.gcd N (e k k).natAbs):Nat):Int)
    push_cast
    rfl
section
variable {P:Program} {w:World} {K:PySem.W.Frag} {mg:Str→Option Value} {base:Heap}
def spLaw (K:PySem.W.Frag):Sp:=fun vs H Q _=>∃(a:Addr) (ns:List Int),vs=[.ref a]∧SqL K H a (ns.map V.int)∧ns.length≤63∧∀H',Q (.bl true) H'
set_option maxHeartbeats 8000000 in
theorem ok_q0s (D:DefAt K mg "law" s_q0s ["_law_script"]) (T:Bt mg) (C_q0m:Callee P w K mg base 1 "_law_at" ["_law_script","_law_k"] (spAt K)) (C_q0q:Callee P w K mg base 2 "_law_table_by" ["_law_script","_law_first","_law_high","_law_wide"] (spTabBy K)) (C_q0p:Callee P w K mg base 1 "_law_scaled" ["_law_table","_law_many"] spScaled) (C_q0o:Callee P w K mg base 1 "_law_copy" ["_law_table"] spCopy) (C_q0i:Callee P w K mg base 48 "how_many" ["table","number"] spHowMany) (C_q0n:Callee P w K mg base 2 "_law_is_table" ["_law_found","_law_high","_law_wide"] spIsT) (C_q0l:Callee P w K mg base 1 "_law_whole" ["_law_found"] spWhole) (C_q0r:Callee P w K mg base 1 "_law_tried" ["_law_table","_law_number"] spTried):Callee P w K mg base 49 "law" ["_law_script"] (spLaw K):=by
  refine D.ok (k:=48) sc_q0s (fun vs H Q E h=>?_) (fun f cdv A outer s H vs Q E hr h=>?_)
  · obtain ⟨_,_,rfl,_⟩:=h
    rfl
  · obtain ⟨a0,ns,rfl,ha0,hlen,k⟩:=h
    refine ⟨_,(pss_cons (ps_set (i:=0) sc_q0s.nd rfl (Or.inl rfl) (pe_slice sl_list (pv 0) po_none (po_some pe_int)))
        (pss_cons (ps_set (i:=1) sc_q0s.nd rfl (Or.inl rfl) (pe_op op_add pe_int (pe_op op_mod (pe_callC C_q0m (hr.mono (by decide)) rfl (pa_cons (pv 0) (pa_cons pe_int pa_nil))) pe_int)))
        (pss_cons (ps_set (i:=2) sc_q0s.nd rfl (Or.inl rfl) (pe_op op_add pe_int (pe_op op_mod (pe_callC C_q0m (hr.mono (by decide)) rfl (pa_cons (pv 0) (pa_cons pe_int pa_nil))) pe_int)))
        (pss_cons (ps_set (i:=3) sc_q0s.nd rfl (Or.inl rfl) (pe_ix ix_list (pe_lst (pa_cons pe_int (pa_cons pe_int (pa_cons pe_int (pa_cons pe_int (pa_cons pe_int (pa_cons pe_int pa_nil))))))) (pe_op op_mod (pe_callC C_q0m (hr.mono (by decide)) rfl (pa_cons (pv 0) (pa_cons pe_int pa_nil))) pe_int) (fun _ _=>rfl)))
        (pss_cons (ps_set (i:=4) sc_q0s.nd rfl (Or.inl rfl) (pe_callC C_q0p (hr.mono (by decide)) rfl (pa_cons (pe_callC C_q0q (hr.mono (by decide)) rfl (pa_cons (pv 0) (pa_cons pe_int (pa_cons (pv 1) (pa_cons (pv 2) pa_nil))))) (pa_cons (pv 3) pa_nil))))
        (pss_cons (ps_set (i:=5) sc_q0s.nd rfl (Or.inl rfl) (pe_op op_add pe_int (pe_op op_mod (pe_callC C_q0m (hr.mono (by decide)) rfl (pa_cons (pv 0) (pa_cons pe_int pa_nil))) pe_int)))
        (pss_consX (ps_if (pt_cmpR op_eq (pv 1) pe_int (nomark _)) (pss_one (ps_set (i:=5) sc_q0s.nd rfl (Or.inl rfl) (pe_op op_add pe_int (pe_op op_mod (pe_callC C_q0m (hr.mono (by decide)) rfl (pa_cons (pv 0) (pa_cons pe_int pa_nil))) pe_int)))) pss_nil)
        (pss_cons (ps_set (i:=6) sc_q0s.nd rfl (Or.inl rfl) (pe_callC C_q0o (hr.mono (by decide)) rfl (pa_cons (pv 4) pa_nil)))
        (pss_cons (ps_set (i:=7) sc_q0s.nd rfl (Or.inl rfl) (pe_callC C_q0i (hr.mono (by decide)) rfl (pa_cons (pv 6) (pa_cons (pv 5) pa_nil))))
        (pss_cons (ps_if (PW.pt (pw_or (pt_not (pt_val (pe_callC C_q0n (hr.mono (by decide)) rfl (pa_cons (pv 6) (pa_cons (pv 1) (pa_cons (pv 2) pa_nil)))))) (pw_or1 (pt_cmpR (op_neT hr.units) (pv 6) (pv 4) (nomark _))))) (pss_one (ps_ret pe_bl)) pss_nil)
        (pss_one (ps_ret (pe_and (pe_callC C_q0l (hr.mono (by decide)) rfl (pa_cons (pv 7) pa_nil)) (pe_one (pe_cmpR op_eq (pv 7) (pe_callC C_q0r (hr.mono (by decide)) rfl (pa_cons (pv 4) (pa_cons (pv 5) pa_nil))) (nomark _)))))))))))))))),?_⟩
    refine ⟨_,rfl,_,rfl,a0,_,rfl,ha0,fun a hpa=>?_⟩
    have ecut:cutV (ns.map V.int) none (some 500)=ns.map V.int:=cut_all (by rw [List.length_map];omega)
    rw [ecut]
    have ha:SqL K (upd H a (.lst (ns.map V.int))) a (ns.map V.int):=SqL.of upd_same
    generalize upd H a (.lst (ns.map V.int))=H0 at ha ⊢
    refine ⟨_,rfl,a,ns,0,rfl,ha,_,_,rfl,rfl,(by show (0:Int)<3;decide),_,_,rfl,rfl,?_⟩
    obtain ⟨m,em,hm3⟩:=sizeN 3 (by decide) (ns.getD 0 0)
    have em:1+ns.getD 0 0 % 3=((m+1:Nat):Int):=em
    dsimp only
    rw [em]
    refine ⟨_,rfl,a,ns,1,rfl,ha,_,_,rfl,rfl,(by show (0:Int)<3;decide),_,_,rfl,rfl,?_⟩
    obtain ⟨n,en,hn3⟩:=sizeN 3 (by decide) (ns.getD 1 0)
    have en:1+ns.getD 1 0 % 3=((n+1:Nat):Int):=en
    dsimp only
    rw [en]
    obtain ⟨far,hfar,f1,f2⟩:=at_far6 (ns.getD 2 0)
    refine ⟨by show 6≤sizeLine;decide,fun pf hpf=>?_⟩
    have sf:Same H0 (upd H0 pf (.lst [V.int 1,V.int 2,V.int 1,V.int 3,V.int 1,V.int 6])):=same_upd hpf
    refine ⟨_,rfl,a,ns,2,rfl,sf.seq ha,_,_,rfl,rfl,(by show (0:Int)<6;decide),pf,_,_,_,rfl,rfl,SqL.of upd_same,hfar,?_⟩
    have ha1:=sf.seq ha
    generalize upd H0 pf (.lst [V.int 1,V.int 2,V.int 1,V.int 3,V.int 1,V.int 6])=H1 at ha1 ⊢
    refine ⟨_,rfl,_,rfl,_,rfl,a,ns,4,m+1,n+1,rfl,ha1,by omega,by omega,fun tb0 rs0 T0 H2 s2 ht2 _ hr2 hb2=>?_⟩
    refine ⟨_,rfl,tb0,rs0,T0,far,m+1,n+1,rfl,ht2,hr2,by omega,by omega,⟨by omega,by omega⟩,fun tb rs H3 s3 ht3 _=>?_⟩
    have hr3:Rect (m+1) (n+1) (T0.map fun r=>r.map fun x=>far*x):=hr2.scaled
    have hb3:Big (6*10^12) (T0.map fun r=>r.map fun x=>far*x):=(hb2.scaled (q:=far)).mono (Nat.mul_le_mul_right _ (by omega))
    have ha3:=(s2.trans s3).seq ha1
    generalize (T0.map fun r=>r.map fun x=>far*x)=TT at ht3 hr3 hb3
    have hbig:Big (2^44) TT:=hb3.mono (by decide)
    refine ⟨_,rfl,a,ns,3,rfl,ha3,_,_,rfl,rfl,(by show (0:Int)<4;decide),_,_,rfl,rfl,?_⟩
    refine ⟨fun σ' H'=>∃N:Nat,σ'=[some (.ref a),some (.int ((m+1:Nat):Int)),some (.int ((n+1:Nat):Int)),some (.int far),some (.ref tb),some (.int N),none,none]∧H'=H3∧0<N∧N≤12,⟨_,rfl,rfl,_,rfl,?_⟩,?_⟩
    · by_cases h1:((m+1:Nat):Int)=1
      · refine iteP (congrArg V.int h1) ?_
        refine ⟨_,rfl,a,ns,3,rfl,ha3,_,_,rfl,rfl,(by show (0:Int)<8;decide),_,_,rfl,rfl,?_⟩
        have x0:0≤ns.getD 3 0 % 8:=Int.emod_nonneg _ (by decide)
        have x8:ns.getD 3 0 % 8<8:=Int.emod_lt_of_pos _ (by decide)
        obtain ⟨N,eN⟩:=Int.eq_ofNat_of_zero_le (show 0≤5+ns.getD 3 0 % 8 by omega)
        exact ⟨N,by dsimp only;rw [eN];rfl,rfl,by omega,by omega⟩
      · refine iteN (v_ne h1) ?_
        have x0:0≤ns.getD 3 0 % 4:=Int.emod_nonneg _ (by decide)
        have x8:ns.getD 3 0 % 4<4:=Int.emod_lt_of_pos _ (by decide)
        obtain ⟨N,eN⟩:=Int.eq_ofNat_of_zero_le (show 0≤1+ns.getD 3 0 % 4 by omega)
        exact ⟨N,by dsimp only;rw [eN];rfl,rfl,by omega,by omega⟩
    rintro σ' H' ⟨N,z1,z2,N0,N12⟩
    rw [z1,z2]
    clear z1 z2
    obtain ⟨L,e',hBr,hap,hok2,hfine,hlenL⟩:=E1.brought_43 (e:=ent TT) (h:=m+1) (w:=n+1) (by omega) hn3 (wide_ent hr3) (fun x y hx=>ent_out_row hr3 hx y) (fun x y=>hbig.ent x y)
    have hz:L.length≤sizeLine:=Nat.le_trans hlenL (by decide)
    refine ⟨_,rfl,tb,rs,TT,rfl,ht3,by rw [hr3.1];omega,fun c1 q1 H5 s5 hc5 _=>?_⟩
    refine ⟨_,rfl,_,rfl,c1,q1,TT,m+1,n+1,N,L,e',rfl,hc5,hr3,by omega,by omega,by omega,by omega,N0,Nat.le_trans N12 (Nat.le_trans (by decide:12≤2^4) (Nat.pow_le_pow_right (by decide) (by decide))),hBr,hz,hfine.nn,fun H6 s6=>?_⟩
    have hc6:=hc5.same s6
    have ht6:=ht3.same (s5.trans s6)
    refine ⟨_,rfl,_,rfl,_,rfl,c1,q1,TT,m+1,n+1,rfl,hc6,hr3,_,rfl,iteF ⟨_,rfl,_,rfl,c1,tb,q1,rs,TT,TT,rfl,rfl,hc6.tab,ht6.tab,_,rfl,iteNS rfl ?_⟩⟩
    refine ⟨_,rfl,_,rfl,_,rfl,iteT ⟨_,rfl,_,rfl,_,rfl,tb,rs,TT,m+1,n+1,N,rfl,ht6,hr3,by omega,by omega,hn3,N0,N12,fun kk H7 s7 hc=>⟨rfl,?_⟩⟩⟩
    have ek:hm N (dg (min (m+1) (n+1)) e')=(kk:Int):=by rw [hm_pk,E1.cnt_fine N0 hok2 hap hfine hc]
    rw [decide_eq_true (congrArg V.int ek)]
    exact k H7
end
end X1
namespace X1
open PySem L2
structure FD (K:PySem.W.Frag) (x:Str) (st:Stmt):Prop where
  ex:∃(f:Addr),PySem.W.nsIn K mainGlobals x=some (some (.ref f))∧∃(oc:Value) (od an:Option Addr) (sl:Array (Option Value)) (kV dc pm cd ct:Value),K.lookup f=some ⟨oc,od,.func (PySem.W.fnOf x x (defArgs st) (defBody st) (defScope st) .none kV dc pm an cd ct),sl⟩∧PySem.W.codeIn K cd x=true∧PySem.W.keepIn K (.ref f)=true
theorem FD.d {K:PySem.W.Frag} {h:Heap} {mg:Str→Option Value} {x:Str} {st:Stmt} (F:FD K x st) (X:K.In h) (G:h.Ns mainGlobals mg) (ps:List Str) (hb:∀(kV doc pm:Value) (an:Option Addr) (cdv ct:Value) (us:List Value),us.length=ps.length→bindArgs (PySem.W.fnOf x x (defArgs st) (defBody st) (defScope st) .none kV doc pm an cdv ct) ⟨us,[]⟩=pure (ps.zip us)):DefAt K mg x st ps:=by
  obtain ⟨f,a,oc,od,an,sl,kV,dc,pm,cd,ct,l,c,k⟩:=F.ex
  exact def_mk X G a l c k hb
structure FM (K:PySem.W.Frag) (C:Addr) (x q:Str) (st:Stmt):Prop where
  ex:∃(f:Addr),PySem.W.findIn K (.ref C) x=some (some (.ref f))∧PySem.W.isFn K (.ref f)=true∧∃(oc:Value) (od an:Option Addr) (sl:Array (Option Value)) (kV dc pm cd ct:Value),K.lookup f=some ⟨oc,od,.func (PySem.W.fnOf x q (defArgs st) (defBody st) (defScope st) .none kV dc pm an cd ct),sl⟩∧PySem.W.codeIn K cd q=true∧PySem.W.keepIn K (.ref f)=true
theorem FM.d {K:PySem.W.Frag} {C:Addr} {x q:Str} {st:Stmt} (F:FM K C x q st) (ps:List Str) (hb:∀(kV doc pm:Value) (an:Option Addr) (cdv ct:Value) (us:List Value),us.length=ps.length→bindArgs (PySem.W.fnOf x q (defArgs st) (defBody st) (defScope st) .none kV doc pm an cdv ct) ⟨us,[]⟩=pure (ps.zip us)):MDefAt K C x q st ps:=by
  obtain ⟨f,a,i,oc,od,an,sl,kV,dc,pm,cd,ct,l,c,k⟩:=F.ex
  exact ⟨_,_,fun_mk l c k,⟨a,i,k⟩,(fun_mk l c k).binds hb⟩
theorem FM.i {K:PySem.W.Frag} {h:Heap} {mg:Str→Option Value} {C:Addr} {y q:Str} {st:Stmt} (F:FM K C "__init__" q st) (X:K.In h) (G:h.Ns mainGlobals mg) (mk:PySem.W.makesIn K C=true) (kc:PySem.W.keepIn K (.ref C)=true) (aC:PySem.W.nsIn K mainGlobals y=some (some (.ref C))) (ps:List Str) (hb:∀(kV doc pm:Value) (an:Option Addr) (cdv ct:Value) (us:List Value),us.length=ps.length→bindArgs (PySem.W.fnOf "__init__" q (defArgs st) (defBody st) (defScope st) .none kV doc pm an cdv ct) ⟨us,[]⟩=pure (ps.zip us)):MkAt K mg C y q st ps:=by
  obtain ⟨f,a,i,oc,od,an,sl,kV,dc,pm,cd,ct,l,c,k⟩:=F.ex
  exact ⟨_,_,fun_mk l c k,⟨mk,a,i,kc⟩,PySem.W.mg_of X G aC,(fun_mk l c k).binds hb⟩
theorem lenL1 {us:List Value} (h:us.length=1):∃x0,us=[x0]:=match us,h with | [x0],_=>⟨x0,rfl⟩
theorem lenL2 {us:List Value} (h:us.length=2):∃x0 x1,us=[x0,x1]:=match us,h with | [x0,x1],_=>⟨x0,x1,rfl⟩
theorem lenL3 {us:List Value} (h:us.length=3):∃x0 x1 x2,us=[x0,x1,x2]:=match us,h with | [x0,x1,x2],_=>⟨x0,x1,x2,rfl⟩
theorem lenL4 {us:List Value} (h:us.length=4):∃x0 x1 x2 x3,us=[x0,x1,x2,x3]:=match us,h with | [x0,x1,x2,x3],_=>⟨x0,x1,x2,x3,rfl⟩
set_option maxHeartbeats 4000000 in
theorem all_mk {l:PySem.W.OpenLaw} {w:World} {K:PySem.W.Frag} {h:Heap} {mg:Str→Option Value} {fa:Addr} (htr:l.prog.given.tree=none) (X:K.In h) (G:h.Ns mainGlobals mg) (hfa:mg "law" = some (.ref fa))
    {C:Addr}
    {f36:Addr} {od36 an36:Option Addr} {sl36:Array (Option Value)} {oc36 kV36 dc36 pm36 cd36 ct36:Value}
    (aC:PySem.W.nsIn K mainGlobals "Walk" = some (some (.ref C)))
    (d0:FD K "swap_parts" s_q08)
    (d1:FD K "refuse_no_table" s_q05)
    (d2:FD K "copied" s_q06)
    (d3:FD K "change_by_row" s_q07)
    (d4:FD K "column_of" s_q09)
    (d5:FM K C "__init__" "Walk.__init__" s_q0t)
    (d6:FM K C "tip_over" "Walk.tip_over" s_q0u)
    (d7:FM K C "make" "Walk.make" s_q0v)
    (d8:FM K C "add_times" "Walk.add_times" s_q0w)
    (d9:FM K C "swap_rows" "Walk.swap_rows" s_q0x)
    (d10:FM K C "turn_row" "Walk.turn_row" s_q0y)
    (d11:FM K C "lessen" "Walk.lessen" s_q0z)
    (d12:FM K C "meet" "Walk.meet" s_q10)
    (d13:FD K "first_place" s_q00)
    (d14:FD K "lessen_row" s_q03)
    (d15:FD K "lift" s_q04)
    (d16:FD K "take_in" s_q02)
    (d17:FD K "build_stairs" s_q01)
    (d18:FD K "build_both_stairs" s_q0d)
    (d19:FD K "has_number_beside" s_q0e)
    (d20:FD K "diagonal_length" s_q0c)
    (d21:FD K "link" s_q0g)
    (d22:FD K "chain" s_q0f)
    (d23:FD K "turn_up" s_q0h)
    (d24:FD K "brought" s_q0a)
    (d25:FD K "diagonal" s_q0b)
    (d26:FD K "multiplied" s_q0j)
    (d27:FD K "greatest_into_both" s_q0k)
    (d28:FD K "how_many" s_q0i)
    (d29:FD K "_law_whole" s_q0l)
    (d30:FD K "_law_at" s_q0m)
    (d31:FD K "_law_copy" s_q0o)
    (d32:FD K "_law_is_table" s_q0n)
    (d33:FD K "_law_scaled" s_q0p)
    (d34:FD K "_law_table_by" s_q0q)
    (d35:FD K "_law_tried" s_q0r)
    (a36:PySem.W.nsIn K mainGlobals "law" = some (some (.ref f36)))
    (l36:K.lookup f36=some ⟨oc36,od36,.func (PySem.W.fnOf "law" "law" (defArgs s_q0s) (defBody s_q0s) (defScope s_q0s) .none kV36 dc36 pm36 an36 cd36 ct36),sl36⟩) (c36:PySem.W.codeIn K cd36 "law" = true) (k36:PySem.W.keepIn K (.ref f36)=true)
    (pg:PySem.W.plainGet K C Str.empty=true) (hd:PySem.W.hasDictIn K C=true) (po:PySem.W.plainOver K C=true) (sa:PySem.W.findIn K (.ref C) "__setattr__" = some (some (.builtin "object.__setattr__"))) (mk:PySem.W.makesIn K C=true) (kc:PySem.W.keepIn K (.ref C)=true)
    (nf0:PySem.W.findIn K (.ref C) "rows" = some none)
    (nf1:PySem.W.findIn K (.ref C) "side" = some none)
    (nf2:PySem.W.findIn K (.ref C) "changes" = some none)
    (z0:PySem.W.nsIn K mainGlobals "len" = some none)
    (z1:PySem.W.nsIn K mainGlobals "list" = some none)
    (z2:PySem.W.nsIn K mainGlobals "tuple" = some none)
    (z3:PySem.W.nsIn K mainGlobals "int" = some none)
    (z4:PySem.W.nsIn K mainGlobals "bool" = some none)
    (z5:PySem.W.nsIn K mainGlobals "str" = some none)
    (z6:PySem.W.nsIn K mainGlobals "range" = some none)
    (z7:PySem.W.nsIn K mainGlobals "zip" = some none)
    (z8:PySem.W.nsIn K mainGlobals "enumerate" = some none)
    (z9:PySem.W.nsIn K mainGlobals "reversed" = some none)
    (z10:PySem.W.nsIn K mainGlobals "isinstance" = some none)
    (z11:PySem.W.nsIn K mainGlobals "min" = some none)
    (zdict:PySem.W.nsIn K mainGlobals "dict" = some none) :
    ∃fd:FuncData,(∀(s:Shared) (v:Value),BindsTo s fd ⟨[v],[]⟩ [("_law_script",v)])∧∀base:Heap,K.In base→base.Ns mainGlobals mg→base.NoSeer→FnOk l.prog w K mg base CX0 49 fa fd ["_law_script"] (spLaw K):=by
  have e:=hfa.symm.trans (PySem.W.mg_of X G a36)
  cases e
  have T:Bt mg:=⟨PySem.W.mg_none_of X G z0,PySem.W.mg_none_of X G z1,PySem.W.mg_none_of X G z2,PySem.W.mg_none_of X G z3,PySem.W.mg_none_of X G z4,PySem.W.mg_none_of X G z5,PySem.W.mg_none_of X G z6,PySem.W.mg_none_of X G z7,PySem.W.mg_none_of X G z8,PySem.W.mg_none_of X G z9,PySem.W.mg_none_of X G z10,PySem.W.mg_none_of X G z11⟩
  have XT:WTxt K C:=⟨⟨pg,hd,po,sa⟩,nf0,nf1,nf2⟩
  have D_q08:=d0.d X G ["parts","one","two"] fun _ _ _ _ _ _ us hl=>by obtain ⟨_,_,_,rfl⟩:=lenL3 hl;rfl
  have D_q05:=d1.d X G ["table"] fun _ _ _ _ _ _ us hl=>by obtain ⟨_,rfl⟩:=lenL1 hl;rfl
  have D_q06:=d2.d X G ["table"] fun _ _ _ _ _ _ us hl=>by obtain ⟨_,rfl⟩:=lenL1 hl;rfl
  have D_q07:=d3.d X G ["rows","change"] fun _ _ _ _ _ _ us hl=>by obtain ⟨_,_,rfl⟩:=lenL2 hl;rfl
  have D_q09:=d4.d X G ["rows","place"] fun _ _ _ _ _ _ us hl=>by obtain ⟨_,_,rfl⟩:=lenL2 hl;rfl
  have D_q0t:=d5.i X G mk kc aC ["self","table"] fun _ _ _ _ _ _ us hl=>by obtain ⟨_,_,rfl⟩:=lenL2 hl;rfl
  have D_q0u:=d6.d ["self"] fun _ _ _ _ _ _ us hl=>by obtain ⟨_,rfl⟩:=lenL1 hl;rfl
  have D_q0v:=d7.d ["self","change"] fun _ _ _ _ _ _ us hl=>by obtain ⟨_,_,rfl⟩:=lenL2 hl;rfl
  have D_q0w:=d8.d ["self","one","two","many"] fun _ _ _ _ _ _ us hl=>by obtain ⟨_,_,_,_,rfl⟩:=lenL4 hl;rfl
  have D_q0x:=d9.d ["self","one","two"] fun _ _ _ _ _ _ us hl=>by obtain ⟨_,_,_,rfl⟩:=lenL3 hl;rfl
  have D_q0y:=d10.d ["self","one"] fun _ _ _ _ _ _ us hl=>by obtain ⟨_,_,rfl⟩:=lenL2 hl;rfl
  have D_q0z:=d11.d ["self","one","two","place"] fun _ _ _ _ _ _ us hl=>by obtain ⟨_,_,_,_,rfl⟩:=lenL4 hl;rfl
  have D_q10:=d12.d ["self","top","low","place"] fun _ _ _ _ _ _ us hl=>by obtain ⟨_,_,_,_,rfl⟩:=lenL4 hl;rfl
  have D_q00:=d13.d X G ["row"] fun _ _ _ _ _ _ us hl=>by obtain ⟨_,rfl⟩:=lenL1 hl;rfl
  have D_q03:=d14.d X G ["walk","steps","row","start"] fun _ _ _ _ _ _ us hl=>by obtain ⟨_,_,_,_,rfl⟩:=lenL4 hl;rfl
  have D_q04:=d15.d X G ["walk","low","top","height"] fun _ _ _ _ _ _ us hl=>by obtain ⟨_,_,_,_,rfl⟩:=lenL4 hl;rfl
  have D_q02:=d16.d X G ["walk","steps","low"] fun _ _ _ _ _ _ us hl=>by obtain ⟨_,_,_,rfl⟩:=lenL3 hl;rfl
  have D_q01:=d17.d X G ["walk"] fun _ _ _ _ _ _ us hl=>by obtain ⟨_,rfl⟩:=lenL1 hl;rfl
  have D_q0d:=d18.d X G ["walk"] fun _ _ _ _ _ _ us hl=>by obtain ⟨_,rfl⟩:=lenL1 hl;rfl
  have D_q0e:=d19.d X G ["rows"] fun _ _ _ _ _ _ us hl=>by obtain ⟨_,rfl⟩:=lenL1 hl;rfl
  have D_q0c:=d20.d X G ["rows"] fun _ _ _ _ _ _ us hl=>by obtain ⟨_,rfl⟩:=lenL1 hl;rfl
  have D_q0g:=d21.d X G ["walk","one","two"] fun _ _ _ _ _ _ us hl=>by obtain ⟨_,_,_,rfl⟩:=lenL3 hl;rfl
  have D_q0f:=d22.d X G ["walk"] fun _ _ _ _ _ _ us hl=>by obtain ⟨_,rfl⟩:=lenL1 hl;rfl
  have D_q0h:=d23.d X G ["walk"] fun _ _ _ _ _ _ us hl=>by obtain ⟨_,rfl⟩:=lenL1 hl;rfl
  have D_q0a:=d24.d X G ["table"] fun _ _ _ _ _ _ us hl=>by obtain ⟨_,rfl⟩:=lenL1 hl;rfl
  have D_q0b:=d25.d X G ["table"] fun _ _ _ _ _ _ us hl=>by obtain ⟨_,rfl⟩:=lenL1 hl;rfl
  have D_q0j:=d26.d X G ["numbers"] fun _ _ _ _ _ _ us hl=>by obtain ⟨_,rfl⟩:=lenL1 hl;rfl
  have D_q0k:=d27.d X G ["one","two"] fun _ _ _ _ _ _ us hl=>by obtain ⟨_,_,rfl⟩:=lenL2 hl;rfl
  have D_q0i:=d28.d X G ["table","number"] fun _ _ _ _ _ _ us hl=>by obtain ⟨_,_,rfl⟩:=lenL2 hl;rfl
  have D_q0l:=d29.d X G ["_law_found"] fun _ _ _ _ _ _ us hl=>by obtain ⟨_,rfl⟩:=lenL1 hl;rfl
  have D_q0m:=d30.d X G ["_law_script","_law_k"] fun _ _ _ _ _ _ us hl=>by obtain ⟨_,_,rfl⟩:=lenL2 hl;rfl
  have D_q0o:=d31.d X G ["_law_table"] fun _ _ _ _ _ _ us hl=>by obtain ⟨_,rfl⟩:=lenL1 hl;rfl
  have D_q0n:=d32.d X G ["_law_found","_law_high","_law_wide"] fun _ _ _ _ _ _ us hl=>by obtain ⟨_,_,_,rfl⟩:=lenL3 hl;rfl
  have D_q0p:=d33.d X G ["_law_table","_law_many"] fun _ _ _ _ _ _ us hl=>by obtain ⟨_,_,rfl⟩:=lenL2 hl;rfl
  have D_q0q:=d34.d X G ["_law_script","_law_first","_law_high","_law_wide"] fun _ _ _ _ _ _ us hl=>by obtain ⟨_,_,_,_,rfl⟩:=lenL4 hl;rfl
  have D_q0r:=d35.d X G ["_law_table","_law_number"] fun _ _ _ _ _ _ us hl=>by obtain ⟨_,_,rfl⟩:=lenL2 hl;rfl
  have D_q0s:DefAt K mg "law" s_q0s ["_law_script"]:=def_mk X G a36 l36 c36 k36 fun _ _ _ _ _ _ us hl=>by obtain ⟨_,rfl⟩:=lenL1 hl;rfl
  refine ⟨PySem.W.fnOf "law" "law" (defArgs s_q0s) (defBody s_q0s) (defScope s_q0s) .none kV36 dc36 pm36 an36 cd36 ct36,fun s v=>.of_eq rfl,fun base _ _ hse=>?_⟩
  have C_q08:=ok_q08 (P:=l.prog) (w:=w) (base:=base) D_q08 T
  have C_q05:=ok_q05 (P:=l.prog) (w:=w) (base:=base) D_q05 T
  have C_q06:=ok_q06 (P:=l.prog) (w:=w) (base:=base) D_q06 T
  have C_q07:=ok_q07 (P:=l.prog) (w:=w) (base:=base) (B:=1048576) (by decide) D_q07 T C_q08
  have C_q09:=ok_q09 (P:=l.prog) (w:=w) (base:=base) D_q09 T
  have MK_Walk:=ok_q18 (P:=l.prog) (w:=w) (base:=base) D_q0t T XT C_q06
  have M_q17:=ok_q0u (P:=l.prog) (w:=w) (base:=base) D_q0u T XT C_q09
  have M_q11:=ok_q0v (P:=l.prog) (w:=w) (base:=base) D_q0v T XT C_q07
  have M_q12:=ok_q0w (P:=l.prog) (w:=w) (base:=base) D_q0w T XT M_q11
  have M_q13:=ok_q0x (P:=l.prog) (w:=w) (base:=base) D_q0x T XT M_q11
  have M_q14:=ok_q0y (P:=l.prog) (w:=w) (base:=base) D_q0y T XT M_q11
  have M_q15:=ok_q0z (P:=l.prog) (w:=w) (base:=base) (by decide) (by decide) hse htr D_q0z T XT M_q12
  have M_q16:=ok_q10 (P:=l.prog) (w:=w) (base:=base) D_q10 T XT M_q15 M_q13
  have C_q00:=ok_q00 (P:=l.prog) (w:=w) (base:=base) D_q00 T
  have C_q03:=ok_q03 (P:=l.prog) (w:=w) (base:=base) D_q03 T XT M_q15
  have C_q04:=ok_q04 (P:=l.prog) (w:=w) (base:=base) D_q04 T XT M_q13
  have C_q02:=ok_q02 (P:=l.prog) (w:=w) (base:=base) D_q02 T XT C_q00 M_q16 C_q03 C_q04
  have C_q01:=ok_q01 (P:=l.prog) (w:=w) (base:=base) D_q01 T XT C_q02 C_q03
  have C_q0d:=ok_q0d (P:=l.prog) (w:=w) (base:=base) D_q0d T XT C_q01 M_q17
  have C_q0e:=ok_q0e (P:=l.prog) (w:=w) (base:=base) D_q0e T
  have C_q0c:=ok_q0c (P:=l.prog) (w:=w) (base:=base) D_q0c T
  have C_q0g:=ok_q0g (P:=l.prog) (w:=w) (base:=base) D_q0g T XT M_q12 M_q17 M_q16 M_q15
  have C_q0f:=ok_q0f (P:=l.prog) (w:=w) (base:=base) D_q0f T XT C_q0c C_q0g
  have C_q0h:=ok_q0h (P:=l.prog) (w:=w) (base:=base) D_q0h T XT C_q0c M_q14
  have C_q0a:=ok_q0a (P:=l.prog) (w:=w) (base:=base) D_q0a T XT C_q05 MK_Walk C_q0d C_q0e C_q0f C_q0h
  have C_q0b:=ok_q0b (P:=l.prog) (w:=w) (base:=base) D_q0b T C_q0a C_q0c
  have C_q0j:=ok_q0j (P:=l.prog) (w:=w) (base:=base) D_q0j T
  have C_q0k:=ok_q0k (P:=l.prog) (w:=w) (base:=base) D_q0k T
  have C_q0i:=ok_q0i (P:=l.prog) (w:=w) (base:=base) hse htr D_q0i T C_q05 C_q0b C_q0j C_q0k
  have C_q0l:=ok_q0l (P:=l.prog) (w:=w) (base:=base) D_q0l T
  have C_q0m:=ok_q0m (P:=l.prog) (w:=w) (base:=base) D_q0m T
  have C_q0o:=ok_q0o (P:=l.prog) (w:=w) (base:=base) D_q0o T
  have C_q0n:=ok_q0n (P:=l.prog) (w:=w) (base:=base) D_q0n T C_q0l
  have C_q0p:=ok_q0p (P:=l.prog) (w:=w) (base:=base) D_q0p T
  have C_q0q:=ok_q0q (P:=l.prog) (w:=w) (base:=base) D_q0q T C_q0m
  have C_q0r:=ok_q0r (P:=l.prog) (w:=w) (base:=base) D_q0r T (PySem.W.mg_none_of X G zdict)
  have C_q0s:=ok_q0s (P:=l.prog) (w:=w) (base:=base) D_q0s T C_q0m C_q0q C_q0p C_q0o C_q0i C_q0n C_q0l C_q0r
  obtain ⟨f',fd',F',hm',_,_,oc',od',sl',lk'⟩:=C_q0s.ex
  rw [hfa] at hm'
  cases hm'
  rw [l36] at lk'
  cases lk'
  exact F'
theorem walk {l:PySem.W.OpenLaw} {q:Program} {loose:List Str} {XP:(Str→Option Value)→Heap→Prop} {YP:World→Heap→Prop} {d:DefRec} {K:Params→PySem.W.Frag} (hn:l.most=some 63) (hdf:d.params.defaults=[]) (hin:PyProof.Rows.importsNone q=true)
    (hY:∀(w:World) (h:Heap),YP w h→(K w.params).In h)
    (F:∀(w:World) (mg:Str→Option Value) (fa:Addr) (h:Heap),(K w.params).In h→h.Ns mainGlobals mg→mg d.name=some (.ref fa) →
      ∃fd:FuncData,(∀(s:Shared) (u:Value),BindsTo s fd ⟨[u],[]⟩ [("_law_script",u)])∧∀base:Heap,(K w.params).In base→base.Ns mainGlobals mg→base.NoSeer→FnOk l.prog w (K w.params) mg base CX0 49 fa fd ["_law_script"] (spLaw (K w.params))) :
    PySem.W.WalkO q loose XP YP l.row.toRowW d [] (fun f vs=>PySem.call f vs) :=
  L2.walk_ofS (n:=63) (k:=49) (x := "_law_script") (CX:=fun _=>CX0) (sp:=fun w=>spLaw (K w.params)) hn (by decide) hdf ⟨rfl,by decide,by decide⟩ hin hY F (fun _ _ a ns hl _ hS=>⟨a,ns,rfl,hS,hl,fun _=>rfl⟩) fun _ _ _ _ _ z=>z
end X1
open PySem PySem.W PyProof.Rows
set_option maxRecDepth 100000 in
set_option maxHeartbeats 0 in
theorem PySem.Challenge.cw_crosstable_k06_whole_rests_counted_holds : PySem.Challenge.rw_crosstable_k06_whole_rests_counted.Holds := by
  w_on
  refine holds_law X1.saidL fun said=>?_
  refine holds_open (r:=PySem.Challenge.rw_crosstable_k06_whole_rests_counted.row) (q:=X1.qv) (loose:=[]) (Xt:=X1.XtL) (XP:=XL X1.qv []) (Yf:=Hook.obs X1.HK) (Ya:=Hook.val X1.HK) (YP:=Hook.says X1.HK) (d:=X1.lawRec) (kwd:=[]) (N:=X1.NL) X1.leftL (Hook.of X1.HK) (Hook.keeps X1.HK) (fun s e=>xl_of s (Bool.and_eq_true_iff.mp e).1) XL.keeps (by kernel_rfl) (by kernel_rfl) (by kernel_rfl) (fun s e=>recFacts_of (Bool.and_eq_true_iff.mp e).2) (by kernel_rfl) said (by decide +kernel) X1.bareL ?hw ?hc
  case hw=>w_witness2
  refine X1.walk (l:=PySem.Challenge.rw_crosstable_k06_whole_rests_counted) rfl (by kernel_rfl) (by decide +kernel) (fun w h Y=>PySem.W.kIn_of Y) ?F
  case F =>
    intro w mg fa h KX G hmg
    refine X1.all_mk (C:=179)
      (f36:=306) (od36:=none) (an36:=none) (sl36:=#[]) (oc36:=(.type "function")) (kV36:=.none) (dc36:=.none) (pm36:=(.str (Str.ofString "law_crosstable_k06_whole_rests_counted") 522)) (cd36:=(.ref 305)) (ct36:=.none) rfl KX G hmg (by kernel_rfl) ⟨110,by kernel_rfl,(.type "function"),none,none,#[],.none,.none,(.str (Str.ofString "crosstable.tables") 293),(.ref 109),.none,by kernel_rfl,by kernel_rfl,by kernel_rfl⟩ ⟨93,by kernel_rfl,(.type "function"),none,none,#[],.none,.none,(.str (Str.ofString "crosstable.tables") 293),(.ref 92),.none,by kernel_rfl,by kernel_rfl,by kernel_rfl⟩ ⟨98,by kernel_rfl,(.type "function"),none,none,#[],.none,.none,(.str (Str.ofString "crosstable.tables") 293),(.ref 97),.none,by kernel_rfl,by kernel_rfl,by kernel_rfl⟩ ⟨103,by kernel_rfl,(.type "function"),none,none,#[],.none,.none,(.str (Str.ofString "crosstable.tables") 293),(.ref 102),.none,by kernel_rfl,by kernel_rfl,by kernel_rfl⟩ ⟨115,by kernel_rfl,(.type "function"),none,none,#[],.none,.none,(.str (Str.ofString "crosstable.walk") 326),(.ref 114),.none,by kernel_rfl,by kernel_rfl,by kernel_rfl⟩ ⟨129,by kernel_rfl,by kernel_rfl,(.type "function"),none,none,#[],.none,.none,(.str (Str.ofString "crosstable.walk") 326),(.ref 128),.none,by kernel_rfl,by kernel_rfl,by kernel_rfl⟩ ⟨134,by kernel_rfl,by kernel_rfl,(.type "function"),none,none,#[],.none,.none,(.str (Str.ofString "crosstable.walk") 326),(.ref 133),.none,by kernel_rfl,by kernel_rfl,by kernel_rfl⟩ ⟨141,by kernel_rfl,by kernel_rfl,(.type "function"),none,none,#[],.none,.none,(.str (Str.ofString "crosstable.walk") 326),(.ref 140),.none,by kernel_rfl,by kernel_rfl,by kernel_rfl⟩ ⟨148,by kernel_rfl,by kernel_rfl,(.type "function"),none,none,#[],.none,.none,(.str (Str.ofString "crosstable.walk") 326),(.ref 147),.none,by kernel_rfl,by kernel_rfl,by kernel_rfl⟩ ⟨155,by kernel_rfl,by kernel_rfl,(.type "function"),none,none,#[],.none,.none,(.str (Str.ofString "crosstable.walk") 326),(.ref 154),.none,by kernel_rfl,by kernel_rfl,by kernel_rfl⟩ ⟨162,by kernel_rfl,by kernel_rfl,(.type "function"),none,none,#[],.none,.none,(.str (Str.ofString "crosstable.walk") 326),(.ref 161),.none,by kernel_rfl,by kernel_rfl,by kernel_rfl⟩ ⟨169,by kernel_rfl,by kernel_rfl,(.type "function"),none,none,#[],.none,.none,(.str (Str.ofString "crosstable.walk") 326),(.ref 168),.none,by kernel_rfl,by kernel_rfl,by kernel_rfl⟩ ⟨176,by kernel_rfl,by kernel_rfl,(.type "function"),none,none,#[],.none,.none,(.str (Str.ofString "crosstable.walk") 326),(.ref 175),.none,by kernel_rfl,by kernel_rfl,by kernel_rfl⟩ ⟨21,by kernel_rfl,(.type "function"),none,none,#[],.none,.none,(.str (Str.ofString "crosstable.stairs") 187),(.ref 20),.none,by kernel_rfl,by kernel_rfl,by kernel_rfl⟩ ⟨42,by kernel_rfl,(.type "function"),none,none,#[],.none,.none,(.str (Str.ofString "crosstable.stairs") 187),(.ref 41),.none,by kernel_rfl,by kernel_rfl,by kernel_rfl⟩ ⟨49,by kernel_rfl,(.type "function"),none,none,#[],.none,.none,(.str (Str.ofString "crosstable.stairs") 187),(.ref 48),.none,by kernel_rfl,by kernel_rfl,by kernel_rfl⟩ ⟨35,by kernel_rfl,(.type "function"),none,none,#[],.none,.none,(.str (Str.ofString "crosstable.stairs") 187),(.ref 34),.none,by kernel_rfl,by kernel_rfl,by kernel_rfl⟩ ⟨28,by kernel_rfl,(.type "function"),none,none,#[],.none,.none,(.str (Str.ofString "crosstable.stairs") 187),(.ref 27),.none,by kernel_rfl,by kernel_rfl,by kernel_rfl⟩ ⟨209,by kernel_rfl,(.type "function"),none,none,#[],.none,.none,(.str (Str.ofString "crosstable.diagonal") 428),(.ref 208),.none,by kernel_rfl,by kernel_rfl,by kernel_rfl⟩ ⟨216,by kernel_rfl,(.type "function"),none,none,#[],.none,.none,(.str (Str.ofString "crosstable.diagonal") 428),(.ref 215),.none,by kernel_rfl,by kernel_rfl,by kernel_rfl⟩ ⟨202,by kernel_rfl,(.type "function"),none,none,#[],.none,.none,(.str (Str.ofString "crosstable.diagonal") 428),(.ref 201),.none,by kernel_rfl,by kernel_rfl,by kernel_rfl⟩ ⟨230,by kernel_rfl,(.type "function"),none,none,#[],.none,.none,(.str (Str.ofString "crosstable.diagonal") 428),(.ref 229),.none,by kernel_rfl,by kernel_rfl,by kernel_rfl⟩ ⟨223,by kernel_rfl,(.type "function"),none,none,#[],.none,.none,(.str (Str.ofString "crosstable.diagonal") 428),(.ref 222),.none,by kernel_rfl,by kernel_rfl,by kernel_rfl⟩ ⟨237,by kernel_rfl,(.type "function"),none,none,#[],.none,.none,(.str (Str.ofString "crosstable.diagonal") 428),(.ref 236),.none,by kernel_rfl,by kernel_rfl,by kernel_rfl⟩ ⟨190,by kernel_rfl,(.type "function"),none,none,#[],.none,.none,(.str (Str.ofString "crosstable.diagonal") 428),(.ref 189),.none,by kernel_rfl,by kernel_rfl,by kernel_rfl⟩ ⟨195,by kernel_rfl,(.type "function"),none,none,#[],.none,.none,(.str (Str.ofString "crosstable.diagonal") 428),(.ref 194),.none,by kernel_rfl,by kernel_rfl,by kernel_rfl⟩ ⟨249,by kernel_rfl,(.type "function"),none,none,#[],.none,.none,(.str (Str.ofString "crosstable.sums") 496),(.ref 248),.none,by kernel_rfl,by kernel_rfl,by kernel_rfl⟩ ⟨256,by kernel_rfl,(.type "function"),none,none,#[],.none,.none,(.str (Str.ofString "crosstable.sums") 496),(.ref 255),.none,by kernel_rfl,by kernel_rfl,by kernel_rfl⟩ ⟨242,by kernel_rfl,(.type "function"),none,none,#[],.none,.none,(.str (Str.ofString "crosstable.sums") 496),(.ref 241),.none,by kernel_rfl,by kernel_rfl,by kernel_rfl⟩ ⟨263,by kernel_rfl,(.type "function"),none,none,#[],.none,.none,(.str (Str.ofString "law_crosstable_k06_whole_rests_counted") 522),(.ref 262),.none,by kernel_rfl,by kernel_rfl,by kernel_rfl⟩ ⟨270,by kernel_rfl,(.type "function"),none,none,#[],.none,.none,(.str (Str.ofString "law_crosstable_k06_whole_rests_counted") 522),(.ref 269),.none,by kernel_rfl,by kernel_rfl,by kernel_rfl⟩ ⟨282,by kernel_rfl,(.type "function"),none,none,#[],.none,.none,(.str (Str.ofString "law_crosstable_k06_whole_rests_counted") 522),(.ref 281),.none,by kernel_rfl,by kernel_rfl,by kernel_rfl⟩ ⟨277,by kernel_rfl,(.type "function"),none,none,#[],.none,.none,(.str (Str.ofString "law_crosstable_k06_whole_rests_counted") 522),(.ref 276),.none,by kernel_rfl,by kernel_rfl,by kernel_rfl⟩ ⟨287,by kernel_rfl,(.type "function"),none,none,#[],.none,.none,(.str (Str.ofString "law_crosstable_k06_whole_rests_counted") 522),(.ref 286),.none,by kernel_rfl,by kernel_rfl,by kernel_rfl⟩ ⟨294,by kernel_rfl,(.type "function"),none,none,#[],.none,.none,(.str (Str.ofString "law_crosstable_k06_whole_rests_counted") 522),(.ref 293),.none,by kernel_rfl,by kernel_rfl,by kernel_rfl⟩ ⟨299,by kernel_rfl,(.type "function"),none,none,#[],.none,.none,(.str (Str.ofString "law_crosstable_k06_whole_rests_counted") 522),(.ref 298),.none,by kernel_rfl,by kernel_rfl,by kernel_rfl⟩ (by kernel_rfl) (by kernel_rfl) (by kernel_rfl) (by kernel_rfl) (by kernel_rfl) (by kernel_rfl) (by kernel_rfl) (by kernel_rfl) (by kernel_rfl) (by kernel_rfl) (by kernel_rfl) (by kernel_rfl) (by kernel_rfl) (by kernel_rfl) (by kernel_rfl) (by kernel_rfl) (by kernel_rfl) (by kernel_rfl) (by kernel_rfl) (by kernel_rfl) (by kernel_rfl) (by kernel_rfl) (by kernel_rfl) (by kernel_rfl) (by kernel_rfl) (by kernel_rfl)

