import PyProof.Rows.All
import Wide.All
import OpenK.Peek
import OpenK.KGet
import OpenK.KFacts
import OpenK.KDescr
import OpenK.KCall
import OpenK.KMake
import OpenK.KCls
import OpenK.KWalk
import OpenK.KMore
import OpenK.KLine
import OpenK.KRaise
import OpenK.KOwn
import KE.KTryMore
import KE.KFromBytes
import KE.KListMore
import KE.KEqSeq
import KE.KItem
import KE.KxBytes
import KE.KEqDeep
import KE.KIsAll
import KE.IntBitsLaws
import Wide.FinOn
import Lean
import PyProof.EqAt
import PyProof.EqKinds
import PyProof.TupleCall
import PyProof.CallType
import PyProof.AutoListH
import PyProof.EnumStmt
import PyProof.FactsAll.list
import PySem.Challenge.RW_crosstable_k09_refused
import PyProof.NsDelKeeps
import PyProof.PassesOwn
set_option Elab.async false
set_option linter.all false
set_option maxRecDepth 100000
namespace L2
open PySem PySem.Spec PyProof.Rows
def inClass (s:Stmt) (j:Nat):Stmt:=match s with
  | .ClassDef _ _ _ body _ _ _ _ _ _ _=>body.getD j (.Pass ⟨0,0,0,0⟩)
  | _=>.Pass ⟨0,0,0,0⟩
def defArgs (s:Stmt):Arguments:=match s with
  | .FunctionDef _ a _ _ _ _ _ _ _ _=>a
  | _=>{ posonlyargs:=[],args:=[],vararg:=none,kwonlyargs:=[],kw_defaults:=[],kwarg:=none,defaults:=[] }
def defBody (s:Stmt):List Stmt:=match s with
  | .FunctionDef _ _ b _ _ _ _ _ _ _=>b
  | _=>[]
def defScope (s:Stmt):Scope:=match s with
  | .FunctionDef _ _ _ _ _ _ sc _ _ _=>sc
  | _=>{ kind:=.function,names:=[],isGenerator:=false,isCoroutine:=false }
end L2
namespace X1
open PySem L2
def top (i:Nat):Stmt:=PySem.Challenge.pw_crosstable_k09_refused.main.body.getD i (.Pass ⟨0,0,0,0⟩)
abbrev s_q00:Stmt:=top 9
abbrev s_q01:Stmt:=top 10
abbrev s_q02:Stmt:=top 11
abbrev s_q03:Stmt:=top 12
abbrev s_q04:Stmt:=top 13
abbrev s_q05:Stmt:=top 14
abbrev s_q06:Stmt:=top 15
abbrev s_q07:Stmt:=top 16
abbrev s_q08:Stmt:=top 17
abbrev s_q09:Stmt:=top 18
abbrev s_q0a:Stmt:=top 20
abbrev s_q0b:Stmt:=top 21
abbrev s_q0c:Stmt:=top 22
abbrev s_q0d:Stmt:=top 23
abbrev s_q0e:Stmt:=top 24
abbrev s_q0f:Stmt:=top 26
abbrev s_q0g:Stmt:=top 29
abbrev s_q0h:Stmt:=top 30
abbrev s_q0i:Stmt:=top 31
abbrev s_q0j:Stmt:=top 32
abbrev s_q0k:Stmt:=top 33
abbrev s_q0l:Stmt:=top 34
abbrev s_q0m:Stmt:=top 35
abbrev s_q0n:Stmt:=top 36
abbrev s_q0o:Stmt:=top 38
abbrev s_q0p:Stmt:=top 39
abbrev s_q0q:Stmt:=top 41
abbrev s_q0r:Stmt:=top 42
abbrev s_q0s:Stmt:=top 43
abbrev s_q0t:Stmt:=top 44
abbrev s_q0u:Stmt:=top 45
abbrev s_q0v:Stmt:=top 46
abbrev s_q0w:Stmt:=top 47
abbrev s_q0x:Stmt:=top 48
abbrev s_q0y:Stmt:=top 50
abbrev s_q0z:Stmt:=top 51
abbrev s_q10:Stmt:=top 52
abbrev s_q11:Stmt:=top 53
abbrev s_q12:Stmt:=top 54
abbrev s_q13:Stmt:=top 55
abbrev s_q14:Stmt:=top 56
abbrev s_q15:Stmt:=top 57
abbrev s_q16:Stmt:=top 58
abbrev s_q17:Stmt:=top 59
abbrev s_q18:Stmt:=inClass (top 27) 0
abbrev s_q19:Stmt:=inClass (top 27) 1
abbrev s_q1a:Stmt:=inClass (top 27) 2
abbrev s_q1b:Stmt:=inClass (top 27) 3
abbrev s_q1c:Stmt:=inClass (top 27) 4
abbrev s_q1d:Stmt:=inClass (top 27) 5
abbrev s_q1e:Stmt:=inClass (top 27) 6
abbrev s_q1f:Stmt:=inClass (top 27) 7
end X1
namespace X1
open PySem L2 PyProof.Rows
abbrev kE (P:Params) (k:String) (t:Nat) (v:Value):DictEntry:=⟨PyData.keyHash P (Str.ofString k),.str (Str.ofString k) t,v⟩
def oF (n q:String) (st:Stmt) (p:String) (t:Nat) (c:Addr):Obj:=⟨.type "function",none,.func (PySem.W.fnOf (Str.ofString n) (Str.ofString q) (defArgs st) (defBody st) (defScope st) .none .none .none (.str (Str.ofString p) t) none (.ref c) .none),#[]⟩
abbrev oS (x:String):Str:=Str.ofString x
def KF:Params→PySem.W.Frag:=fun P=>[(nat_lit 3,(⟨(.type "dict"),none,.dict #[kE P "__name__" 165 (.str (oS "law_crosstable_k09_refused") 690),kE P "__doc__" 166 .none,kE P "__package__" 167 .none,kE P "__loader__" 168 (.builtin "__main__.__loader__#opaque"),kE P "__spec__" 169 .none,kE P "__annotations__" 170 (.ref 6),kE P "__builtins__" 171 (.ref 4),kE P "__file__" 173 (.str (oS "/claim/cut.py") 172),kE P "__cached__" 174 .none,kE P "TableError" 206 (.ref 24),kE P "BadTable" 222 (.ref 37),kE P "BadChange" 238 (.ref 49),kE P "NoRoad" 254 (.ref 61),kE P "BadRow" 270 (.ref 73),kE P "BadNumber" 286 (.ref 85),kE P "NoLine" 302 (.ref 97),kE P "refuse_no_table" 313 (.ref 106),kE P "copied" 319 (.ref 111),kE P "refuse_bad_change" 330 (.ref 118),kE P "change_by_row" 336 (.ref 123),kE P "change_by_column" 346 (.ref 130),kE P "swap_parts" 356 (.ref 137),kE P "changed" 364 (.ref 144),kE P "changed_all" 374 (.ref 151),kE P "change_back" 381 (.ref 158),kE P "taken_back" 387 (.ref 163),kE P "first_place" 398 (.ref 170),kE P "build_stairs" 408 (.ref 177),kE P "take_in" 419 (.ref 184),kE P "lessen_row" 430 (.ref 191),kE P "lift" 441 (.ref 198),kE P "column_of" 449 (.ref 203),kE P "Walk" 543 (.ref 267),kE P "brought" 553 (.ref 278),kE P "diagonal" 559 (.ref 283),kE P "diagonal_length" 566 (.ref 290),kE P "build_both_stairs" 573 (.ref 297),kE P "has_number_beside" 584 (.ref 304),kE P "chain" 594 (.ref 311),kE P "link" 603 (.ref 318),kE P "turn_up" 611 (.ref 325),kE P "are_kin" 621 (.ref 332),kE P "road" 631 (.ref 339),kE P "how_often" 639 (.ref 344),kE P "tallied" 645 (.ref 349),kE P "tally_of_one" 651 (.ref 354),kE P "less_the_stairs" 657 (.ref 359),kE P "classes" 665 (.ref 366),kE P "how_many" 671 (.ref 371),kE P "multiplied" 680 (.ref 378),kE P "greatest_into_both" 689 (.ref 385),kE P "_law_at" 699 (.ref 392),kE P "_law_copy" 705 (.ref 397),kE P "_law_table_by" 720 (.ref 404),kE P "_law_done" 731 (.ref 411),kE P "_law_said" 743 (.ref 418),kE P "_law_spoilt" 749 (.ref 423),kE P "_law_some_change" 762 (.ref 430),kE P "_law_refuses" 775 (.ref 437),kE P "_law_as_due" 787 (.ref 444),kE P "law" 793 (.ref 449)] 61,#[]⟩:Obj)),
  (nat_lit 23,(⟨(.type "dict"),none,.dict #[kE P "__module__" 196 (.str (oS "crosstable.errors") 187),kE P "__firstlineno__" 200 (.int (2) 199),kE P "__static_attributes__" 201 (.ref 22),kE P "__weakref__" 203 (.ref 25),kE P "__doc__" 204 .none] 3,#[]⟩:Obj)),
  (nat_lit 24,({ cls:=Value.type "type",data:=Data.cls { name:=oS "TableError",bases:=[Value.type "ValueError"],mro:=[Value.ref 24,Value.type "ValueError",Value.type "Exception",Value.type "BaseException",Value.type "object"],ns:=23,qualname:=oS "TableError",subclasses:=[Value.ref 37,Value.ref 49,Value.ref 61,Value.ref 73,Value.ref 85,Value.ref 97] },slots:=#[Option.some (Value.ref 15),Option.none,Option.some (Value.str (oS "TableError") 189),Option.some (Value.str (oS "TableError") 197),Option.some (Value.builtin "ValueError.__new__"),Option.some (Value.bool Bool.true)] }:Obj)),
  (nat_lit 36,(⟨(.type "dict"),none,.dict #[kE P "__module__" 214 (.str (oS "crosstable.errors") 187),kE P "__firstlineno__" 218 (.int (4) 217),kE P "__static_attributes__" 219 (.ref 35),kE P "__doc__" 220 .none] 2,#[]⟩:Obj)),
  (nat_lit 37,({ cls:=Value.type "type",data:=Data.cls { name:=oS "BadTable",bases:=[Value.ref 24],mro:=[Value.ref 37,Value.ref 24,Value.type "ValueError",Value.type "Exception",Value.type "BaseException",Value.type "object"],ns:=36,qualname:=oS "BadTable" },slots:=#[Option.some (Value.ref 28),Option.none,Option.some (Value.str (oS "BadTable") 207),Option.some (Value.str (oS "BadTable") 215),Option.some (Value.builtin "ValueError.__new__"),Option.some (Value.bool Bool.true)] }:Obj)),
  (nat_lit 48,(⟨(.type "dict"),none,.dict #[kE P "__module__" 230 (.str (oS "crosstable.errors") 187),kE P "__firstlineno__" 234 (.int (6) 233),kE P "__static_attributes__" 235 (.ref 47),kE P "__doc__" 236 .none] 2,#[]⟩:Obj)),
  (nat_lit 49,({ cls:=Value.type "type",data:=Data.cls { name:=oS "BadChange",bases:=[Value.ref 24],mro:=[Value.ref 49,Value.ref 24,Value.type "ValueError",Value.type "Exception",Value.type "BaseException",Value.type "object"],ns:=48,qualname:=oS "BadChange" },slots:=#[Option.some (Value.ref 40),Option.none,Option.some (Value.str (oS "BadChange") 223),Option.some (Value.str (oS "BadChange") 231),Option.some (Value.builtin "ValueError.__new__"),Option.some (Value.bool Bool.true)] }:Obj)),
  (nat_lit 60,(⟨(.type "dict"),none,.dict #[kE P "__module__" 246 (.str (oS "crosstable.errors") 187),kE P "__firstlineno__" 250 (.int (8) 249),kE P "__static_attributes__" 251 (.ref 59),kE P "__doc__" 252 .none] 2,#[]⟩:Obj)),
  (nat_lit 61,({ cls:=Value.type "type",data:=Data.cls { name:=oS "NoRoad",bases:=[Value.ref 24],mro:=[Value.ref 61,Value.ref 24,Value.type "ValueError",Value.type "Exception",Value.type "BaseException",Value.type "object"],ns:=60,qualname:=oS "NoRoad" },slots:=#[Option.some (Value.ref 52),Option.none,Option.some (Value.str (oS "NoRoad") 239),Option.some (Value.str (oS "NoRoad") 247),Option.some (Value.builtin "ValueError.__new__"),Option.some (Value.bool Bool.true)] }:Obj)),
  (nat_lit 72,(⟨(.type "dict"),none,.dict #[kE P "__module__" 262 (.str (oS "crosstable.errors") 187),kE P "__firstlineno__" 266 (.int (10) 265),kE P "__static_attributes__" 267 (.ref 71),kE P "__doc__" 268 .none] 2,#[]⟩:Obj)),
  (nat_lit 73,({ cls:=Value.type "type",data:=Data.cls { name:=oS "BadRow",bases:=[Value.ref 24],mro:=[Value.ref 73,Value.ref 24,Value.type "ValueError",Value.type "Exception",Value.type "BaseException",Value.type "object"],ns:=72,qualname:=oS "BadRow" },slots:=#[Option.some (Value.ref 64),Option.none,Option.some (Value.str (oS "BadRow") 255),Option.some (Value.str (oS "BadRow") 263),Option.some (Value.builtin "ValueError.__new__"),Option.some (Value.bool Bool.true)] }:Obj)),
  (nat_lit 84,(⟨(.type "dict"),none,.dict #[kE P "__module__" 278 (.str (oS "crosstable.errors") 187),kE P "__firstlineno__" 282 (.int (12) 281),kE P "__static_attributes__" 283 (.ref 83),kE P "__doc__" 284 .none] 2,#[]⟩:Obj)),
  (nat_lit 85,({ cls:=Value.type "type",data:=Data.cls { name:=oS "BadNumber",bases:=[Value.ref 24],mro:=[Value.ref 85,Value.ref 24,Value.type "ValueError",Value.type "Exception",Value.type "BaseException",Value.type "object"],ns:=84,qualname:=oS "BadNumber" },slots:=#[Option.some (Value.ref 76),Option.none,Option.some (Value.str (oS "BadNumber") 271),Option.some (Value.str (oS "BadNumber") 279),Option.some (Value.builtin "ValueError.__new__"),Option.some (Value.bool Bool.true)] }:Obj)),
  (nat_lit 96,(⟨(.type "dict"),none,.dict #[kE P "__module__" 294 (.str (oS "crosstable.errors") 187),kE P "__firstlineno__" 298 (.int (14) 297),kE P "__static_attributes__" 299 (.ref 95),kE P "__doc__" 300 .none] 2,#[]⟩:Obj)),
  (nat_lit 97,({ cls:=Value.type "type",data:=Data.cls { name:=oS "NoLine",bases:=[Value.ref 24],mro:=[Value.ref 97,Value.ref 24,Value.type "ValueError",Value.type "Exception",Value.type "BaseException",Value.type "object"],ns:=96,qualname:=oS "NoLine" },slots:=#[Option.some (Value.ref 88),Option.none,Option.some (Value.str (oS "NoLine") 287),Option.some (Value.str (oS "NoLine") 295),Option.some (Value.builtin "ValueError.__new__"),Option.some (Value.bool Bool.true)] }:Obj)),
  (nat_lit 105,(⟨(.type "code"),none,.fields #[(.str (oS "refuse_no_table") 305),(.str (oS "refuse_no_table") 306),(.str (oS "/claim/cut.py") 307),(.int (17) 0),(.int (1) 0),(.int (0) 0),(.int (0) 0),(.int (3) 0),(.ref 100),(.bool true),(.int (181) 0),(.ref 101),.none,(.ref 102),(.ref 103),(.ref 104),(.int (311) 0),(.int (17) 0),(.str (oS "/claim/cut.py") 312)],#[]⟩:Obj)),
  (nat_lit 106,(oF "refuse_no_table" "refuse_no_table" s_q00 "crosstable.tables" 303 105:Obj)),
  (nat_lit 110,(⟨(.type "code"),none,.fields #[(.str (oS "copied") 314),(.str (oS "copied") 315),(.str (oS "/claim/cut.py") 316),(.int (26) 0),(.int (1) 0),(.int (0) 0),(.int (0) 0),(.int (3) 0),(.ref 107),(.bool true),(.int (181) 0),(.ref 108),.none,.none,.none,(.ref 109),(.int (317) 0),(.int (26) 0),(.str (oS "/claim/cut.py") 318)],#[]⟩:Obj)),
  (nat_lit 111,(oF "copied" "copied" s_q01 "crosstable.tables" 303 110:Obj)),
  (nat_lit 117,(⟨(.type "code"),none,.fields #[(.str (oS "refuse_bad_change") 320),(.str (oS "refuse_bad_change") 321),(.str (oS "/claim/cut.py") 322),(.int (28) 0),(.int (2) 0),(.int (0) 0),(.int (0) 0),(.int (3) 0),(.ref 112),(.bool true),(.int (181) 0),(.ref 113),.none,(.ref 114),(.ref 115),(.ref 116),(.int (328) 0),(.int (28) 0),(.str (oS "/claim/cut.py") 329)],#[]⟩:Obj)),
  (nat_lit 118,(oF "refuse_bad_change" "refuse_bad_change" s_q02 "crosstable.tables" 303 117:Obj)),
  (nat_lit 122,(⟨(.type "code"),none,.fields #[(.str (oS "change_by_row") 331),(.str (oS "change_by_row") 332),(.str (oS "/claim/cut.py") 333),(.int (36) 0),(.int (2) 0),(.int (0) 0),(.int (0) 0),(.int (3) 0),(.ref 119),(.bool true),(.int (181) 0),(.ref 120),.none,.none,.none,(.ref 121),(.int (334) 0),(.int (36) 0),(.str (oS "/claim/cut.py") 335)],#[]⟩:Obj)),
  (nat_lit 123,(oF "change_by_row" "change_by_row" s_q03 "crosstable.tables" 303 122:Obj)),
  (nat_lit 129,(⟨(.type "code"),none,.fields #[(.str (oS "change_by_column") 337),(.str (oS "change_by_column") 338),(.str (oS "/claim/cut.py") 339),(.int (45) 0),(.int (2) 0),(.int (0) 0),(.int (0) 0),(.int (3) 0),(.ref 124),(.bool true),(.int (181) 0),(.ref 125),.none,(.ref 126),(.ref 127),(.ref 128),(.int (344) 0),(.int (45) 0),(.str (oS "/claim/cut.py") 345)],#[]⟩:Obj)),
  (nat_lit 130,(oF "change_by_column" "change_by_column" s_q04 "crosstable.tables" 303 129:Obj)),
  (nat_lit 136,(⟨(.type "code"),none,.fields #[(.str (oS "swap_parts") 347),(.str (oS "swap_parts") 348),(.str (oS "/claim/cut.py") 349),(.int (54) 0),(.int (3) 0),(.int (0) 0),(.int (0) 0),(.int (3) 0),(.ref 131),(.bool true),(.int (181) 0),(.ref 132),.none,(.ref 133),(.ref 134),(.ref 135),(.int (354) 0),(.int (54) 0),(.str (oS "/claim/cut.py") 355)],#[]⟩:Obj)),
  (nat_lit 137,(oF "swap_parts" "swap_parts" s_q05 "crosstable.tables" 303 136:Obj)),
  (nat_lit 143,(⟨(.type "code"),none,.fields #[(.str (oS "changed") 357),(.str (oS "changed") 358),(.str (oS "/claim/cut.py") 359),(.int (58) 0),(.int (2) 0),(.int (0) 0),(.int (0) 0),(.int (3) 0),(.ref 138),(.bool true),(.int (181) 0),(.ref 139),.none,(.ref 140),(.ref 141),(.ref 142),(.int (362) 0),(.int (58) 0),(.str (oS "/claim/cut.py") 363)],#[]⟩:Obj)),
  (nat_lit 144,(oF "changed" "changed" s_q06 "crosstable.tables" 303 143:Obj)),
  (nat_lit 150,(⟨(.type "code"),none,.fields #[(.str (oS "changed_all") 365),(.str (oS "changed_all") 366),(.str (oS "/claim/cut.py") 367),(.int (60) 0),(.int (2) 0),(.int (0) 0),(.int (0) 0),(.int (3) 0),(.ref 145),(.bool true),(.int (181) 0),(.ref 146),.none,(.ref 147),(.ref 148),(.ref 149),(.int (372) 0),(.int (60) 0),(.str (oS "/claim/cut.py") 373)],#[]⟩:Obj)),
  (nat_lit 151,(oF "changed_all" "changed_all" s_q07 "crosstable.tables" 303 150:Obj)),
  (nat_lit 157,(⟨(.type "code"),none,.fields #[(.str (oS "change_back") 375),(.str (oS "change_back") 376),(.str (oS "/claim/cut.py") 377),(.int (70) 0),(.int (1) 0),(.int (0) 0),(.int (0) 0),(.int (3) 0),(.ref 152),(.bool true),(.int (181) 0),(.ref 153),.none,(.ref 154),(.ref 155),(.ref 156),(.int (379) 0),(.int (70) 0),(.str (oS "/claim/cut.py") 380)],#[]⟩:Obj)),
  (nat_lit 158,(oF "change_back" "change_back" s_q08 "crosstable.tables" 303 157:Obj)),
  (nat_lit 162,(⟨(.type "code"),none,.fields #[(.str (oS "taken_back") 382),(.str (oS "taken_back") 383),(.str (oS "/claim/cut.py") 384),(.int (74) 0),(.int (1) 0),(.int (0) 0),(.int (0) 0),(.int (3) 0),(.ref 159),(.bool true),(.int (181) 0),(.ref 160),.none,.none,.none,(.ref 161),(.int (385) 0),(.int (74) 0),(.str (oS "/claim/cut.py") 386)],#[]⟩:Obj)),
  (nat_lit 163,(oF "taken_back" "taken_back" s_q09 "crosstable.tables" 303 162:Obj)),
  (nat_lit 169,(⟨(.type "code"),none,.fields #[(.str (oS "first_place") 390),(.str (oS "first_place") 391),(.str (oS "/claim/cut.py") 392),(.int (77) 0),(.int (1) 0),(.int (0) 0),(.int (0) 0),(.int (3) 0),(.ref 164),(.bool true),(.int (181) 0),(.ref 165),.none,(.ref 166),(.ref 167),(.ref 168),(.int (396) 0),(.int (77) 0),(.str (oS "/claim/cut.py") 397)],#[]⟩:Obj)),
  (nat_lit 170,(oF "first_place" "first_place" s_q0a "crosstable.stairs" 388 169:Obj)),
  (nat_lit 176,(⟨(.type "code"),none,.fields #[(.str (oS "build_stairs") 399),(.str (oS "build_stairs") 400),(.str (oS "/claim/cut.py") 401),(.int (82) 0),(.int (1) 0),(.int (0) 0),(.int (0) 0),(.int (3) 0),(.ref 171),(.bool true),(.int (181) 0),(.ref 172),.none,(.ref 173),(.ref 174),(.ref 175),(.int (406) 0),(.int (82) 0),(.str (oS "/claim/cut.py") 407)],#[]⟩:Obj)),
  (nat_lit 177,(oF "build_stairs" "build_stairs" s_q0b "crosstable.stairs" 388 176:Obj)),
  (nat_lit 183,(⟨(.type "code"),none,.fields #[(.str (oS "take_in") 409),(.str (oS "take_in") 410),(.str (oS "/claim/cut.py") 411),(.int (89) 0),(.int (3) 0),(.int (0) 0),(.int (0) 0),(.int (3) 0),(.ref 178),(.bool true),(.int (181) 0),(.ref 179),.none,(.ref 180),(.ref 181),(.ref 182),(.int (417) 0),(.int (89) 0),(.str (oS "/claim/cut.py") 418)],#[]⟩:Obj)),
  (nat_lit 184,(oF "take_in" "take_in" s_q0c "crosstable.stairs" 388 183:Obj)),
  (nat_lit 190,(⟨(.type "code"),none,.fields #[(.str (oS "lessen_row") 420),(.str (oS "lessen_row") 421),(.str (oS "/claim/cut.py") 422),(.int (101) 0),(.int (4) 0),(.int (0) 0),(.int (0) 0),(.int (3) 0),(.ref 185),(.bool true),(.int (181) 0),(.ref 186),.none,(.ref 187),(.ref 188),(.ref 189),(.int (428) 0),(.int (101) 0),(.str (oS "/claim/cut.py") 429)],#[]⟩:Obj)),
  (nat_lit 191,(oF "lessen_row" "lessen_row" s_q0d "crosstable.stairs" 388 190:Obj)),
  (nat_lit 197,(⟨(.type "code"),none,.fields #[(.str (oS "lift") 431),(.str (oS "lift") 432),(.str (oS "/claim/cut.py") 433),(.int (104) 0),(.int (4) 0),(.int (0) 0),(.int (0) 0),(.int (3) 0),(.ref 192),(.bool true),(.int (181) 0),(.ref 193),.none,(.ref 194),(.ref 195),(.ref 196),(.int (439) 0),(.int (104) 0),(.str (oS "/claim/cut.py") 440)],#[]⟩:Obj)),
  (nat_lit 198,(oF "lift" "lift" s_q0e "crosstable.stairs" 388 197:Obj)),
  (nat_lit 202,(⟨(.type "code"),none,.fields #[(.str (oS "column_of") 444),(.str (oS "column_of") 445),(.str (oS "/claim/cut.py") 446),(.int (109) 0),(.int (2) 0),(.int (0) 0),(.int (0) 0),(.int (3) 0),(.ref 199),(.bool true),(.int (181) 0),(.ref 200),.none,.none,.none,(.ref 201),(.int (447) 0),(.int (109) 0),(.str (oS "/claim/cut.py") 448)],#[]⟩:Obj)),
  (nat_lit 203,(oF "column_of" "column_of" s_q0f "crosstable.walk" 442 202:Obj)),
  (nat_lit 216,(⟨(.type "code"),none,.fields #[(.str (oS "__init__") 462),(.str (oS "Walk.__init__") 463),(.str (oS "/claim/cut.py") 464),(.int (113) 0),(.int (2) 0),(.int (0) 0),(.int (0) 0),(.int (3) 0),(.ref 211),(.bool true),(.int (181) 0),(.ref 212),.none,(.ref 213),(.ref 214),(.ref 215),(.int (467) 0),(.int (113) 0),(.str (oS "/claim/cut.py") 468)],#[]⟩:Obj)),
  (nat_lit 217,(oF "__init__" "Walk.__init__" s_q18 "crosstable.walk" 442 216:Obj)),
  (nat_lit 221,(⟨(.type "code"),none,.fields #[(.str (oS "tip_over") 470),(.str (oS "Walk.tip_over") 471),(.str (oS "/claim/cut.py") 472),(.int (118) 0),(.int (1) 0),(.int (0) 0),(.int (0) 0),(.int (3) 0),(.ref 218),(.bool true),(.int (181) 0),(.ref 219),.none,.none,.none,(.ref 220),(.int (473) 0),(.int (118) 0),(.str (oS "/claim/cut.py") 474)],#[]⟩:Obj)),
  (nat_lit 222,(oF "tip_over" "Walk.tip_over" s_q19 "crosstable.walk" 442 221:Obj)),
  (nat_lit 228,(⟨(.type "code"),none,.fields #[(.str (oS "make") 476),(.str (oS "Walk.make") 477),(.str (oS "/claim/cut.py") 478),(.int (122) 0),(.int (2) 0),(.int (0) 0),(.int (0) 0),(.int (3) 0),(.ref 223),(.bool true),(.int (181) 0),(.ref 224),.none,(.ref 225),(.ref 226),(.ref 227),(.int (481) 0),(.int (122) 0),(.str (oS "/claim/cut.py") 482)],#[]⟩:Obj)),
  (nat_lit 229,(oF "make" "Walk.make" s_q1a "crosstable.walk" 442 228:Obj)),
  (nat_lit 235,(⟨(.type "code"),none,.fields #[(.str (oS "add_times") 484),(.str (oS "Walk.add_times") 485),(.str (oS "/claim/cut.py") 486),(.int (126) 0),(.int (4) 0),(.int (0) 0),(.int (0) 0),(.int (3) 0),(.ref 230),(.bool true),(.int (181) 0),(.ref 231),.none,(.ref 232),(.ref 233),(.ref 234),(.int (491) 0),(.int (126) 0),(.str (oS "/claim/cut.py") 492)],#[]⟩:Obj)),
  (nat_lit 236,(oF "add_times" "Walk.add_times" s_q1b "crosstable.walk" 442 235:Obj)),
  (nat_lit 242,(⟨(.type "code"),none,.fields #[(.str (oS "swap_rows") 494),(.str (oS "Walk.swap_rows") 495),(.str (oS "/claim/cut.py") 496),(.int (130) 0),(.int (3) 0),(.int (0) 0),(.int (0) 0),(.int (3) 0),(.ref 237),(.bool true),(.int (181) 0),(.ref 238),.none,(.ref 239),(.ref 240),(.ref 241),(.int (500) 0),(.int (130) 0),(.str (oS "/claim/cut.py") 501)],#[]⟩:Obj)),
  (nat_lit 243,(oF "swap_rows" "Walk.swap_rows" s_q1c "crosstable.walk" 442 242:Obj)),
  (nat_lit 249,(⟨(.type "code"),none,.fields #[(.str (oS "turn_row") 503),(.str (oS "Walk.turn_row") 504),(.str (oS "/claim/cut.py") 505),(.int (134) 0),(.int (2) 0),(.int (0) 0),(.int (0) 0),(.int (3) 0),(.ref 244),(.bool true),(.int (181) 0),(.ref 245),.none,(.ref 246),(.ref 247),(.ref 248),(.int (508) 0),(.int (134) 0),(.str (oS "/claim/cut.py") 509)],#[]⟩:Obj)),
  (nat_lit 250,(oF "turn_row" "Walk.turn_row" s_q1d "crosstable.walk" 442 249:Obj)),
  (nat_lit 256,(⟨(.type "code"),none,.fields #[(.str (oS "lessen") 511),(.str (oS "Walk.lessen") 512),(.str (oS "/claim/cut.py") 513),(.int (137) 0),(.int (4) 0),(.int (0) 0),(.int (0) 0),(.int (3) 0),(.ref 251),(.bool true),(.int (181) 0),(.ref 252),.none,(.ref 253),(.ref 254),(.ref 255),(.int (520) 0),(.int (137) 0),(.str (oS "/claim/cut.py") 521)],#[]⟩:Obj)),
  (nat_lit 257,(oF "lessen" "Walk.lessen" s_q1e "crosstable.walk" 442 256:Obj)),
  (nat_lit 263,(⟨(.type "code"),none,.fields #[(.str (oS "meet") 523),(.str (oS "Walk.meet") 524),(.str (oS "/claim/cut.py") 525),(.int (142) 0),(.int (4) 0),(.int (0) 0),(.int (0) 0),(.int (3) 0),(.ref 258),(.bool true),(.int (181) 0),(.ref 259),.none,(.ref 260),(.ref 261),(.ref 262),(.int (530) 0),(.int (142) 0),(.str (oS "/claim/cut.py") 531)],#[]⟩:Obj)),
  (nat_lit 264,(oF "meet" "Walk.meet" s_q1f "crosstable.walk" 442 263:Obj)),
  (nat_lit 266,(⟨(.type "dict"),none,.dict #[kE P "__module__" 457 (.str (oS "crosstable.walk") 442),kE P "__firstlineno__" 461 (.int (111) 460),kE P "__init__" 469 (.ref 217),kE P "tip_over" 475 (.ref 222),kE P "make" 483 (.ref 229),kE P "add_times" 493 (.ref 236),kE P "swap_rows" 502 (.ref 243),kE P "turn_row" 510 (.ref 250),kE P "lessen" 522 (.ref 257),kE P "meet" 532 (.ref 264),kE P "__static_attributes__" 536 (.ref 265),kE P "__dict__" 538 (.ref 268),kE P "__weakref__" 540 (.ref 269),kE P "__doc__" 541 .none] 4,#[]⟩:Obj)),
  (nat_lit 267,({ cls:=Value.type "type",data:=Data.cls { name:=oS "Walk",bases:=[Value.type "object"],mro:=[Value.ref 267,Value.type "object"],ns:=266,qualname:=oS "Walk" },slots:=#[Option.none,Option.none,Option.some (Value.str (oS "Walk") 450),Option.some (Value.str (oS "Walk") 458),Option.some (Value.builtin "object.__new__"),Option.some (Value.bool Bool.true)] }:Obj)),
  (nat_lit 277,(⟨(.type "code"),none,.fields #[(.str (oS "brought") 546),(.str (oS "brought") 547),(.str (oS "/claim/cut.py") 548),(.int (150) 0),(.int (1) 0),(.int (0) 0),(.int (0) 0),(.int (3) 0),(.ref 272),(.bool true),(.int (181) 0),(.ref 273),.none,(.ref 274),(.ref 275),(.ref 276),(.int (551) 0),(.int (150) 0),(.str (oS "/claim/cut.py") 552)],#[]⟩:Obj)),
  (nat_lit 278,(oF "brought" "brought" s_q0g "crosstable.diagonal" 544 277:Obj)),
  (nat_lit 282,(⟨(.type "code"),none,.fields #[(.str (oS "diagonal") 554),(.str (oS "diagonal") 555),(.str (oS "/claim/cut.py") 556),(.int (159) 0),(.int (1) 0),(.int (0) 0),(.int (0) 0),(.int (3) 0),(.ref 279),(.bool true),(.int (181) 0),(.ref 280),.none,.none,.none,(.ref 281),(.int (557) 0),(.int (159) 0),(.str (oS "/claim/cut.py") 558)],#[]⟩:Obj)),
  (nat_lit 283,(oF "diagonal" "diagonal" s_q0h "crosstable.diagonal" 544 282:Obj)),
  (nat_lit 289,(⟨(.type "code"),none,.fields #[(.str (oS "diagonal_length") 560),(.str (oS "diagonal_length") 561),(.str (oS "/claim/cut.py") 562),(.int (162) 0),(.int (1) 0),(.int (0) 0),(.int (0) 0),(.int (3) 0),(.ref 284),(.bool true),(.int (181) 0),(.ref 285),.none,(.ref 286),(.ref 287),(.ref 288),(.int (564) 0),(.int (162) 0),(.str (oS "/claim/cut.py") 565)],#[]⟩:Obj)),
  (nat_lit 290,(oF "diagonal_length" "diagonal_length" s_q0i "crosstable.diagonal" 544 289:Obj)),
  (nat_lit 296,(⟨(.type "code"),none,.fields #[(.str (oS "build_both_stairs") 567),(.str (oS "build_both_stairs") 568),(.str (oS "/claim/cut.py") 569),(.int (164) 0),(.int (1) 0),(.int (0) 0),(.int (0) 0),(.int (3) 0),(.ref 291),(.bool true),(.int (181) 0),(.ref 292),.none,(.ref 293),(.ref 294),(.ref 295),(.int (571) 0),(.int (164) 0),(.str (oS "/claim/cut.py") 572)],#[]⟩:Obj)),
  (nat_lit 297,(oF "build_both_stairs" "build_both_stairs" s_q0j "crosstable.diagonal" 544 296:Obj)),
  (nat_lit 303,(⟨(.type "code"),none,.fields #[(.str (oS "has_number_beside") 574),(.str (oS "has_number_beside") 575),(.str (oS "/claim/cut.py") 576),(.int (169) 0),(.int (1) 0),(.int (0) 0),(.int (0) 0),(.int (3) 0),(.ref 298),(.bool true),(.int (181) 0),(.ref 299),.none,(.ref 300),(.ref 301),(.ref 302),(.int (582) 0),(.int (169) 0),(.str (oS "/claim/cut.py") 583)],#[]⟩:Obj)),
  (nat_lit 304,(oF "has_number_beside" "has_number_beside" s_q0k "crosstable.diagonal" 544 303:Obj)),
  (nat_lit 310,(⟨(.type "code"),none,.fields #[(.str (oS "chain") 585),(.str (oS "chain") 586),(.str (oS "/claim/cut.py") 587),(.int (175) 0),(.int (1) 0),(.int (0) 0),(.int (0) 0),(.int (3) 0),(.ref 305),(.bool true),(.int (181) 0),(.ref 306),.none,(.ref 307),(.ref 308),(.ref 309),(.int (592) 0),(.int (175) 0),(.str (oS "/claim/cut.py") 593)],#[]⟩:Obj)),
  (nat_lit 311,(oF "chain" "chain" s_q0l "crosstable.diagonal" 544 310:Obj)),
  (nat_lit 317,(⟨(.type "code"),none,.fields #[(.str (oS "link") 595),(.str (oS "link") 596),(.str (oS "/claim/cut.py") 597),(.int (181) 0),(.int (3) 0),(.int (0) 0),(.int (0) 0),(.int (3) 0),(.ref 312),(.bool true),(.int (181) 0),(.ref 313),.none,(.ref 314),(.ref 315),(.ref 316),(.int (601) 0),(.int (181) 0),(.str (oS "/claim/cut.py") 602)],#[]⟩:Obj)),
  (nat_lit 318,(oF "link" "link" s_q0m "crosstable.diagonal" 544 317:Obj)),
  (nat_lit 324,(⟨(.type "code"),none,.fields #[(.str (oS "turn_up") 604),(.str (oS "turn_up") 605),(.str (oS "/claim/cut.py") 606),(.int (187) 0),(.int (1) 0),(.int (0) 0),(.int (0) 0),(.int (3) 0),(.ref 319),(.bool true),(.int (181) 0),(.ref 320),.none,(.ref 321),(.ref 322),(.ref 323),(.int (609) 0),(.int (187) 0),(.str (oS "/claim/cut.py") 610)],#[]⟩:Obj)),
  (nat_lit 325,(oF "turn_up" "turn_up" s_q0n "crosstable.diagonal" 544 324:Obj)),
  (nat_lit 331,(⟨(.type "code"),none,.fields #[(.str (oS "are_kin") 614),(.str (oS "are_kin") 615),(.str (oS "/claim/cut.py") 616),(.int (192) 0),(.int (2) 0),(.int (0) 0),(.int (0) 0),(.int (3) 0),(.ref 326),(.bool true),(.int (181) 0),(.ref 327),.none,(.ref 328),(.ref 329),(.ref 330),(.int (619) 0),(.int (192) 0),(.str (oS "/claim/cut.py") 620)],#[]⟩:Obj)),
  (nat_lit 332,(oF "are_kin" "are_kin" s_q0o "crosstable.kin" 612 331:Obj)),
  (nat_lit 338,(⟨(.type "code"),none,.fields #[(.str (oS "road") 622),(.str (oS "road") 623),(.str (oS "/claim/cut.py") 624),(.int (194) 0),(.int (2) 0),(.int (0) 0),(.int (0) 0),(.int (3) 0),(.ref 333),(.bool true),(.int (181) 0),(.ref 334),.none,(.ref 335),(.ref 336),(.ref 337),(.int (629) 0),(.int (194) 0),(.str (oS "/claim/cut.py") 630)],#[]⟩:Obj)),
  (nat_lit 339,(oF "road" "road" s_q0p "crosstable.kin" 612 338:Obj)),
  (nat_lit 343,(⟨(.type "code"),none,.fields #[(.str (oS "how_often") 634),(.str (oS "how_often") 635),(.str (oS "/claim/cut.py") 636),(.int (201) 0),(.int (2) 0),(.int (0) 0),(.int (0) 0),(.int (3) 0),(.ref 340),(.bool true),(.int (181) 0),(.ref 341),.none,.none,.none,(.ref 342),(.int (637) 0),(.int (201) 0),(.str (oS "/claim/cut.py") 638)],#[]⟩:Obj)),
  (nat_lit 344,(oF "how_often" "how_often" s_q0q "crosstable.sums" 632 343:Obj)),
  (nat_lit 348,(⟨(.type "code"),none,.fields #[(.str (oS "tallied") 640),(.str (oS "tallied") 641),(.str (oS "/claim/cut.py") 642),(.int (210) 0),(.int (1) 0),(.int (0) 0),(.int (0) 0),(.int (3) 0),(.ref 345),(.bool true),(.int (181) 0),(.ref 346),.none,.none,.none,(.ref 347),(.int (643) 0),(.int (210) 0),(.str (oS "/claim/cut.py") 644)],#[]⟩:Obj)),
  (nat_lit 349,(oF "tallied" "tallied" s_q0r "crosstable.sums" 632 348:Obj)),
  (nat_lit 353,(⟨(.type "code"),none,.fields #[(.str (oS "tally_of_one") 646),(.str (oS "tally_of_one") 647),(.str (oS "/claim/cut.py") 648),(.int (212) 0),(.int (2) 0),(.int (0) 0),(.int (0) 0),(.int (3) 0),(.ref 350),(.bool true),(.int (181) 0),(.ref 351),.none,.none,.none,(.ref 352),(.int (649) 0),(.int (212) 0),(.str (oS "/claim/cut.py") 650)],#[]⟩:Obj)),
  (nat_lit 354,(oF "tally_of_one" "tally_of_one" s_q0s "crosstable.sums" 632 353:Obj)),
  (nat_lit 358,(⟨(.type "code"),none,.fields #[(.str (oS "less_the_stairs") 652),(.str (oS "less_the_stairs") 653),(.str (oS "/claim/cut.py") 654),(.int (214) 0),(.int (2) 0),(.int (0) 0),(.int (0) 0),(.int (3) 0),(.ref 355),(.bool true),(.int (181) 0),(.ref 356),.none,.none,.none,(.ref 357),(.int (655) 0),(.int (214) 0),(.str (oS "/claim/cut.py") 656)],#[]⟩:Obj)),
  (nat_lit 359,(oF "less_the_stairs" "less_the_stairs" s_q0t "crosstable.sums" 632 358:Obj)),
  (nat_lit 365,(⟨(.type "code"),none,.fields #[(.str (oS "classes") 658),(.str (oS "classes") 659),(.str (oS "/claim/cut.py") 660),(.int (222) 0),(.int (1) 0),(.int (0) 0),(.int (0) 0),(.int (3) 0),(.ref 360),(.bool true),(.int (181) 0),(.ref 361),.none,(.ref 362),(.ref 363),(.ref 364),(.int (663) 0),(.int (222) 0),(.str (oS "/claim/cut.py") 664)],#[]⟩:Obj)),
  (nat_lit 366,(oF "classes" "classes" s_q0u "crosstable.sums" 632 365:Obj)),
  (nat_lit 370,(⟨(.type "code"),none,.fields #[(.str (oS "how_many") 666),(.str (oS "how_many") 667),(.str (oS "/claim/cut.py") 668),(.int (227) 0),(.int (2) 0),(.int (0) 0),(.int (0) 0),(.int (3) 0),(.ref 367),(.bool true),(.int (181) 0),(.ref 368),.none,.none,.none,(.ref 369),(.int (669) 0),(.int (227) 0),(.str (oS "/claim/cut.py") 670)],#[]⟩:Obj)),
  (nat_lit 371,(oF "how_many" "how_many" s_q0v "crosstable.sums" 632 370:Obj)),
  (nat_lit 377,(⟨(.type "code"),none,.fields #[(.str (oS "multiplied") 672),(.str (oS "multiplied") 673),(.str (oS "/claim/cut.py") 674),(.int (232) 0),(.int (1) 0),(.int (0) 0),(.int (0) 0),(.int (3) 0),(.ref 372),(.bool true),(.int (181) 0),(.ref 373),.none,(.ref 374),(.ref 375),(.ref 376),(.int (678) 0),(.int (232) 0),(.str (oS "/claim/cut.py") 679)],#[]⟩:Obj)),
  (nat_lit 378,(oF "multiplied" "multiplied" s_q0w "crosstable.sums" 632 377:Obj)),
  (nat_lit 384,(⟨(.type "code"),none,.fields #[(.str (oS "greatest_into_both") 681),(.str (oS "greatest_into_both") 682),(.str (oS "/claim/cut.py") 683),(.int (237) 0),(.int (2) 0),(.int (0) 0),(.int (0) 0),(.int (3) 0),(.ref 379),(.bool true),(.int (181) 0),(.ref 380),.none,(.ref 381),(.ref 382),(.ref 383),(.int (687) 0),(.int (237) 0),(.str (oS "/claim/cut.py") 688)],#[]⟩:Obj)),
  (nat_lit 385,(oF "greatest_into_both" "greatest_into_both" s_q0x "crosstable.sums" 632 384:Obj)),
  (nat_lit 391,(⟨(.type "code"),none,.fields #[(.str (oS "_law_at") 692),(.str (oS "_law_at") 693),(.str (oS "/claim/cut.py") 694),(.int (244) 0),(.int (2) 0),(.int (0) 0),(.int (0) 0),(.int (3) 0),(.ref 386),(.bool true),(.int (181) 0),(.ref 387),.none,(.ref 388),(.ref 389),(.ref 390),(.int (697) 0),(.int (244) 0),(.str (oS "/claim/cut.py") 698)],#[]⟩:Obj)),
  (nat_lit 392,(oF "_law_at" "_law_at" s_q0y "law_crosstable_k09_refused" 690 391:Obj)),
  (nat_lit 396,(⟨(.type "code"),none,.fields #[(.str (oS "_law_copy") 700),(.str (oS "_law_copy") 701),(.str (oS "/claim/cut.py") 702),(.int (248) 0),(.int (1) 0),(.int (0) 0),(.int (0) 0),(.int (3) 0),(.ref 393),(.bool true),(.int (181) 0),(.ref 394),.none,.none,.none,(.ref 395),(.int (703) 0),(.int (248) 0),(.str (oS "/claim/cut.py") 704)],#[]⟩:Obj)),
  (nat_lit 397,(oF "_law_copy" "_law_copy" s_q0z "law_crosstable_k09_refused" 690 396:Obj)),
  (nat_lit 403,(⟨(.type "code"),none,.fields #[(.str (oS "_law_table_by") 706),(.str (oS "_law_table_by") 707),(.str (oS "/claim/cut.py") 708),(.int (250) 0),(.int (4) 0),(.int (0) 0),(.int (0) 0),(.int (3) 0),(.ref 398),(.bool true),(.int (181) 0),(.ref 399),.none,(.ref 400),(.ref 401),(.ref 402),(.int (718) 0),(.int (250) 0),(.str (oS "/claim/cut.py") 719)],#[]⟩:Obj)),
  (nat_lit 404,(oF "_law_table_by" "_law_table_by" s_q10 "law_crosstable_k09_refused" 690 403:Obj)),
  (nat_lit 410,(⟨(.type "code"),none,.fields #[(.str (oS "_law_done") 721),(.str (oS "_law_done") 722),(.str (oS "/claim/cut.py") 723),(.int (259) 0),(.int (5) 0),(.int (0) 0),(.int (0) 0),(.int (3) 0),(.ref 405),(.bool true),(.int (181) 0),(.ref 406),.none,(.ref 407),(.ref 408),(.ref 409),(.int (729) 0),(.int (259) 0),(.str (oS "/claim/cut.py") 730)],#[]⟩:Obj)),
  (nat_lit 411,(oF "_law_done" "_law_done" s_q11 "law_crosstable_k09_refused" 690 410:Obj)),
  (nat_lit 417,(⟨(.type "code"),none,.fields #[(.str (oS "_law_said") 732),(.str (oS "_law_said") 733),(.str (oS "/claim/cut.py") 734),(.int (280) 0),(.int (5) 0),(.int (0) 0),(.int (0) 0),(.int (3) 0),(.ref 412),(.bool true),(.int (181) 0),(.ref 413),.none,(.ref 414),(.ref 415),(.ref 416),(.int (741) 0),(.int (280) 0),(.str (oS "/claim/cut.py") 742)],#[]⟩:Obj)),
  (nat_lit 418,(oF "_law_said" "_law_said" s_q12 "law_crosstable_k09_refused" 690 417:Obj)),
  (nat_lit 422,(⟨(.type "code"),none,.fields #[(.str (oS "_law_spoilt") 744),(.str (oS "_law_spoilt") 745),(.str (oS "/claim/cut.py") 746),(.int (293) 0),(.int (2) 0),(.int (0) 0),(.int (0) 0),(.int (3) 0),(.ref 419),(.bool true),(.int (181) 0),(.ref 420),.none,.none,.none,(.ref 421),(.int (747) 0),(.int (293) 0),(.str (oS "/claim/cut.py") 748)],#[]⟩:Obj)),
  (nat_lit 423,(oF "_law_spoilt" "_law_spoilt" s_q13 "law_crosstable_k09_refused" 690 422:Obj)),
  (nat_lit 429,(⟨(.type "code"),none,.fields #[(.str (oS "_law_some_change") 750),(.str (oS "_law_some_change") 751),(.str (oS "/claim/cut.py") 752),(.int (304) 0),(.int (3) 0),(.int (0) 0),(.int (0) 0),(.int (3) 0),(.ref 424),(.bool true),(.int (181) 0),(.ref 425),.none,(.ref 426),(.ref 427),(.ref 428),(.int (760) 0),(.int (304) 0),(.str (oS "/claim/cut.py") 761)],#[]⟩:Obj)),
  (nat_lit 430,(oF "_law_some_change" "_law_some_change" s_q14 "law_crosstable_k09_refused" 690 429:Obj)),
  (nat_lit 436,(⟨(.type "code"),none,.fields #[(.str (oS "_law_refuses") 763),(.str (oS "_law_refuses") 764),(.str (oS "/claim/cut.py") 765),(.int (322) 0),(.int (5) 0),(.int (0) 0),(.int (0) 0),(.int (3) 0),(.ref 431),(.bool true),(.int (181) 0),(.ref 432),.none,(.ref 433),(.ref 434),(.ref 435),(.int (773) 0),(.int (322) 0),(.str (oS "/claim/cut.py") 774)],#[]⟩:Obj)),
  (nat_lit 437,(oF "_law_refuses" "_law_refuses" s_q15 "law_crosstable_k09_refused" 690 436:Obj)),
  (nat_lit 443,(⟨(.type "code"),none,.fields #[(.str (oS "_law_as_due") 776),(.str (oS "_law_as_due") 777),(.str (oS "/claim/cut.py") 778),(.int (330) 0),(.int (6) 0),(.int (0) 0),(.int (0) 0),(.int (3) 0),(.ref 438),(.bool true),(.int (181) 0),(.ref 439),.none,(.ref 440),(.ref 441),(.ref 442),(.int (785) 0),(.int (330) 0),(.str (oS "/claim/cut.py") 786)],#[]⟩:Obj)),
  (nat_lit 444,(oF "_law_as_due" "_law_as_due" s_q16 "law_crosstable_k09_refused" 690 443:Obj)),
  (nat_lit 448,(⟨(.type "code"),none,.fields #[(.str (oS "law") 788),(.str (oS "law") 789),(.str (oS "/claim/cut.py") 790),(.int (334) 0),(.int (1) 0),(.int (0) 0),(.int (0) 0),(.int (3) 0),(.ref 445),(.bool true),(.int (181) 0),(.ref 446),.none,.none,.none,(.ref 447),(.int (791) 0),(.int (334) 0),(.str (oS "/claim/cut.py") 792)],#[]⟩:Obj)),
  (nat_lit 449,(oF "law" "law" s_q17 "law_crosstable_k09_refused" 690 448:Obj))]
def asF:List Addr:=[3,23,24,36,37,48,49,60,61,72,73,84,85,96,97,105,106,110,111,117,118,122,123,129,130,136,137,143,144,150,151,157,158,162,163,169,170,176,177,183,184,190,191,197,198,202,203,216,217,221,222,228,229,235,236,242,243,249,250,256,257,263,264,266,267,277,278,282,283,289,290,296,297,303,304,310,311,317,318,324,325,331,332,338,339,343,344,348,349,353,354,358,359,365,366,370,371,377,378,384,385,391,392,396,397,403,404,410,411,417,418,422,423,429,430,436,437,443,444,448,449]
theorem as_ok:∀P,asF=(KF P).map (·.1):=fun _=>by kernel_rfl
def HK:PySem.W.Hook:=PySem.W.kHook KF asF as_ok
def qv:Program:={ PySem.Challenge.pw_crosstable_k09_refused with main:={ PySem.Challenge.pw_crosstable_k09_refused.main with body:=[top 1,top 2,top 3,top 4,top 5,top 6,top 7,top 9,top 10,top 11,top 12,top 13,top 14,top 15,top 16,top 17,top 18,top 20,top 21,top 22,top 23,top 24,top 26,top 27,top 29,top 30,top 31,top 32,top 33,top 34,top 35,top 36,top 38,top 39,top 41,top 42,top 43,top 44,top 45,top 46,top 47,top 48,top 50,top 51,top 52,top 53,top 54,top 55,top 56,top 57,top 58,top 59] } }
def XtL:Shared→Bool:=fun s=>PySem.W.xlAt qv [] s&&PySem.W.recOk (PySem.W.RowW.records (PySem.W.OpenRow.toRowW PySem.Challenge.rw_crosstable_k09_refused.row)) s
def defPos (s:Stmt):Pos:=match s with | .FunctionDef _ _ _ _ _ _ _ _ _ p=>p | _=>⟨0,0,0,0⟩
def lawRec:DefRec:=⟨"law",defArgs s_q17,defBody s_q17,defScope s_q17,defPos s_q17⟩
def NL:Nat:=6754
theorem saidL:PySem.Challenge.rw_crosstable_k09_refused.wellSaid=true:=by kernel_rfl
theorem bareL:PySem.Challenge.rw_crosstable_k09_refused.row.prog.bare:=⟨rfl,rfl,rfl,rfl,rfl,by decide +kernel⟩
theorem seen_x {q:Program} {l M:List Str} {X:Shared→Bool} {g:Bool} {s:Shared} (h:X s=true):PySem.W.openSeen q l M X g s=PySem.W.openSeen q l M (fun _=>true) g s:=by
  simp only [PySem.W.openSeen,h]
theorem left_of {α:Type} {q:Program} {l M:List Str} {X:Shared→Bool} {g:Bool} {o:Option Shared} {Y:Shared→α} {y:α} {v1 v2 v3 v4 v5}
    (a:o.map (fun s=>((PySem.W.openSeen q l M (fun _=>true) g s).1,(PySem.W.openSeen q l M (fun _=>true) g s).2.1))=some (v1,v2)) (b:o.map (fun s=>(PySem.W.openSeen q l M (fun _=>true) g s).2.2.1)=some v3)
    (c:o.map (fun s=>(PySem.W.openSeen q l M (fun _=>true) g s).2.2.2.1)=some v4) (d:o.map (fun s=>(PySem.W.openSeen q l M (fun _=>true) g s).2.2.2.2)=some v5) (e:o.map (fun s=>(X s,Y s))=some (true,y)) :
    o.map (fun s=>(PySem.W.openSeen q l M X g s,Y s))=some ((v1,v2,v3,v4,v5),y):=by
  cases o with
  | none=>cases a
  | some s =>
    obtain ⟨ex,ey⟩:=Prod.mk.inj (Option.some.inj e)
    obtain ⟨a1,a2⟩:=Prod.mk.inj (Option.some.inj a)
    have b:=Option.some.inj b
    have c:=Option.some.inj c
    have d:=Option.some.inj d
    show some (PySem.W.openSeen q l M X g s,Y s)=_
    rw [seen_x ex,ey,←a1,←a2,←b,←c,←d]
open PySem.W in
set_option maxHeartbeats 0 in
theorem leftA (w:World):(PySem.W.openEnds treeTable PySem.Challenge.rw_crosstable_k09_refused.row.prog w NL).map (fun s=>((PySem.W.openSeen qv [] (importedModules PySem.Challenge.rw_crosstable_k09_refused.row.prog.main.body) (fun _=>true) true s).1,(PySem.W.openSeen qv [] (importedModules PySem.Challenge.rw_crosstable_k09_refused.row.prog.main.body) (fun _=>true) true s).2.1))=some (expectedOf qv,bltViewBooted):=by kernel_rfl
open PySem.W in
set_option maxHeartbeats 0 in
theorem leftB (w:World):(PySem.W.openEnds treeTable PySem.Challenge.rw_crosstable_k09_refused.row.prog w NL).map (fun s=>(PySem.W.openSeen qv [] (importedModules PySem.Challenge.rw_crosstable_k09_refused.row.prog.main.body) (fun _=>true) true s).2.2.1)=some true:=by kernel_rfl
open PySem.W in
set_option maxHeartbeats 0 in
theorem leftC (w:World):(PySem.W.openEnds treeTable PySem.Challenge.rw_crosstable_k09_refused.row.prog w NL).map (fun s=>(PySem.W.openSeen qv [] (importedModules PySem.Challenge.rw_crosstable_k09_refused.row.prog.main.body) (fun _=>true) true s).2.2.2.1)=some true:=by kernel_rfl
open PySem.W in
set_option maxHeartbeats 0 in
theorem leftD (w:World):(PySem.W.openEnds treeTable PySem.Challenge.rw_crosstable_k09_refused.row.prog w NL).map (fun s=>(PySem.W.openSeen qv [] (importedModules PySem.Challenge.rw_crosstable_k09_refused.row.prog.main.body) (fun _=>true) true s).2.2.2.2)=some (pinGoodD (drecsOf qv),plainGoodE qv (looseW qv []),plainGoodD qv [],wideGood qv,clsGoodW qv []):=by kernel_rfl
open PySem.W in
set_option maxHeartbeats 0 in
theorem leftE (w:World):(PySem.W.openEnds treeTable PySem.Challenge.rw_crosstable_k09_refused.row.prog w NL).map (fun s=>(XtL s,PySem.W.Hook.obs HK s))=some (true,PySem.W.Hook.val HK w):=by kernel_rfl
theorem leftL:PySem.W.LeftO PySem.Challenge.rw_crosstable_k09_refused.row.prog qv [] XtL (PySem.W.Hook.obs HK) (PySem.W.Hook.val HK) NL:=fun w=>left_of (leftA w) (leftB w) (leftC w) (leftD w) (leftE w)
end X1
set_option Elab.async false
set_option linter.all false
set_option maxRecDepth 100000
namespace L2
open PySem PySem.Spec PyProof.Rows
abbrev Key:=Sum Int Str
def keyIs:Key→Value→Bool
  | .inl k,v=>Value.isInt k v
  | .inr x,v=>Value.isStrOf x v
def keyH (w:World):Key→Int
  | .inl k=>hashInt k
  | .inr x=>hashStr w x
theorem keyIs_shape:∀{k:Key} {v:Value},keyIs k v=true→(∃i t,k=Sum.inl i∧v=Value.int i t)∨(∃x t,k=Sum.inr x∧v=Value.str x t)
  | .inl i,v,h=>by
    obtain ⟨t,e⟩:=Value.isInt_shape (k:=i) (v:=v) h
    exact .inl ⟨i,t,rfl,e⟩
  | .inr x,v,h=>by
    obtain ⟨t,e⟩:=Value.isStrOf_shape (x:=x) (v:=v) h
    exact .inr ⟨x,t,rfl,e⟩
theorem key_ll (a b:Int):decide ((Sum.inl a:Key)=Sum.inl b)=(a == b):=by
  by_cases e:a=b
  · subst e;simp
  · have h:¬ (Sum.inl a:Key)=Sum.inl b:=fun q=>e (Sum.inl.inj q)
    rw [decide_eq_false h]
    exact (beq_eq_false_iff_ne.mpr e).symm
theorem key_rr (a b:Str):decide ((Sum.inr a:Key)=Sum.inr b)=decide (a=b):=by
  by_cases e:a=b
  · subst e;simp
  · have h:¬ (Sum.inr a:Key)=Sum.inr b:=fun q=>e (Sum.inr.inj q)
    rw [decide_eq_false h,decide_eq_false e]
theorem key_lr (a:Int) (b:Str):decide ((Sum.inl a:Key)=Sum.inr b)=false:=decide_eq_false (fun q=>nomatch q)
theorem key_rl (a:Str) (b:Int):decide ((Sum.inr a:Key)=Sum.inl b)=false:=decide_eq_false (fun q=>nomatch q)
def mixKind (prog:Program) (w:World):PySem.KeyKind prog w Key where
  is:=keyIs
  hash:=keyH w
  inj:=fun v a b ha hb=>by
    rcases keyIs_shape ha with ⟨i,t,rfl,rfl⟩ | ⟨x,t,rfl,rfl⟩
    · rcases keyIs_shape hb with ⟨j,u,rfl,e⟩ | ⟨y,u,rfl,e⟩
      · injection e with e1 _;rw [e1]
      · exact nomatch e
    · rcases keyIs_shape hb with ⟨j,u,rfl,e⟩ | ⟨y,u,rfl,e⟩
      · exact nomatch e
      · injection e with e1 _;rw [e1]
  byValue:=fun k v h=>by
    rcases keyIs_shape h with ⟨i,t,rfl,rfl⟩ | ⟨x,t,rfl,rfl⟩ <;> rfl
  pyHash:=fun hv h=>by
    rcases keyIs_shape hv with ⟨i,t,rfl,rfl⟩ | ⟨x,t,rfl,rfl⟩
    · exact wpAny_pyHash_int h
    · exact wpAny_pyHash_str h
  eqBool:=fun hu hv h=>by
    rcases keyIs_shape hu with ⟨i,t,rfl,rfl⟩ | ⟨x,t,rfl,rfl⟩
    · rcases keyIs_shape hv with ⟨j,u,rfl,rfl⟩ | ⟨y,u,rfl,rfl⟩
      · rw [key_ll] at h;exact wpAny_eqBool_int h
      · rw [key_lr] at h;exact SeqAt.EqAt.int_str i t y u _ _ _ _ h
    · rcases keyIs_shape hv with ⟨j,u,rfl,rfl⟩ | ⟨y,u,rfl,rfl⟩
      · rw [key_rl] at h;exact SeqAt.EqAt.str_int x t j u _ _ _ _ h
      · rw [key_rr] at h;exact wpAny_eqBool_str h
  «strs»:=fun k x t v h=>by
    rcases keyIs_shape h with ⟨i,u,rfl,e⟩ | ⟨y,u,rfl,e⟩
    · exact nomatch e
    · injection e with e1 _
      subst e1
      cases v <;> rfl
end L2
namespace L2
open PySem PySem.Spec PyProof.Rows
inductive V where
  | non | bl (b:Bool) | int (i:Int) | str (x:Str) | byt (b:Array UInt8) | flt (b:UInt64) | ref (a:Addr) | ty (n:String)
  deriving DecidableEq
def RelV:V→Value→Prop
  | .non,u=>u=Value.none
  | .bl b,u=>u=Value.bool b
  | .int i,u=>∃t,u=Value.int i t
  | .str x,u=>∃t,u=Value.str x t
  | .byt b,u=>∃t,u=Value.bytes b t
  | .flt b,u=>∃t,u=Value.float b t
  | .ref a,u=>u=Value.ref a
  | .ty n,u=>u=Value.type n
abbrev Vals:List V→List Value→Prop:=Paired RelV
theorem Vals.length {xs:List V} {us:List Value} (r:Vals xs us):xs.length=us.length:=Paired.length r
theorem Vals.get:∀{xs:List V} {us:List Value} {i:Nat} {x:V},Vals xs us→xs[i]?=some x→∃u,us[i]?=some u∧RelV x u
  | _,_,_,_,.nil,e=>by simp at e
  | _,_,0,_,.cons r _,e=>by simp at e;subst e;exact ⟨_,rfl,r⟩
  | _,_,i+1,x,.cons _ t,e=>by
    obtain ⟨u,h1,h2⟩:=Vals.get (i:=i) (x:=x) t (by simpa using e)
    exact ⟨u,by simpa using h1,h2⟩
theorem Vals.set {x:V} {u:Value} (r:RelV x u):∀{xs:List V} {us:List Value} (i:Nat),Vals xs us→Vals (xs.set i x) (us.set i u)
  | _,_,_,.nil=>.nil
  | _,_,0,.cons _ t=>.cons r t
  | _,_,i+1,.cons q t=>.cons q (Vals.set r i t)
theorem Vals.append:∀{xs ys:List V} {us ws:List Value},Vals xs us→Vals ys ws→Vals (xs++ys) (us++ws)
  | _,_,_,_,.nil,s=>s
  | _,_,_,_,.cons r t,s=>.cons r (Vals.append t s)
theorem Vals.take:∀{xs:List V} {us:List Value} (n:Nat),Vals xs us→Vals (xs.take n) (us.take n)
  | _,_,0,_=>.nil
  | _,_,_+1,.nil=>.nil
  | _,_,n+1,.cons r t=>.cons r (Vals.take n t)
theorem Vals.drop:∀{xs:List V} {us:List Value} (n:Nat),Vals xs us→Vals (xs.drop n) (us.drop n)
  | _,_,0,r=>r
  | _,_,_+1,.nil=>.nil
  | _,_,n+1,.cons _ t=>Vals.drop n t
theorem Vals.none_of:∀{xs:List V} {us:List Value} {i:Nat},Vals xs us→xs[i]?=none→us[i]?=none:=fun {xs us i} r e=>by
  have h1:=r.length
  have h2:xs.length≤i:=List.getElem?_eq_none_iff.mp e
  exact List.getElem?_eq_none_iff.mpr (by omega)
def RelO:Option V→Option Value→Prop
  | some v,some u=>RelV v u
  | none,none=>True
  | _,_=>False
def KV {κ:Type}:List (κ×V)→List (κ×Value)→Prop:=Paired fun (p:κ×V) (q:κ×Value)=>p.1=q.1∧RelV p.2 q.2
def kV:Key→V
  | .inl i=>.int i
  | .inr x=>.str x
inductive HO where
  | lst (xs:List V)
  | tup (xs:List V)
  | dK (kvs:List (Key×V)) | dT (kvs:List (List Key×V))
  | set (S:Int→Bool) (n:Nat)
  | ins (C dx:Addr) (fs:List (Str×V))
  | own (x:Addr)
  | xd (fs:List (Str×V))
  | met (f x:Addr)
  | rng (lo hi:Int)
  | frz (o:Obj) (u:HO)
  | tbl (ps:Array Value)
  | ext (φ:Heap→Prop)
abbrev Hp:=Addr→Option HO
def upd (H:Hp) (a:Addr) (o:HO):Hp:=fun b=>if b=a then some o else H b
theorem upd_same {H:Hp} {a:Addr} {o:HO}:upd H a o a=some o:=by unfold upd;rw [if_pos rfl]
theorem upd_ne {H:Hp} {a b:Addr} {o:HO} (h:b≠a):upd H a o b=H b:=by unfold upd;rw [if_neg h]
theorem upd_upd {H:Hp} {a:Addr} {o u:HO}:upd (upd H a o) a u=upd H a u:=by
  funext b;unfold upd;split <;> rfl
theorem ne_of {H:Hp} {a b:Addr} {o u:HO} (h:H a=some o) (h':H b=some u) (d:o≠u):a≠b:=by
  intro e;subst e;rw [h] at h';exact d (Option.some.inj h')
theorem ne_of_none {H:Hp} {a b:Addr} {o:HO} (h:H a=some o) (h':H b=none):a≠b:=by
  intro e;subst e;rw [h] at h';cases h'
section
variable (P:Program) (w:World)
def ObjOk (H:Hp) (h:Heap) (a:Addr):HO→Prop
  | .lst xs=>xs.length≤sizeLine∧∃(its:List Value) (n:Nat),Vals xs its∧h.get? a=some { cls:=.type "list",data:=.seq its.toArray n }
  | .tup xs=>xs.length≤sizeLine∧∃its:List Value,Vals xs its∧IsTup h a its.toArray
  | .dK kvs=>kvs.length≤sizeLine∧(a == sysModules)=false∧∃vs,KV kvs vs∧h.DictOf (mixKind P w) a vs
  | .dT kvs=>kvs.length≤sizeLine∧(a == sysModules)=false∧∃xs:List (List Key×Addr×Value),
      Paired (fun (p:List Key×V) (q:List Key×Addr×Value)=>p.1=q.1∧H q.2.1=some (.tup (p.1.map kV))∧RelV p.2 q.2.2) kvs xs ∧
      ∃o es ep,h.get? a=some o∧o.ExactDict∧o.data=.dict es ep∧es.toList=xs.map (entryOfKey (tupleKind (mixKind P w)))∧(xs.map (·.1)).Nodup
  | .set S n=>h.SetOf (intKind P w) a S n
  | .ins C dx fs=>H dx=some (.own a)∧fs.length≤1000∧dx≠a∧h.get? a=some (PySem.W.instObj C dx) ∧
      ∃mA,h.Ns1 dx mA∧(∀f,RelO (fs.lookup f) (mA f))∧PySem.Within mA (fs.map (·.1))
  | .own _=>∃o,h.get? a=some o
  | .xd fs=>∃mA,h.Ns1 a mA∧∀f,RelO (fs.lookup f) (mA f)
  | .rng lo hi=>∃t u v,h.get? a=some { cls:=.type "range",data:=.fields #[.int lo t,.int hi u,.int 1 v] }
  | .frz o u=>h.get? a=some o∧ObjOk H h a u
  | .tbl ps=>h.get? a=some { cls:=.none,data:=.fields ps }
  | .met f x=>h.get? a=some (PySem.W.methodObj (.ref f) (.ref x))
  | .ext φ=>φ h∧(∃o,h.get? a=some o)∧∀h1 h2:Heap,φ h1→(∀o,h1.get? a=some o→h2.get? a=some o)→φ h2
def HOk (H:Hp) (h:Heap):Prop:=∀a o,H a=some o→ObjOk P w H h a o
end
section
variable {P:Program} {w:World} {H H':Hp} {h h':Heap} {a:Addr} {o:HO}
theorem ObjOk.lt (x:ObjOk P w H h a o):a<h.objs.size:=by
  cases o with
  | lst xs=>obtain ⟨_,_,_,_,e⟩:=x;exact Heap.lt_size e
  | tup xs=>obtain ⟨_,_,_,p⟩:=x;exact p.lt
  | dK kvs=>obtain ⟨_,_,_,_,o,_,_,e,_⟩:=x;exact Heap.lt_size e
  | dT kvs=>obtain ⟨_,_,_,_,o,_,_,e,_⟩:=x;exact Heap.lt_size e
  | set S n=>obtain ⟨o,_,_,_,e,_⟩:=x;exact Heap.lt_size e
  | ins C dx fs=>obtain ⟨_,_,_,e,_⟩:=x;exact Heap.lt_size e
  | own y=>obtain ⟨_,e⟩:=x;exact Heap.lt_size e
  | xd fs=>obtain ⟨_,⟨_,_,_,e,_⟩,_⟩:=x;exact Heap.lt_size e
  | rng lo hi=>obtain ⟨_,_,_,e⟩:=x;exact Heap.lt_size e
  | frz ob u=>obtain ⟨e,_⟩:=x;exact Heap.lt_size e
  | tbl ps=>exact Heap.lt_size (show h.get? a=some _ from x)
  | met f y=>exact Heap.lt_size (show h.get? a=some _ from x)
  | ext φ=>obtain ⟨_,⟨_,e⟩,_⟩:=x;exact Heap.lt_size e
theorem Paired.mapP {α β:Type} {F G:α→β→Prop}:∀{l₁:List α} {l₂:List β},Paired F l₁ l₂→(∀a b,F a b→G a b)→Paired G l₁ l₂
  | _,_,.nil,_=>.nil
  | _,_,.cons r t,f=>.cons (f _ _ r) (Paired.mapP t f)
theorem ObjOk.stay (x:ObjOk P w H h a o) (k:∀b u,(b=a∨H b=some (.own a))→h.get? b=some u→h'.get? b=some u)
    (ho:∀b,H b=some (.own a)→H' b=some (.own a)) (ht:∀b xs,H b=some (.tup xs)→H' b=some (.tup xs)):ObjOk P w H' h' a o:=by
  induction o with
  | lst xs=>obtain ⟨z,its,n,r,e⟩:=x;exact ⟨z,its,n,r,k _ _ (.inl rfl) e⟩
  | tup xs=>obtain ⟨z,its,r,ob,e,c⟩:=x;exact ⟨z,its,r,ob,k _ _ (.inl rfl) e,c⟩
  | dK kvs=>obtain ⟨z,y,vs,r,ob,es,ep,e,c⟩:=x;exact ⟨z,y,vs,r,ob,es,ep,k _ _ (.inl rfl) e,c⟩
  | dT kvs =>
    obtain ⟨z,y,xs,r,ob,es,ep,e,c⟩:=x
    exact ⟨z,y,xs,Paired.mapP r fun p q z=>⟨z.1,ht _ _ z.2.1,z.2.2⟩,ob,es,ep,k _ _ (.inl rfl) e,c⟩
  | set S n=>obtain ⟨ob,es,ep,t,e,c⟩:=x;exact ⟨ob,es,ep,t,k _ _ (.inl rfl) e,c⟩
  | ins C dx fs =>
    obtain ⟨d,z,ne,e,mA,⟨od,es,ep,e2,c⟩,r⟩:=x
    exact ⟨ho _ d,z,ne,k _ _ (.inl rfl) e,mA,⟨od,es,ep,k _ _ (.inr d) e2,c⟩,r⟩
  | own y=>obtain ⟨ob,e⟩:=x;exact ⟨ob,k _ _ (.inl rfl) e⟩
  | xd fs=>obtain ⟨mA,⟨od,es,ep,e,c⟩,r⟩:=x;exact ⟨mA,⟨od,es,ep,k _ _ (.inl rfl) e,c⟩,r⟩
  | rng lo hi=>obtain ⟨t,u,v,e⟩:=x;exact ⟨t,u,v,k _ _ (.inl rfl) e⟩
  | frz ob u ih=>obtain ⟨e,q⟩:=x;exact ⟨k _ _ (.inl rfl) e,ih q⟩
  | tbl ps =>
    have e:h.get? a=some { cls:=.none,data:=.fields ps }:=x
    show h'.get? a=some { cls:=.none,data:=.fields ps }
    exact k a _ (.inl rfl) e
  | met f y =>
    have e:h.get? a=some (PySem.W.methodObj (.ref f) (.ref y)):=x
    show h'.get? a=some (PySem.W.methodObj (.ref f) (.ref y))
    exact k a _ (.inl rfl) e
  | ext φ=>obtain ⟨p,⟨o,e⟩,st⟩:=x;exact ⟨st _ _ p fun o q=>k _ _ (.inl rfl) q,⟨o,k _ _ (.inl rfl) e⟩,st⟩
theorem HOk.lt (x:HOk P w H h) (e:H a=some o):a<h.objs.size:=(x a o e).lt
theorem HOk.fresh (x:HOk P w H h) (e:h.objs.size≤a):H a=none:=by
  cases q:H a with
  | none=>rfl
  | some u=>exact absurd (Nat.lt_of_lt_of_le (x.lt q) e) (Nat.lt_irrefl _)
theorem HOk.kept (x:HOk P w H h) (k:∀b u,h.get? b=some u→h'.get? b=some u):HOk P w H h':=fun a o e =>
  (x a o e).stay (fun b u _ q=>k b u q) (fun _ q=>q) fun _ _ q=>q
theorem HOk.laid (x:HOk P w H h) (k:∀b u,h.get? b=some u→h'.get? b=some u) (hp:h.objs.size≤a) (new:ObjOk P w (upd H a o) h' a o):HOk P w (upd H a o) h':=fun b u e=>by
  have hn:=x.fresh hp
  by_cases hb:b=a
  · subst hb;rw [upd_same] at e;cases e;exact new
  · rw [upd_ne hb] at e
    exact (x b u e).stay (fun c v _ q=>k c v q) (fun c q=>by rw [upd_ne (ne_of_none q hn)];exact q) fun c xs q=>by rw [upd_ne (ne_of_none q hn)];exact q
end
def Rd (H:Hp) (a:Addr) (u:HO):Prop:=H a=some u∨∃o,H a=some (.frz o u)
theorem Rd.of {H:Hp} {a:Addr} {u:HO} (h:H a=some u):Rd H a u:=.inl h
theorem Rd.ok {P:Program} {w:World} {H:Hp} {h:Heap} {a:Addr} {u:HO} (r:Rd H a u) (x:HOk P w H h):ObjOk P w H h a u:=by
  rcases r with r | ⟨o,r⟩
  · exact x a u r
  · obtain ⟨_,q⟩:=x a _ r
    exact q
def Mut:Option HO→Prop
  | some (.lst _)=>True
  | some (.dK _)=>True
  | some (.dT _)=>True
  | some (.set _ _)=>True
  | some (.ins _ _ _)=>True
  | some (.ext _)=>True
  | _=>False
section
variable {P:Program} {w:World} {H:Hp} {h h':Heap} {x e:Addr} {o':HO}
theorem HOk.write (ok:HOk P w H h) (mu:Mut (H x)) (he:e=x∨H e=some (.own x)) (k:∀b u,b≠e→h.get? b=some u→h'.get? b=some u) (heo:∃u,h'.get? e=some u)
    (new:ObjOk P w (upd H x o') h' x o'):HOk P w (upd H x o') h':=fun b u q=>by
  have nown:∀c y,H c=some (.own y)→c≠x:=fun c y r z=>by subst z;rw [r] at mu;exact mu
  have ntup:∀c xs,H c=some (.tup xs)→c≠x:=fun c xs r z=>by subst z;rw [r] at mu;exact mu
  by_cases hb:b=x
  · subst hb;rw [upd_same] at q;cases q;exact new
  · rw [upd_ne hb] at q
    by_cases hbe:b=e
    · have q':H b=some (.own x):=by
        rcases he with z | z
        · exact absurd (hbe.trans z) hb
        · rw [hbe];exact z
      rw [q] at q';cases q'
      obtain ⟨v,hv⟩:=heo
      exact ⟨v,by rw [hbe];exact hv⟩
    · refine (ok b u q).stay (fun c v hc r=>k c v ?_ r) (fun c r=>by rw [upd_ne (nown c b r)];exact r) fun c xs r=>by rw [upd_ne (ntup c xs r)];exact r
      rcases hc with rfl | hc
      · exact hbe
      · rintro rfl
        rcases he with z | z
        · exact nown c b hc z
        · rw [hc] at z;cases z;exact hb rfl
end
structure Un (fs ex:List Addr) (H H':Hp) (h h':Heap):Prop where
  keep:∀b o,h.get? b=some o→H b=none→b∉fs→b∉ex→h'.get? b=some o
  slot:∀b o,h.get? b=some o→H b=none→b∈fs→b∉ex→∃sl,h'.get? b=some { o with slots:=sl }
  free:∀b o,h.get? b=some o→H b=none→b∉ex→H' b=none
  there:∀b o,h.get? b=some o→b∉ex→∃o',h'.get? b=some o'
  tups:∀b xs,H b=some (.tup xs)→H' b=some (.tup xs)
  frzs:∀b o u,H b=some (.frz o u)→H' b=some (.frz o u)
  tbls:∀b ps,H b=some (.tbl ps)→∃more,H' b=some (.tbl (ps++more))
section
variable {fs fs' ex ex':List Addr} {H H1 H2:Hp} {h h1 h2 h':Heap} {a x e:Addr} {o:HO}
theorem Un.any (u:Un fs ex H H1 h h1) {b:Addr} {ob:Obj} (q:h.get? b=some ob) (n:H b=none) (hx:b∉ex):∃sl,h1.get? b=some { ob with slots:=sl }:=by
  by_cases hb:b∈fs
  · exact u.slot b ob q n hb hx
  · exact ⟨ob.slots,u.keep b ob q n hb hx⟩
theorem Un.trans (a:Un fs ex H H1 h h1) (b:Un fs ex H1 H2 h1 h2):Un fs ex H H2 h h2 where
  keep:=fun c ob q n hc hx=>b.keep c ob (a.keep c ob q n hc hx) (a.free c ob q n hx) hc hx
  slot:=fun c ob q n hc hx=>by
    obtain ⟨sl,e1⟩:=a.slot c ob q n hc hx
    obtain ⟨sl',e2⟩:=b.slot c _ e1 (a.free c ob q n hx) hc hx
    exact ⟨sl',e2⟩
  free:=fun c ob q n hx=>by
    obtain ⟨o',e1⟩:=a.there c ob q hx
    exact b.free c o' e1 (a.free c ob q n hx) hx
  there:=fun c ob q hx=>by
    obtain ⟨o',e1⟩:=a.there c ob q hx
    exact b.there c o' e1 hx
  tups:=fun c xs q=>b.tups c xs (a.tups c xs q)
  frzs:=fun c ob xs q=>b.frzs c ob xs (a.frzs c ob xs q)
  tbls:=fun c ps q=>by
    obtain ⟨m1,e1⟩:=a.tbls c ps q
    obtain ⟨m2,e2⟩:=b.tbls c _ e1
    exact ⟨m1++m2,by rw [e2,Array.append_assoc]⟩
theorem Un.kept (k:∀b u,h.get? b=some u→h'.get? b=some u):Un fs ex H H h h' :=
  ⟨fun b ob q _ _ _=>k b ob q,fun b ob q _ _ _=>⟨ob.slots,k b ob q⟩,fun _ _ _ n _=>n,fun b ob q _=>⟨ob,k b ob q⟩,fun _ _ q=>q,fun _ _ _ q=>q,fun _ ps q=>⟨#[],by rw [q];simp⟩⟩
theorem Un.refl:Un fs ex H H h h:=Un.kept fun _ _ q=>q
theorem Un.laid (k:∀b u,h.get? b=some u→h'.get? b=some u) (hp:h.objs.size≤a) (hn:H a=none):Un fs ex H (upd H a o) h h' where
  keep:=fun b u q _ _ _=>k b u q
  slot:=fun b u q _ _ _=>⟨u.slots,k b u q⟩
  free:=fun b u q n _=>by rw [upd_ne (Nat.ne_of_lt (Nat.lt_of_lt_of_le (Heap.lt_size q) hp))];exact n
  there:=fun b u q _=>⟨u,k b u q⟩
  tups:=fun b xs q=>by rw [upd_ne (ne_of_none q hn)];exact q
  frzs:=fun b u xs q=>by rw [upd_ne (ne_of_none q hn)];exact q
  tbls:=fun b ps q=>⟨#[],by rw [upd_ne (ne_of_none q hn),q];simp⟩
theorem Un.write (mu:Mut (H x)) (he:e=x∨H e=some (.own x)) (k:∀b u,b≠e→h.get? b=some u→h'.get? b=some u) (heo:∃u,h'.get? e=some u):Un fs ex H (upd H x o) h h':=by
  have hx:∀b,H b=none→b≠x:=fun b n z=>by subst z;rw [n] at mu;exact mu
  have hb:∀b,H b=none→b≠e:=fun b n z=>by
    subst z
    rcases he with r | r
    · exact hx b n r
    · rw [n] at r;cases r
  have hm:∀b u,H b=some u→¬ Mut (some u)→b≠x:=fun b u q nm z=>by subst z;rw [q] at mu;exact nm mu
  refine ⟨fun b u q n _ _=>k b u (hb b n) q,fun b u q n _ _=>⟨u.slots,k b u (hb b n) q⟩,fun b u q n _=>by rw [upd_ne (hx b n)];exact n,fun b u q _=>?_,
    fun b xs q=>by rw [upd_ne (hm b _ q fun z=>z)];exact q,fun b u xs q=>by rw [upd_ne (hm b _ q fun z=>z)];exact q,fun b ps q=>⟨#[],by rw [upd_ne (hm b _ q fun z=>z),q];simp⟩⟩
  by_cases hbe:b=e
  · subst hbe;exact heo
  · exact ⟨u,k b u hbe q⟩
theorem Un.mono (u:Un fs ex H H1 h h1) (hs:∀b∈fs,b∈fs') (hx:∀b∈ex,b∈ex'):Un fs' ex' H H1 h h1 :=
  ⟨fun b ob q n hb he=>u.keep b ob q n (fun z=>hb (hs b z)) fun z=>he (hx b z),fun _ _ q n _ he=>u.any q n fun z=>he (hx _ z),fun b ob q n he=>u.free b ob q n fun z=>he (hx b z),fun b ob q he=>u.there b ob q fun z=>he (hx b z),u.tups,u.frzs,u.tbls⟩
end
def trk (h:Heap) (H:Hp):List Addr:=(List.range h.objs.size).filter fun a=>(H a).isSome
def hidT (h:Heap) (H:Hp):Heap:=PySem.W.hideAll h (trk h H)
theorem hidT_size (h:Heap) (H:Hp):(hidT h H).objs.size=h.objs.size:=PySem.W.hideAll_size _ _
theorem hidT_get {h:Heap} {H:Hp} {b:Addr} {o:Obj} (e:h.get? b=some o) (n:H b=none):(hidT h H).get? b=some o :=
  PySem.W.hideAll_get _ e fun hm=>by
    have q:(H b).isSome=true:=(List.mem_filter.mp hm).2
    rw [n] at q;simp at q
theorem of_hidT {h:Heap} {H:Hp} {b:Addr} {o:Obj} (e:(hidT h H).get? b=some o):h.get? b=some o∧H b=none:=by
  have e':h.get? b=some o:=PySem.W.of_hideAll (trk h H) e
  refine ⟨e',?_⟩
  cases q:H b with
  | none=>rfl
  | some x =>
    have hm:b∈trk h H:=List.mem_filter.mpr ⟨List.mem_range.mpr (Heap.lt_size e'),by simp [q]⟩
    have z:(hidT h H).get? b=none:=PySem.W.hideAll_none (trk h H) hm
    rw [z] at e;cases e
def allNews (g h:Heap) (L:Addr):List (Addr×Obj):=(List.range h.objs.size).filterMap fun a=>if a=L∨(g.get? a).isSome=true then none else (h.get? a).map fun o=>(a,o)
def rest (g h:Heap) (L d:Addr):List (Addr×Obj):=(allNews g h L).filter fun p=>decide (p.1≠d)
end L2
namespace L2
open PySem PySem.Spec PyProof.Rows
structure Mod (K:PySem.W.Frag) (mg:Str→Option Value) (base:Heap):Prop where
  kin:K.In base
  glob:base.Ns mainGlobals mg
  blt:∃mb,base.Ns builtinsNs mb∧∀x:Str,x ≠ "__name__" → mb x=bootBuiltins x
  nolimit:base.NoLimit
structure Cx where
  prog:Program
  w:World
  K:PySem.W.Frag
  mg:Str→Option Value
  base:Heap
  A:Around
  N:List Str
  s₀:Shared
  H₀:Hp
  env:Env
  outer:List Env
  stack:List Env
  ex:List Addr
  fn:Str→Bool
  calm:Bool
  pn:List (Addr×Obj)
  xe:Value→Shared→Prop
def frs (l:List Env):List Addr:=l.filterMap (·.frame)
abbrev Cx.fs (X:Cx):List Addr:=frs X.outer
def Vis (sc:Scope) (x:Str):Prop:=sc.names.lookup x=some .local∨sc.names.lookup x=some .cell∨sc.names.lookup x=some .free
def Loc (sc:Scope) (x:Str):Prop:=sc.names.lookup x=some .local∨sc.names.lookup x=some .cell
def Look (env:Env) (h:Heap) (m:Str→Option Value) (x:Str) (u:Value):Prop :=
  (env.kindOf x=some .local∧m x=some u)∨((env.kindOf x=some .cell∨env.kindOf x=some .free)∧∃c,env.cells.lookup x=some c∧h.IsCell c (some u))
structure Cx.Ok (X:Cx):Prop where
  mod:Mod X.K X.mg X.base
  kind:X.env.scope.kind=.function
  glob:X.env.globals=mainGlobals
  blt:X.env.builtins=builtinsNs
  above:X.s₀.heap.objs.size≤X.env.locals
  inj:∀x y c,X.env.cells.lookup x=some c→X.env.cells.lookup y=some c→x=y
  has:∀x,(X.env.kindOf x=some .cell∨X.env.kindOf x=some .free)→∃c,X.env.cells.lookup x=some c
  cab:∀x c,X.fn x=true→X.env.cells.lookup x=some c→X.s₀.heap.objs.size≤c
  hd:X.calm=true→X.A.handled=none
  frames:X.A.frames=some X.stack
  stk:X.stack=X.outer∨(X.stack=X.env::X.outer∧X.env.frame=some X.env.locals)
  exf:∀b∈X.ex,b≠X.env.locals∧∀x c,X.env.cells.lookup x=some c→c≠b
  bs:∀b o,X.base.get? b=some o→X.s₀.heap.get? b=some o∧X.H₀ b=none
  bsz:X.base.objs.size≤X.s₀.heap.objs.size
  noex:∀b o,X.base.get? b=some o→b∉X.ex
  exfs:∀b∈X.ex,b∉X.fs
  funs:X.s₀.heap.FunFrames X.base X.outer
  frf:∀b∈X.fs,X.H₀ b=none
structure Inv (X:Cx) (pins:List (Addr×Obj)) (σ:List (Option V)) (H:Hp) (s:Shared):Prop where
  ok:X.Ok
  os:s.os=X.s₀.os
  bare:AllBare s.gens
  base:Un X.fs X.ex X.H₀ H X.s₀.heap s.heap
  loc:∃m,s.heap.Ns X.env.locals m∧∀(i:Nat) (x:Str) (v:V),X.N[i]?=some x→σ[i]?=some (some v)→Vis X.env.scope x→∃u,RelV v u∧Look X.env s.heap m x u
  cell:∀x c,X.env.cells.lookup x=some c→∃v,s.heap.IsCell c v
  free:H X.env.locals=none
  freeC:∀x c,X.env.cells.lookup x=some c→H c=none
  pin:∀p∈X.pn++pins,s.heap.get? p.1=some p.2∧H p.1=none∧p.1≠X.env.locals∧p.1∉X.fs∧∀v,p.2.data≠.cell v
  hok:HOk X.prog X.w H s.heap
  len:σ.length=X.N.length
section
variable {X:Cx} {pins:List (Addr×Obj)} {σ:List (Option V)} {H H':Hp} {s:Shared} {h':Heap}
theorem Cx.Ok.nofr (ok:X.Ok) {b:Addr} {o:Obj} (e:X.base.get? b=some o):b∉X.fs:=fun hb=>by
  have:=(ok.funs.mem hb).1
  rw [e] at this;cases this
theorem Inv.bs (I:Inv X pins σ H s):∀b o,X.base.get? b=some o→s.heap.get? b=some o∧H b=none:=fun b o e =>
  ⟨I.base.keep b o (I.ok.bs b o e).1 (I.ok.bs b o e).2 (I.ok.nofr e) (I.ok.noex b o e),I.base.free b o (I.ok.bs b o e).1 (I.ok.bs b o e).2 (I.ok.noex b o e)⟩
theorem Inv.bk (I:Inv X pins σ H s):∀b o,X.base.get? b=some o→s.heap.get? b=some o:=fun b o e=>(I.bs b o e).1
theorem Inv.mod (I:Inv X pins σ H s):Mod X.K X.mg X.base:=I.ok.mod
theorem Inv.kIn (I:Inv X pins σ H s):X.K.In s.heap:=I.ok.mod.kin.keeps I.bk
theorem Inv.nolimit (I:Inv X pins σ H s):s.heap.NoLimit:=I.ok.mod.nolimit.keeps I.bk
theorem Inv.fr (I:Inv X pins σ H s):∃m,Fr X.base X.env.locals s.heap m :=
  let ⟨m,hn,_⟩:=I.loc
  ⟨m,hn,I.bk,Nat.le_trans I.ok.bsz I.ok.above⟩
theorem Inv.lt (I:Inv X pins σ H s):X.env.locals<s.heap.objs.size:=let ⟨_,hn,_⟩:=I.loc;hn.lt
theorem Inv.sz (I:Inv X pins σ H s):X.s₀.heap.objs.size≤s.heap.objs.size:=Nat.le_trans I.ok.above (Nat.le_of_lt I.lt)
theorem Inv.nofs (I:Inv X pins σ H s) {a:Addr} (h:s.heap.objs.size≤a):a∉X.fs:=fun hb=>by
  obtain ⟨_,o,ho,_⟩:=I.ok.funs.mem hb
  exact absurd (Nat.lt_of_lt_of_le (Heap.lt_size ho) (Nat.le_trans I.sz h)) (Nat.lt_irrefl _)
theorem Inv.cne (I:Inv X pins σ H s):∀x c,X.env.cells.lookup x=some c→c≠X.env.locals:=fun x c e z=>by
  obtain ⟨v,o,ho,hd⟩:=I.cell x c e
  obtain ⟨m,⟨o',es,ep,ho',hd',_⟩,_⟩:=I.loc
  rw [z,ho'] at ho;cases ho;rw [hd'] at hd;cases hd
theorem Inv.funs (I:Inv X pins σ H s):s.heap.FunFrames X.base X.outer:=by
  have all:∀(l:List Env),(∀b∈frs l,b∈X.fs)→X.s₀.heap.FunFrames X.base l→s.heap.FunFrames X.base l:=by
    intro l
    induction l with
    | nil=>intro _ _;trivial
    | cons env r ih =>
      intro hs hl
      obtain ⟨hk,⟨L,o,hf,hn,ho,hd⟩,hr⟩:=hl
      have hL:L∈X.fs:=hs L (by unfold frs;rw [List.filterMap_cons,hf];exact List.mem_cons_self)
      obtain ⟨sl,e⟩:=I.base.slot L o ho (I.ok.frf L hL) hL fun z=>I.ok.exfs L z hL
      exact ⟨hk,⟨L,_,hf,hn,e,hd⟩,ih (fun b hb=>hs b (by unfold frs;rw [List.filterMap_cons,hf];exact List.mem_cons_of_mem _ hb)) hr⟩
  exact all X.outer (fun _ hb=>hb) I.ok.funs
theorem Inv.stack (I:Inv X pins σ H s):s.heap.FunFrames X.base X.stack:=by
  rcases I.ok.stk with e | ⟨e,hf⟩
  · rw [e];exact I.funs
  · rw [e]
    obtain ⟨m,hn,_⟩:=I.loc
    refine .cons (by rw [I.ok.kind];decide) hf hn ?_ I.funs
    exact Heap.get?_none_of_le (Nat.le_trans I.ok.bsz I.ok.above)
theorem Inv.stkSub (I:Inv X pins σ H s):∀b∈frs X.stack,b∈X.env.locals::X.fs:=fun b hb=>by
  rcases I.ok.stk with e | ⟨e,hf⟩
  · rw [e] at hb;exact List.mem_cons_of_mem _ hb
  · rw [e] at hb
    unfold frs at hb
    rw [List.filterMap_cons,hf] at hb
    exact hb
theorem Inv.stkFree (I:Inv X pins σ H s):∀b∈frs X.stack,H b=none:=fun b hb=>by
  rcases List.mem_cons.mp (I.stkSub b hb) with e | hb
  · rw [e];exact I.free
  · obtain ⟨_,o,ho,_⟩:=I.ok.funs.mem hb
    exact I.base.free b o ho (I.ok.frf b hb) fun z=>I.ok.exfs b z hb
theorem Inv.step {g':Array GenState} {t':Nat} {d':Drawn} {ch:List Addr} (I:Inv X pins σ H s)
    (hch:∀b∈ch,(b∈X.ex∨X.s₀.heap.objs.size≤b)∧b≠X.env.locals∧(∀x c,X.env.cells.lookup x=some c→c≠b)∧∀p∈X.pn++pins,p.1≠b)
    (keep:∀b o,b≠X.env.locals→b∉X.fs→b∉ch→s.heap.get? b=some o→H b=none→h'.get? b=some o)
    (slot:∀b o,b≠X.env.locals→b∈X.fs→b∉ch→s.heap.get? b=some o→H b=none→∃sl,h'.get? b=some { o with slots:=sl }) (free:∀b o,b∉ch→s.heap.get? b=some o→H b=none→H' b=none)
    (there:∀b o,b∉ch→s.heap.get? b=some o→∃o',h'.get? b=some o')
    (tups:∀b xs,H b=some (.tup xs)→H' b=some (.tup xs)) (frzs:∀b o u,H b=some (.frz o u)→H' b=some (.frz o u)) (tbls:∀b ps,H b=some (.tbl ps)→∃more,H' b=some (.tbl (ps++more)))
    (ns:∀m,s.heap.Ns X.env.locals m→h'.Ns X.env.locals m) (hok:HOk X.prog X.w H' h') (hg:AllBare g') :
    Inv X pins σ H' { s with heap:=h',gens:=g',drawn:=d',toks:=t' }:=by
  have neL:∀b o,X.s₀.heap.get? b=some o→b≠X.env.locals:=fun b o e=>Nat.ne_of_lt (Nat.lt_of_lt_of_le (Heap.lt_size e) I.ok.above)
  have neC:∀b o,X.s₀.heap.get? b=some o→b∉X.ex→b∉ch:=fun b o e hx hb=>by
    rcases (hch b hb).1 with z | z
    · exact hx z
    · exact absurd (Nat.lt_of_lt_of_le (Heap.lt_size e) z) (Nat.lt_irrefl _)
  have cellK:∀x c,X.env.cells.lookup x=some c→∀v,s.heap.IsCell c v→h'.IsCell c v:=fun x c e v ⟨o,ho,hd⟩=>by
    have nch:c∉ch:=fun z=>(hch c z).2.2.1 x c e rfl
    by_cases hc:c∈X.fs
    · obtain ⟨sl,q⟩:=slot c o (I.cne x c e) hc nch ho (I.freeC x c e)
      exact ⟨_,q,hd⟩
    · exact ⟨o,keep c o (I.cne x c e) hc nch ho (I.freeC x c e),hd⟩
  refine ⟨I.ok,I.os,hg,⟨fun b o e n hb hx=>?_,fun b o e n hb hx=>?_,fun b o e n hx=>?_,fun b o e hx=>?_,fun b xs e=>tups b xs (I.base.tups b xs e),fun b o xs e=>frzs b o xs (I.base.frzs b o xs e),fun b ps e=>?_⟩,?_,fun x c e=>?_,?_,fun x c e=>?_,fun p hp=>?_,hok,I.len⟩
  · exact keep b o (neL b o e) hb (neC b o e hx) (I.base.keep b o e n hb hx) (I.base.free b o e n hx)
  · obtain ⟨sl,e1⟩:=I.base.slot b o e n hb hx
    obtain ⟨sl',e2⟩:=slot b _ (neL b o e) hb (neC b o e hx) e1 (I.base.free b o e n hx)
    exact ⟨sl',e2⟩
  · obtain ⟨o',e1⟩:=I.base.there b o e hx
    exact free b o' (neC b o e hx) e1 (I.base.free b o e n hx)
  · obtain ⟨o',e1⟩:=I.base.there b o e hx
    exact there b o' (neC b o e hx) e1
  · obtain ⟨m1,e1⟩:=I.base.tbls b ps e
    obtain ⟨m2,e2⟩:=tbls b _ e1
    exact ⟨m1++m2,by rw [e2,Array.append_assoc]⟩
  · obtain ⟨m,hn,hl⟩:=I.loc
    refine ⟨m,ns m hn,fun i x v e1 e2 e3=>?_⟩
    obtain ⟨u,r,l⟩:=hl i x v e1 e2 e3
    refine ⟨u,r,?_⟩
    rcases l with l | ⟨k,c,e,z⟩
    · exact .inl l
    · exact .inr ⟨k,c,e,cellK x c e _ z⟩
  · obtain ⟨v,z⟩:=I.cell x c e
    exact ⟨v,cellK x c e v z⟩
  · obtain ⟨m,⟨o,_,_,ho,_⟩,_⟩:=I.loc
    exact free _ o (fun z=>(hch _ z).2.1 rfl) ho I.free
  · obtain ⟨v,o,ho,hd⟩:=I.cell x c e
    exact free c o (fun z=>(hch c z).2.2.1 x c e rfl) ho (I.freeC x c e)
  · obtain ⟨e,n,ne,nf,d⟩:=I.pin p hp
    have nch:p.1∉ch:=fun z=>(hch p.1 z).2.2.2 p hp rfl
    exact ⟨keep p.1 p.2 ne nf nch e n,free p.1 p.2 nch e n,ne,nf,d⟩
theorem Inv.un {t':Nat} (I:Inv X pins σ H s) (u:Un X.fs [] H H' s.heap h') (hok:HOk X.prog X.w H' h'):Inv X pins σ H' { s with heap:=h',toks:=t' }:=by
  obtain ⟨m,⟨o,es,ep,ho,r⟩,_⟩:=id I.loc
  obtain ⟨sl,hL⟩:=u.any ho I.free (by simp)
  exact I.step (g':=s.gens) (d':=s.drawn) (ch:=[]) (fun _ z=>nomatch z) (fun b o _ hb _ e n=>u.keep b o e n hb (by simp)) (fun b o _ hb _ e n=>u.slot b o e n hb (by simp)) (fun b o _ e n=>u.free b o e n (by simp)) (fun b o _ e=>u.there b o e (by simp)) u.tups u.frzs u.tbls (fun m' hm=>by
    obtain ⟨o',es',ep',ho',r'⟩:=hm
    rw [ho] at ho';cases ho'
    exact ⟨_,es',ep',hL,r'⟩) hok I.bare
theorem Inv.call {g':Array GenState} {t':Nat} {d':Drawn} {ch:List Addr} (I:Inv X pins σ H s) (u:Un (frs X.stack) ch H H' s.heap h') (hok:HOk X.prog X.w H' h') (hg:AllBare g')
    (hch:∀b∈ch,(b∈X.ex∨X.s₀.heap.objs.size≤b)∧b≠X.env.locals∧(∀x c,X.env.cells.lookup x=some c→c≠b)∧∀p∈X.pn++pins,p.1≠b) :
    Inv X pins σ H' { s with heap:=h',gens:=g',drawn:=d',toks:=t' }:=by
  obtain ⟨m,⟨o,es,ep,ho,r⟩,_⟩:=id I.loc
  obtain ⟨sl,hL⟩:=u.any ho I.free fun z=>(hch _ z).2.1 rfl
  exact I.step (ch:=ch) hch (fun b o hL hb hc e n=>u.keep b o e n (fun z=>(List.mem_cons.mp (I.stkSub b z)).elim hL hb) hc) (fun b o _ _ hc e n=>u.any e n hc) (fun b o hc e n=>u.free b o e n hc) (fun b o hc e=>u.there b o e hc) u.tups u.frzs u.tbls (fun m' hm=>by
    obtain ⟨o',es',ep',ho',r'⟩:=hm
    rw [ho] at ho';cases ho'
    exact ⟨_,es',ep',hL,r'⟩) hok hg
theorem Inv.turned {t':Nat} {it:Addr} (I:Inv X pins σ H s) (k:∀b o,b≠it→s.heap.get? b=some o→h'.get? b=some o) (hn:H it=none) (hL:it≠X.env.locals)
    (h1:it∈X.ex∨X.s₀.heap.objs.size≤it) (h2:∀x c,X.env.cells.lookup x=some c→c≠it) (h3:∀p∈X.pn++pins,p.1≠it):Inv X pins σ H { s with heap:=h',toks:=t' }:=by
  have nit:∀b u,H b=some u→b≠it:=fun b u e z=>by rw [z,hn] at e;cases e
  refine I.step (g':=s.gens) (d':=s.drawn) (ch:=[it]) (fun b hb=>?_) (fun b o _ _ hc e _=>k b o (fun z=>hc (by simp [z])) e) (fun b o _ _ hc e _=>⟨o.slots,k b o (fun z=>hc (by simp [z])) e⟩) (fun _ _ _ _ n=>n)
    (fun b o hc e=>⟨o,k b o (fun z=>hc (by simp [z])) e⟩) (fun _ _ e=>e) (fun _ _ _ e=>e) (fun b ps e=>⟨#[],by rw [e];simp⟩) (fun m hm=>?_) (fun b u e=>?_) I.bare
  · have e:b=it:=by simpa using hb
    subst e
    exact ⟨h1,hL,h2,h3⟩
  · obtain ⟨o,es,ep,ho,r⟩:=hm
    exact ⟨o,es,ep,k _ o (Ne.symm hL) ho,r⟩
  · refine (I.hok b u e).stay (fun c v hc q=>k c v ?_ q) (fun _ q=>q) fun _ _ q=>q
    rcases hc with z | z
    · rw [z];exact nit b u e
    · exact nit c _ z
theorem Inv.tok (I:Inv X pins σ H s) (t:Nat):Inv X pins σ H { s with toks:=t }:=I.un (h':=s.heap) (t':=t) Un.refl I.hok
theorem Inv.kept {t':Nat} (I:Inv X pins σ H s) (k:∀b u,s.heap.get? b=some u→h'.get? b=some u):Inv X pins σ H { s with heap:=h',toks:=t' }:=I.un (Un.kept k) (I.hok.kept k)
theorem Inv.laid {a:Addr} {o:HO} {t':Nat} (I:Inv X pins σ H s) (k:∀b u,s.heap.get? b=some u→h'.get? b=some u) (hp:s.heap.objs.size≤a) (new:ObjOk X.prog X.w (upd H a o) h' a o) :
    Inv X pins σ (upd H a o) { s with heap:=h',toks:=t' }:=I.un (Un.laid k hp (I.hok.fresh hp)) (I.hok.laid k hp new)
theorem Inv.write {x e:Addr} {o:HO} {t':Nat} (I:Inv X pins σ H s) (mu:Mut (H x)) (he:e=x∨H e=some (.own x)) (k:∀b u,b≠e→s.heap.get? b=some u→h'.get? b=some u) (heo:∃u,h'.get? e=some u)
    (new:ObjOk X.prog X.w (upd H x o) h' x o):Inv X pins σ (upd H x o) { s with heap:=h',toks:=t' }:=I.un (Un.write mu he k heo) (I.hok.write mu he k heo new)
theorem Inv.weak {σ':List (Option V)} (I:Inv X pins σ H s) (hl:σ'.length=σ.length) (w:∀(i:Nat) v,σ'[i]?=some (some v)→σ[i]?=some (some v)):Inv X pins σ' H s :=
  ⟨I.ok,I.os,I.bare,I.base,let ⟨m,hn,hl'⟩:=I.loc;⟨m,hn,fun i x v e1 e2 e3=>hl' i x v e1 (w i v e2) e3⟩,I.cell,I.free,I.freeC,I.pin,I.hok,hl.trans I.len⟩
theorem Inv.pins_of {pins':List (Addr×Obj)} (I:Inv X pins σ H s) (h:∀p∈pins',s.heap.get? p.1=some p.2∧H p.1=none∧p.1≠X.env.locals∧p.1∉X.fs∧∀v,p.2.data≠.cell v):Inv X pins' σ H s :=
  ⟨I.ok,I.os,I.bare,I.base,I.loc,I.cell,I.free,I.freeC,fun p hp=>(List.mem_append.mp hp).elim (fun z=>I.pin p (List.mem_append_left _ z)) (h p),I.hok,I.len⟩
theorem nodup_ix {N:List Str} (hN:N.Nodup) {i j:Nat} {x:Str} (a:N[i]?=some x) (b:N[j]?=some x):i=j:=by
  obtain ⟨h1,e1⟩:=List.getElem?_eq_some_iff.mp a
  obtain ⟨h2,e2⟩:=List.getElem?_eq_some_iff.mp b
  exact (List.getElem_inj hN).mp (e1.trans e2.symm)
theorem store_ok2 {M:Model} {A:Around} {E:Value→Shared→Prop} {i:Nat} {x:Str} {v:V} {u:Value} {Q:Unit→Shared→Prop} (I:Inv X pins σ H s) (hN:X.N.Nodup) (hi:X.N[i]?=some x) (hx:Loc X.env.scope x) (r:RelV v u)
    (h:∀s',Inv X pins (σ.set i (some v)) H s'→(∃a,Heap.SameBut a s.heap s'.heap∧(a=X.env.locals∨X.env.cells.lookup x=some a))→Q () s') (hf:X.fn x=true∨X.env.scope.names.lookup x=some .local:=by first | exact .inl rfl | exact .inr rfl | assumption):wpAny M A (storeName X.env x u) Q E s:=by
  obtain ⟨m,hn,hl⟩:=id I.loc
  have hcls:(X.env.scope.kind == .class||(X.env.scope.kind == .module&&X.env.locals != X.env.globals))=false:=by rw [I.ok.kind];rfl
  have hiσ:i<σ.length:=by rw [I.len];exact (List.getElem?_eq_some_iff.mp hi).1
  have cne:=I.cne
  have tracked:∀{a:Addr} {h':Heap},(∃o,s.heap.get? a=some o∧H a=none)→Heap.SameBut a s.heap h'→HOk X.prog X.w H h':=fun {a h'} ha hs b ob e=>by
    obtain ⟨_,_,hfree⟩:=ha
    refine (I.hok b ob e).stay (fun c w' hc q=>(hs.2 c ?_).trans q) (fun _ q=>q) fun _ _ q=>q
    rintro rfl
    rcases hc with rfl | hc
    · rw [hfree] at e;cases e
    · rw [hfree] at hc;cases hc
  rcases hx with hk | hk
  · refine wpAny_storeName_local hk hn (fun h' hn' hs=>?_) hcls
    obtain ⟨oL,_,_,hoL,_⟩:=id hn
    refine h _ ⟨I.ok,I.os,I.bare,⟨fun b o e n hb hx=>?_,fun b o e n hb hx=>?_,I.base.free,fun b o e hx=>?_,I.base.tups,I.base.frzs,I.base.tbls⟩,⟨_,hn',fun j y v' e1 e2 e3=>?_⟩,fun y c e=>?_,I.free,I.freeC,fun p hp=>?_,tracked ⟨oL,hoL,I.free⟩ hs,by simpa using I.len⟩ ⟨_,hs,.inl rfl⟩
    · exact (hs.2 b (Nat.ne_of_lt (Nat.lt_of_lt_of_le (Heap.lt_size e) I.ok.above))).trans (I.base.keep b o e n hb hx)
    · obtain ⟨sl,e1⟩:=I.base.slot b o e n hb hx
      exact ⟨sl,(hs.2 b (Nat.ne_of_lt (Nat.lt_of_lt_of_le (Heap.lt_size e) I.ok.above))).trans e1⟩
    · obtain ⟨o',e1⟩:=I.base.there b o e hx
      exact ⟨o',(hs.2 b (Nat.ne_of_lt (Nat.lt_of_lt_of_le (Heap.lt_size e) I.ok.above))).trans e1⟩
    · by_cases hj:j=i
      · subst hj
        rw [hi] at e1;cases e1
        rw [List.getElem?_set_self hiσ] at e2
        cases e2
        exact ⟨u,r,.inl ⟨hk,by simp⟩⟩
      · rw [List.getElem?_set_ne (Ne.symm hj)] at e2
        obtain ⟨u',r',q⟩:=hl j y v' e1 e2 e3
        refine ⟨u',r',?_⟩
        rcases q with ⟨k,e⟩ | ⟨k,c,e,z⟩
        · refine .inl ⟨k,?_⟩
          have:y≠x:=fun e=>hj (nodup_ix hN e1 (e▸hi))
          simp [this,e]
        · exact .inr ⟨k,c,e,z.sameBut hs (cne y c e)⟩
    · obtain ⟨w',z⟩:=I.cell y c e
      exact ⟨w',z.sameBut hs (cne y c e)⟩
    · obtain ⟨e,n,ne,nf,d⟩:=I.pin p hp
      exact ⟨(hs.2 p.1 ne).trans e,n,ne,nf,d⟩
  · have hfn:X.fn x=true:=by
      rcases hf with z | z
      · exact z
      · rw [z] at hk;cases hk
    obtain ⟨c,hc⟩:=I.ok.has x (.inl hk)
    obtain ⟨w',z⟩:=I.cell x c hc
    refine wpAny_storeName_cell I.ok.kind hk hc z (fun h' hc' hs=>?_)
    obtain ⟨oc,hoc,hocd⟩:=id z
    refine h { s with heap:=h' } ⟨I.ok,I.os,I.bare,⟨fun b o e n hb hx=>?_,fun b o e n hb hx=>?_,I.base.free,fun b o e hx=>?_,I.base.tups,I.base.frzs,I.base.tbls⟩,⟨m,hn.sameBut hs (Ne.symm (cne x c hc)),fun j y v' e1 e2 e3=>?_⟩,fun y c' e=>?_,I.free,I.freeC,fun p hp=>?_,tracked ⟨oc,hoc,I.freeC x c hc⟩ hs,by simpa using I.len⟩ ⟨c,hs,.inr hc⟩
    · exact (hs.2 b (Nat.ne_of_lt (Nat.lt_of_lt_of_le (Heap.lt_size e) (I.ok.cab x c hfn hc)))).trans (I.base.keep b o e n hb hx)
    · obtain ⟨sl,e1⟩:=I.base.slot b o e n hb hx
      exact ⟨sl,(hs.2 b (Nat.ne_of_lt (Nat.lt_of_lt_of_le (Heap.lt_size e) (I.ok.cab x c hfn hc)))).trans e1⟩
    · obtain ⟨o',e1⟩:=I.base.there b o e hx
      exact ⟨o',(hs.2 b (Nat.ne_of_lt (Nat.lt_of_lt_of_le (Heap.lt_size e) (I.ok.cab x c hfn hc)))).trans e1⟩
    · by_cases hj:j=i
      · subst hj
        rw [hi] at e1;cases e1
        rw [List.getElem?_set_self hiσ] at e2
        cases e2
        exact ⟨u,r,.inr ⟨.inl hk,c,hc,hc'⟩⟩
      · rw [List.getElem?_set_ne (Ne.symm hj)] at e2
        obtain ⟨u',r',q⟩:=hl j y v' e1 e2 e3
        refine ⟨u',r',?_⟩
        rcases q with q | ⟨k,c',e,z'⟩
        · exact .inl q
        · refine .inr ⟨k,c',e,z'.sameBut hs ?_⟩
          rintro rfl
          exact hj (nodup_ix hN e1 (I.ok.inj _ _ _ e hc▸hi))
    · by_cases hcc:c'=c
      · subst hcc;exact ⟨_,hc'⟩
      · obtain ⟨w2,z2⟩:=I.cell y c' e
        exact ⟨w2,z2.sameBut hs hcc⟩
    · obtain ⟨e,n,ne,nf,d⟩:=I.pin p hp
      refine ⟨(hs.2 p.1 ?_).trans e,n,ne,nf,d⟩
      intro q
      rw [q,hoc] at e
      have q':oc=p.2:=Option.some.inj e
      exact d w' (by rw [←q'];exact hocd)
theorem store_ok {M:Model} {A:Around} {E:Value→Shared→Prop} {i:Nat} {x:Str} {v:V} {u:Value} {Q:Unit→Shared→Prop} (I:Inv X pins σ H s) (hN:X.N.Nodup) (hi:X.N[i]?=some x) (hx:Loc X.env.scope x) (r:RelV v u)
    (h:∀s',Inv X pins (σ.set i (some v)) H s'→Q () s') (hf:X.fn x=true∨X.env.scope.names.lookup x=some .local:=by first | exact .inl rfl | exact .inr rfl | assumption):wpAny M A (storeName X.env x u) Q E s :=
  store_ok2 I hN hi hx r (fun s' I' _=>h s' I') hf
theorem Inv.call' {s':Shared} {ch:List Addr} (I:Inv X pins σ H s) (ho:s'.os=s.os) (u:Un (frs X.stack) ch H H' s.heap s'.heap) (hok:HOk X.prog X.w H' s'.heap) (hg:AllBare s'.gens)
    (hch:∀b∈ch,(b∈X.ex∨X.s₀.heap.objs.size≤b)∧b≠X.env.locals∧(∀x c,X.env.cells.lookup x=some c→c≠b)∧∀p∈X.pn++pins,p.1≠b):Inv X pins σ H' s':=by
  obtain ⟨h',g',d',t',o'⟩:=s'
  have e:o'=s.os:=ho
  subst e
  exact I.call (g':=g') (t':=t') (d':=d') u hok hg hch
end
abbrev XK:=Value→Option Addr→Hp→Prop
abbrev St:=List (Option V)
abbrev VK:=V→Hp→Prop
abbrev TE:=St→Hp→VK→Prop
abbrev TT:=St→Hp→(Bool→Hp→Prop)→Prop
abbrev TA:=St→Hp→(List V→Hp→Prop)→Prop
structure Ends where
  nx:St→Hp→Prop
  rt:VK
  bk:St→Hp→Prop:=fun _ _=>False
  ct:St→Hp→Prop:=fun _ _=>False
abbrev TS:=Ends→St→Hp→Prop
def EP (X:Cx) (pins:List (Addr×Obj)) (σ:St) (Q:VK) (u:Value) (s':Shared):Prop:=∃v H',Inv X pins σ H' s'∧RelV v u∧Q v H'
def TP (X:Cx) (pins:List (Addr×Obj)) (σ:St) (Q:Bool→Hp→Prop) (b:Bool) (s':Shared):Prop:=∃H',Inv X pins σ H' s'∧Q b H'
def AP (X:Cx) (pins:List (Addr×Obj)) (σ:St) (Q:List V→Hp→Prop) (us:List Value) (s':Shared):Prop:=∃vs H',Inv X pins σ H' s'∧Vals vs us∧Q vs H'
def SP (X:Cx) (pins:List (Addr×Obj)) (D:Ends) (f:Flow) (s':Shared):Prop :=
  match f with
  | .next=>∃σ' H',Inv X pins σ' H' s'∧D.nx σ' H'
  | .brk=>∃σ' H',Inv X pins σ' H' s'∧D.bk σ' H'
  | .cont=>∃σ' H',Inv X pins σ' H' s'∧D.ct σ' H'
  | .ret u=>∃v σ' H',Inv X pins σ' H' s'∧RelV v u∧D.rt v H'
def PE (X:Cx) (e:Expr) (t:TE):Prop :=
  ∀(pins:List (Addr×Obj)) (s:Shared) (σ:St) (H:Hp) (Q:VK),Inv X pins σ H s→t σ H Q→wpAny (model X.prog X.w) X.A (eval e X.env) (EP X pins σ Q) X.xe s
def PT (X:Cx) (e:Expr) (t:TT):Prop :=
  ∀(pins:List (Addr×Obj)) (s:Shared) (σ:St) (H:Hp) (Q:Bool→Hp→Prop),Inv X pins σ H s→t σ H Q→wpAny (model X.prog X.w) X.A (isTrue e X.env (eval e X.env)) (TP X pins σ Q) X.xe s
def PW (X:Cx) (e:Expr) (t:TT):Prop :=
  ∀(whole:Sem Value) (pins:List (Addr×Obj)) (s:Shared) (σ:St) (H:Hp) (Q:Bool→Hp→Prop),Inv X pins σ H s→t σ H Q→wpAny (model X.prog X.w) X.A (isTrue e X.env whole) (TP X pins σ Q) X.xe s
theorem PW.pt {X:Cx} {e:Expr} {t:TT} (h:PW X e t):PT X e t:=h _
def PA (X:Cx) (es:List Expr) (t:TA):Prop :=
  ∀(pos:Pos) (pins:List (Addr×Obj)) (s:Shared) (σ:St) (H:Hp) (Q:List V→Hp→Prop),Inv X pins σ H s→t σ H Q→wpAny (model X.prog X.w) X.A (spliced (backTo pos (starEach es X.env))) (AP X pins σ Q) X.xe s
def PS (X:Cx) (st:Stmt) (t:TS):Prop :=
  ∀(pins:List (Addr×Obj)) (s:Shared) (σ:St) (H:Hp) (D:Ends),Inv X pins σ H s→t D σ H→wpAny (model X.prog X.w) X.A (exec st X.env) (SP X pins D) X.xe s
def PSs (X:Cx) (st:List Stmt) (t:TS):Prop :=
  ∀(pins:List (Addr×Obj)) (s:Shared) (σ:St) (H:Hp) (D:Ends),Inv X pins σ H s→t D σ H→wpAny (model X.prog X.w) X.A (execs st X.env) (SP X pins D) X.xe s
theorem thn {α:Type} {t:Sem α} {Q Q':α→Shared→Prop} {M:Model} {A:Around} {E:Value→Shared→Prop} {s:Shared} (h:wpAny M A t Q E s) (hQ:∀a s,Q a s→Q' a s):wpAny M A t Q' E s:=wpAny_mono h hQ fun _ _ x=>x
end L2
namespace L2
open PySem PySem.Spec PyProof.Rows
section
variable {X:Cx}
theorem bin {a b:Expr} {ta tb:TE} (ha:PE X a ta) (hb:PE X b tb) {pins:List (Addr×Obj)} {s:Shared} {σ:St} {H:Hp} {R:V→V→Hp→Prop} (I:Inv X pins σ H s) (h:ta σ H fun x H1=>tb σ H1 fun y H2=>R x y H2)
    {α:Type} {Q:α→Shared→Prop} {f:Value→Value→Sem α}
    (hf:∀v u s2 x y H2,Inv X pins σ H2 s2→RelV x v→RelV y u→R x y H2→wpAny (model X.prog X.w) X.A (f v u) Q X.xe s2) :
    wpAny (model X.prog X.w) X.A (eval a X.env) (fun v s₁=>wpAny (model X.prog X.w) X.A (eval b X.env) (fun u s₂=>wpAny (model X.prog X.w) X.A (f v u) Q X.xe s₂) X.xe s₁) X.xe s:=by
  refine thn (ha pins s σ H _ I h) fun v s1 ⟨x,H1,I1,r1,q1⟩=>?_
  refine thn (hb pins s1 σ H1 _ I1 q1) fun u s2 ⟨y,H2,I2,r2,q2⟩=>?_
  exact hf v u s2 x y H2 I2 r1 r2 q2
def tVar (i:Nat):TE:=fun σ H Q=>∃v,σ[i]?=some (some v)∧Q v H
def tC (v:V):TE:=fun _ H Q=>Q v H
theorem pe_var {i:Nat} {x:Str} {pos:Pos} (hN:X.N[i]?=some x) (hv:Vis X.env.scope x) (hd:(x == ("__debug__" : Str))=false:=by decide) (hcd:(x == ("__classdict__" : Str))=false:=by decide):PE X (.Name x pos) (tVar i):=by
  intro pins s σ H Q I h
  obtain ⟨v,e,h⟩:=h
  obtain ⟨m,hn,hl⟩:=I.loc
  obtain ⟨u,r,l⟩:=hl i x v hN e hv
  have fin:EP X pins σ Q u s:=⟨v,H,I,r,h⟩
  rcases l with ⟨hk,hm⟩ | ⟨hk,c,hc,hcell⟩
  · exact wpAny_Name (wpAny_loadName_local I.ok.kind hk hn hm fin) hd
  · rcases hk with hk | hk
    · exact wpAny_Name (wpAny_loadName_cell I.ok.kind hk hc hcell fin) hd
    · exact wpAny_Name (wpAny_loadName_free I.ok.kind hk hc hcell fin hcd) hd
theorem pe_int {i j pos}:PE X (.Constant (.int i) j pos) (tC (.int i)):=fun _ _ _ H _ I h=>wpAny_Constant_int ⟨.int i,H,I.tok _,⟨_,rfl⟩,h⟩
theorem pe_bl {b j pos}:PE X (.Constant (.bool b) j pos) (tC (.bl b)):=fun _ _ _ H _ I h=>Constant_bool ⟨.bl b,H,I,rfl,h⟩
theorem pe_non {j pos}:PE X (.Constant .none j pos) (tC .non):=fun _ _ _ H _ I h=>Constant_none ⟨.non,H,I,rfl,h⟩
theorem pe_str {x j pos}:PE X (.Constant (.str x) j pos) (tC (.str x)):=fun _ _ _ H _ I h=>Calls.Constant_str ⟨.str x,H,I.tok _,⟨_,rfl⟩,h⟩
def Gl (X:Cx) (x:Str):Prop:=X.env.kindOf x=some .globalImplicit
theorem ld_glob {E:Value→Shared→Prop} {pins:List (Addr×Obj)} {s:Shared} {σ:St} {H:Hp} {x:Str} {u:Value} {pos:Pos} {Q:Value→Shared→Prop} (I:Inv X pins σ H s) (hg:Gl X x) (hm:X.mg x=some u) (h:Q u s)
    (hd:(x == ("__debug__" : Str))=false:=by decide):wpAny (model X.prog X.w) X.A (eval (.Name x pos) X.env) Q E s :=
  Calls.Name_function_global I.ok.kind hg (Calls.loadGlobal_global (by rw [I.ok.glob];exact I.mod.glob.keeps I.bk) hm h) hd
theorem ld_blt {E:Value→Shared→Prop} {pins:List (Addr×Obj)} {s:Shared} {σ:St} {H:Hp} {x:Str} {u:Value} {pos:Pos} {Q:Value→Shared→Prop} (I:Inv X pins σ H s) (hg:Gl X x) (hm:X.mg x=none) (hv:bootBuiltins x=some u) (h:Q u s)
    (hn:x ≠ "__name__" := by decide) (hd:(x == ("__debug__" : Str))=false:=by decide):wpAny (model X.prog X.w) X.A (eval (.Name x pos) X.env) Q E s:=by
  obtain ⟨mb,h1,h2⟩:=I.mod.blt
  exact Calls.Name_function_global I.ok.kind hg (Calls.loadGlobal_builtin (by rw [I.ok.glob];exact I.mod.glob.keeps I.bk) hm (by rw [I.ok.blt];exact h1.keeps I.bk) ((h2 x hn).trans hv) h) hd
theorem pe_bltn {x:Str} {v:V} {u:Value} {pos:Pos} (hg:Gl X x) (hm:X.mg x=none) (hv:bootBuiltins x=some u) (r:RelV v u) (hn:x ≠ "__name__" := by decide) (hd:(x == ("__debug__" : Str))=false:=by decide):PE X (.Name x pos) (tC v) :=
  fun _ _ _ H _ I h=>ld_blt I hg hm hv ⟨v,H,I,r,h⟩ hn hd
variable {a b:Expr} {ta tb:TE} {pos:Pos}
def PC (X:Cx) (op:CmpOp) (a b:Expr) (t:TE):Prop :=
  ∀(pins:List (Addr×Obj)) (s:Shared) (σ:St) (H:Hp) (Q:VK),Inv X pins σ H s→t σ H Q →
    wpAny (model X.prog X.w) X.A (eval a X.env) (fun v s₁=>wpAny (model X.prog X.w) X.A (eval b X.env) (fun u s₂=>wpAny (model X.prog X.w) X.A (compareOp op v u) (EP X pins σ Q) X.xe s₂) X.xe s₁) X.xe s
theorem nobehind (b:Expr) {op:CmpOp} (h:op≠.In) (h2:op≠.NotIn):behindInMarks op b=false:=by
  have e1:(op == CmpOp.In)=false:=by cases op <;> first | rfl | exact absurd rfl h
  have e2:(op == CmpOp.NotIn)=false:=by cases op <;> first | rfl | exact absurd rfl h2
  cases b <;> simp [behindInMarks,e1,e2]
def tB (t:TE):TT:=fun σ H Q=>t σ H fun x H1=>∃c,x=.bl c∧Q c H1
theorem pt_cmp {op:CmpOp} {t:TE} (h:PC X op a b t) (h1:behindInMarks op b=false:=by first | exact nobehind _ (by decide) (by decide) | rfl):PT X (.Compare a [op] [b] pos) (tB t):=by
  intro pins s σ H Q I hw
  refine wpAny_isTrue_Compare1 (thn (h pins s σ H _ I hw) fun v s1 h1=>thn h1 fun u s2 h2=>thn h2 fun c s3 ⟨x,H1,I1,r1,q1⟩=>?_) h1
  obtain ⟨d,rfl,q⟩:=q1
  cases r1
  exact wpAny_truthy_bool ⟨H1,I1,q⟩
theorem pt_val {e:Expr} {t:TE} (h:PE X e t) (he:∀whole,isTrue e X.env whole=(do let v ←whole;standAt e.pos;holding [v] (truthy v)):=by intro _;rfl):PT X e (tB t):=by
  intro pins s σ H Q I hw
  refine isTrue_plain (thn (h pins s σ H _ I hw) fun v s1 ⟨x,H1,I1,r1,q1⟩=>?_) (he _)
  obtain ⟨d,rfl,q⟩:=q1
  cases r1
  exact wpAny_truthy_bool ⟨H1,I1,q⟩
variable {tA tB':TT} {rest:List Expr}
def tAnd (t u:TT):TT:=fun σ H Q=>t σ H fun c H1=>if c=true then u σ H1 Q else Q false H1
def tOr (t u:TT):TT:=fun σ H Q=>t σ H fun c H1=>if c=true then Q true H1 else u σ H1 Q
def tNot (t:TT):TT:=fun σ H Q=>t σ H fun c H1=>Q (!c) H1
theorem pw_and1 (ha:PT X a tA):PW X (.BoolOp .And [a] pos) tA:=by
  intro wh pins s σ H Q I h
  refine isTrue_and (thn (ha pins s σ H Q I h) fun c s1 e=>?_)
  cases c with
  | true=>exact isTrue_and_nil e
  | false=>exact e
theorem pw_or1 (ha:PT X a tA):PW X (.BoolOp .Or [a] pos) tA:=by
  intro wh pins s σ H Q I h
  refine isTrue_or (thn (ha pins s σ H Q I h) fun c s1 e=>?_)
  cases c with
  | false=>exact isTrue_or_nil e
  | true=>exact e
theorem pw_and (ha:PT X a tA) (hb:PW X (.BoolOp .And (b::rest) pos) tB'):PW X (.BoolOp .And (a::b::rest) pos) (tAnd tA tB'):=by
  intro wh pins s σ H Q I h
  refine isTrue_and (thn (ha pins s σ H _ I h) fun c s1 ⟨H1,I1,q1⟩=>?_)
  cases c with
  | true=>exact hb wh pins s1 σ H1 Q I1 q1
  | false=>exact ⟨H1,I1,q1⟩
theorem pw_or (ha:PT X a tA) (hb:PW X (.BoolOp .Or (b::rest) pos) tB'):PW X (.BoolOp .Or (a::b::rest) pos) (tOr tA tB'):=by
  intro wh pins s σ H Q I h
  refine isTrue_or (thn (ha pins s σ H _ I h) fun c s1 ⟨H1,I1,q1⟩=>?_)
  cases c with
  | true=>exact ⟨H1,I1,q1⟩
  | false=>exact hb wh pins s1 σ H1 Q I1 q1
theorem pt_not (ha:PT X a tA):PT X (.UnaryOp .Not a pos) (tNot tA):=by
  intro pins s σ H Q I h
  exact isTrue_not (ha pins s σ H (fun c H1=>Q (!c) H1) I h)
def tAndV (ta tb:TE):TE:=fun σ H Q=>ta σ H fun x H1=>∃c,x=.bl c∧if c=true then tb σ H1 Q else Q (.bl false) H1
def tOrV (ta tb:TE):TE:=fun σ H Q=>ta σ H fun x H1=>∃c,x=.bl c∧if c=true then Q (.bl true) H1 else tb σ H1 Q
theorem pe_one {op} {t:TE} (h:PE X a t):PE X (.BoolOp op [a] pos) t:=fun pins s σ H Q I hw=>BoolOp_one (h pins s σ H Q I hw)
theorem pe_and (ha:PE X a ta) (hb:PE X (.BoolOp .And (b::rest) pos) tb):PE X (.BoolOp .And (a::b::rest) pos) (tAndV ta tb):=by
  intro pins s σ H Q I h
  refine BoolOp_and (thn (ha pins s σ H _ I h) fun v s1 ⟨x,H1,I1,r1,q1⟩=>?_)
  obtain ⟨c,rfl,q1⟩:=q1
  cases r1
  refine wpAny_truthy_bool ?_
  cases c with
  | true=>exact hb pins s1 σ H1 Q I1 q1
  | false=>exact ⟨.bl false,H1,I1,rfl,q1⟩
theorem pe_or (ha:PE X a ta) (hb:PE X (.BoolOp .Or (b::rest) pos) tb):PE X (.BoolOp .Or (a::b::rest) pos) (tOrV ta tb):=by
  intro pins s σ H Q I h
  refine BoolOp_or (thn (ha pins s σ H _ I h) fun v s1 ⟨x,H1,I1,r1,q1⟩=>?_)
  obtain ⟨c,rfl,q1⟩:=q1
  cases r1
  refine wpAny_truthy_bool ?_
  cases c with
  | false=>exact hb pins s1 σ H1 Q I1 q1
  | true=>exact ⟨.bl true,H1,I1,rfl,q1⟩
def tIf (t:TT) (ta tb:TE):TE:=fun σ H Q=>t σ H fun c H1=>if c=true then ta σ H1 Q else tb σ H1 Q
theorem pe_ifExp {c:Expr} (hc:PT X c tA) (ha:PE X a ta) (hb:PE X b tb):PE X (.IfExp c a b pos) (tIf tA ta tb):=by
  intro pins s σ H Q I h
  refine wpAny_IfExp (thn (hc pins s σ H _ I h) fun d s1 ⟨H1,I1,q1⟩=>?_)
  cases d with
  | true=>exact ha pins s1 σ H1 Q I1 q1
  | false=>exact hb pins s1 σ H1 Q I1 q1
end
end L2
namespace L2
open PySem PySem.Spec PyProof.Rows
def SqL (K:PySem.W.Frag) (H:Hp) (a:Addr) (xs:List V):Prop :=
  Rd H a (.lst xs) ∨
    ∃(o:Obj) (its:Array Value) (n:Nat),K.lookup a=some o∧o.cls=.type "list" ∧ o.dict=none∧o.data=.seq its n∧its.size≤sizeLine∧Vals xs its.toList
def SqT (K:PySem.W.Frag) (H:Hp) (a:Addr) (xs:List V):Prop :=
  Rd H a (.tup xs) ∨
    ∃(o:Obj) (its:Array Value) (n:Nat),K.lookup a=some o∧o.cls=.type "tuple" ∧ o.data=.seq its n∧its.size≤sizeLine∧Vals xs its.toList
def absV:Value→Option V
  | .none=>some .non
  | .bool b=>some (.bl b)
  | .int i _=>some (.int i)
  | .str x _=>some (.str x)
  | .bytes b _=>some (.byt b)
  | .float b _=>some (.flt b)
  | .ref a=>some (.ref a)
  | .type n=>some (.ty n)
  | _=>none
theorem RelV.abs {x:V} {u:Value} (r:RelV x u):absV u=some x:=by
  cases x with
  | non=>cases r;rfl
  | bl _=>cases r;rfl
  | int _=>obtain ⟨t,rfl⟩:=r;rfl
  | str _=>obtain ⟨t,rfl⟩:=r;rfl
  | byt _=>obtain ⟨t,rfl⟩:=r;rfl
  | flt _=>obtain ⟨t,rfl⟩:=r;rfl
  | ref _=>cases r;rfl
  | ty _=>cases r;rfl
theorem RelV.inj {x y:V} {u:Value} (r:RelV x u) (q:RelV y u):x=y:=Option.some.inj (r.abs.symm.trans q.abs)
theorem Vals.inj:∀{xs ys:List V} {us:List Value},Vals xs us→Vals ys us→xs=ys
  | _,_,_,.nil,.nil=>rfl
  | _,_,_,.cons r t,.cons r' t'=>by rw [r.inj r',Vals.inj t t']
section
variable {X:Cx} {pins:List (Addr×Obj)} {σ:St} {H:Hp} {s:Shared} {a:Addr} {xs ys:List V}
theorem SqL.of {K:PySem.W.Frag} (h:H a=some (.lst xs)):SqL K H a xs:=.inl (.inl h)
theorem SqT.of {K:PySem.W.Frag} (h:H a=some (.tup xs)):SqT K H a xs:=.inl (.inl h)
theorem Inv.list (I:Inv X pins σ H s) (h:SqL X.K H a xs):∃its:List Value,Vals xs its∧PlainL s.heap a its.toArray∧xs.length≤sizeLine:=by
  rcases h with h | ⟨o,its,n,hk,hc,hd,hs,hz,r⟩
  · obtain ⟨z,its,n,r,e⟩:=h.ok I.hok
    exact ⟨its,r,⟨_,n,e,rfl,rfl,rfl⟩,z⟩
  · refine ⟨its.toList,r,⟨o,n,I.kIn a o hk,hc,hd,by simpa using hs⟩,?_⟩
    have e:=r.length
    simp only [Array.length_toList] at e
    omega
theorem Inv.tuple (I:Inv X pins σ H s) (h:SqT X.K H a xs):∃its:List Value,Vals xs its∧IsTup s.heap a its.toArray∧xs.length≤sizeLine:=by
  rcases h with h | ⟨o,its,n,hk,hc,hs,hz,r⟩
  · obtain ⟨z,its,r,p⟩:=h.ok I.hok
    exact ⟨its,r,p,z⟩
  · refine ⟨its.toList,r,⟨o,I.kIn a o hk,hc,n,by simpa using hs⟩,?_⟩
    have e:=r.length
    simp only [Array.length_toList] at e
    omega
theorem Inv.list_inj (I:Inv X pins σ H s) (h:SqL X.K H a xs) (h':SqL X.K H a ys):xs=ys:=by
  obtain ⟨its,r,⟨o,n,e,_,_,d⟩,_⟩:=I.list h
  obtain ⟨its',r',⟨o',n',e',_,_,d'⟩,_⟩:=I.list h'
  rw [e] at e';cases e'
  rw [d] at d'
  injection d' with d1 _
  have:its=its':=by simpa using congrArg Array.toList d1
  subst this
  exact r.inj r'
theorem Inv.tuple_inj (I:Inv X pins σ H s) (h:SqT X.K H a xs) (h':SqT X.K H a ys):xs=ys:=by
  obtain ⟨its,r,⟨o,e,_,n,d⟩,_⟩:=I.tuple h
  obtain ⟨its',r',⟨o',e',_,n',d'⟩,_⟩:=I.tuple h'
  rw [e] at e';cases e'
  rw [d] at d'
  injection d' with d1 _
  have:its=its':=by simpa using congrArg Array.toList d1
  subst this
  exact r.inj r'
end
abbrev Cx.wish (X:Cx) (E:Value→Shared→Prop):Cx:={ X with xe:=E }
abbrev Cx.nox (X:Cx):Cx:=X.wish fun _ _=>False
theorem Cx.Ok.wish {X:Cx} (ok:X.Ok) (E:Value→Shared→Prop):(X.wish E).Ok :=
  ⟨ok.mod,ok.kind,ok.glob,ok.blt,ok.above,ok.inj,ok.has,ok.cab,ok.hd,ok.frames,ok.stk,ok.exf,ok.bs,ok.bsz,ok.noex,ok.exfs,ok.funs,ok.frf⟩
theorem Cx.Ok.unwish {X:Cx} {E:Value→Shared→Prop} (ok:(X.wish E).Ok):X.Ok :=
  ⟨ok.mod,ok.kind,ok.glob,ok.blt,ok.above,ok.inj,ok.has,ok.cab,ok.hd,ok.frames,ok.stk,ok.exf,ok.bs,ok.bsz,ok.noex,ok.exfs,ok.funs,ok.frf⟩
section
variable {X:Cx} {pins:List (Addr×Obj)} {σ:St} {H:Hp} {s:Shared} {E:Value→Shared→Prop}
theorem Inv.wish (I:Inv X pins σ H s) (E:Value→Shared→Prop):Inv (X.wish E) pins σ H s:=⟨I.ok.wish E,I.os,I.bare,I.base,I.loc,I.cell,I.free,I.freeC,I.pin,I.hok,I.len⟩
theorem Inv.unwish (I:Inv (X.wish E) pins σ H s):Inv X pins σ H s:=⟨I.ok.unwish,I.os,I.bare,I.base,I.loc,I.cell,I.free,I.freeC,I.pin,I.hok,I.len⟩
theorem SP.unwish {D:Ends} {f:Flow} {s':Shared} (h:SP (X.wish E) pins D f s'):SP X pins D f s':=by
  cases f with
  | next=>obtain ⟨σ',H',I,q⟩:=h;exact ⟨σ',H',I.unwish,q⟩
  | brk=>obtain ⟨σ',H',I,q⟩:=h;exact ⟨σ',H',I.unwish,q⟩
  | cont=>obtain ⟨σ',H',I,q⟩:=h;exact ⟨σ',H',I.unwish,q⟩
  | ret u=>obtain ⟨v,σ',H',I,r,q⟩:=h;exact ⟨v,σ',H',I.unwish,r,q⟩
theorem PE.nox {e:Expr} {t:TE} (h:PE X.nox e t):PE X e t:=fun pins s σ H Q I hw =>
  wpAny_mono (h pins s σ H Q (I.wish _) hw) (fun _ _ ⟨v,H',I',r,q⟩=>⟨v,H',I'.unwish,r,q⟩) fun _ _ z=>False.elim z
theorem PT.nox {e:Expr} {t:TT} (h:PT X.nox e t):PT X e t:=fun pins s σ H Q I hw =>
  wpAny_mono (h pins s σ H Q (I.wish _) hw) (fun _ _ ⟨H',I',q⟩=>⟨H',I'.unwish,q⟩) fun _ _ z=>False.elim z
theorem PSs.nox {st:List Stmt} {t:TS} (h:PSs X.nox st t):PSs X st t:=fun pins s σ H D I hw =>
  wpAny_mono (h pins s σ H D (I.wish _) hw) (fun _ _ q=>q.unwish) fun _ _ z=>False.elim z
end
section
variable {X:Cx} {st:Stmt} {rest:List Stmt} {t u:TS} {e:Expr} {te:TE} {pos:Pos}
def tNext:TS:=fun D σ H=>D.nx σ H
def tSeq (t u:TS):TS:=fun D σ H=>t { D with nx:=u D } σ H
theorem pss_nil:PSs X [] tNext:=fun _ _ σ H _ I h=>wpAny_execs_nil ⟨σ,H,I,h⟩
theorem pss_cons (h1:PS X st t) (h2:PSs X rest u):PSs X (st::rest) (tSeq t u):=by
  intro pins s σ H D I h
  refine wpAny_execs_cons (thn (h1 pins s σ H { D with nx:=u D } I h) fun f s1 q=>?_)
  cases f with
  | next =>
    obtain ⟨σ',H',I',q⟩:=q
    exact h2 pins s1 σ' H' D I' q
  | ret v=>exact q
  | brk=>exact q
  | cont=>exact q
theorem pss_one (h1:PS X st t):PSs X [st] t:=by
  intro pins s σ H D I h
  refine wpAny_execs_cons (thn (h1 pins s σ H D I h) fun f s1 q=>?_)
  cases f with
  | next=>exact wpAny_execs_nil q
  | ret v=>exact q
  | brk=>exact q
  | cont=>exact q
theorem Inv.quiet {pins:List (Addr×Obj)} {σ:St} {H:Hp} {s:Shared} (I:Inv X pins σ H s):interactive X.env=false:=by simp [interactive,I.ok.kind]
def tDrop (te:TE):TS:=fun D σ H=>te σ H fun _ H1=>D.nx σ H1
theorem ps_expr (he:PE X e te) (hs:swapsWith e none pos.line X.env=pure false:=by rfl):PS X (.Expr e pos) (tDrop te):=by
  intro pins s σ H D I h
  exact wpAny_Expr_any (thn (he pins s σ H _ I h) fun v s1 ⟨x,H1,I1,r1,q1⟩=>⟨σ,H1,I1,q1⟩) I.quiet hs
def tRet (te:TE):TS:=fun D σ H=>te σ H D.rt
theorem ps_ret (he:PE X e te):PS X (.Return (some e) pos) (tRet te):=by
  intro pins s σ H D I h
  exact wpAny_Return_some (thn (he pins s σ H _ I h) fun v s1 ⟨x,H1,I1,r1,q1⟩=>⟨x,σ,H1,I1,r1,q1⟩)
def tIfS (c:TT) (t u:TS):TS:=fun D σ H=>c σ H fun b H1=>if b=true then t D σ H1 else u D σ H1
theorem ps_if {c:Expr} {a b:List Stmt} {tc:TT} (hc:PT X c tc) (ha:PSs X a t) (hb:PSs X b u):PS X (.If c a b pos) (tIfS tc t u):=by
  intro pins s σ H D I h
  refine wpAny_If (thn (hc pins s σ H _ I h) fun d s1 ⟨H1,I1,q1⟩=>?_)
  cases d with
  | true=>exact ha pins s1 σ H1 D I1 q1
  | false=>exact hb pins s1 σ H1 D I1 q1
def tNever:TS:=fun _ _ _=>False
theorem ps_never:PS X st tNever:=fun _ _ _ _ _ _ h=>h.elim
theorem pss_never {sts:List Stmt}:PSs X sts tNever:=fun _ _ _ _ _ _ h=>h.elim
end
abbrev TG:=V→St→Hp→(St→Hp→Prop)→Prop
abbrev TGs:=List V→St→Hp→(St→Hp→Prop)→Prop
def PG (X:Cx) (target:Expr) (t:TG):Prop :=
  ∀(pins:List (Addr×Obj)) (s:Shared) (σ:St) (H:Hp) (v:V) (u:Value) (Q:St→Hp→Prop),Inv X pins σ H s→RelV v u→t v σ H Q →
    wpAny (model X.prog X.w) X.A (assign target X.env u) (fun _ s'=>∃σ' H',Inv X pins σ' H' s'∧Q σ' H') X.xe s
def PGs (X:Cx) (ts:List Expr) (t:TGs):Prop :=
  ∀(pins:List (Addr×Obj)) (s:Shared) (σ:St) (H:Hp) (vs:List V) (us:List Value) (Q:St→Hp→Prop),Inv X pins σ H s→Vals vs us→t vs σ H Q →
    wpAny (model X.prog X.w) X.A (assignInOrder ((assignEach ts X.env).map (·.2)) us) (fun _ s'=>∃σ' H',Inv X pins σ' H' s'∧Q σ' H') X.xe s
abbrev TSet:=V→V→V→Hp→(Hp→Prop)→Prop
def PSet (X:Cx) (t:TSet):Prop :=
  ∀(pins:List (Addr×Obj)) (s:Shared) (σ:St) (H:Hp) (o i v:V) (ov iv u:Value) (Q:Hp→Prop),Inv X pins σ H s→RelV o ov→RelV i iv→RelV v u→t o i v H Q →
    wpAny (model X.prog X.w) X.A (setItem ov iv u) (fun _ s'=>∃H',Inv X pins σ H' s'∧Q H') X.xe s
abbrev TIp:=V→V→Hp→VK→Prop
def PIp (X:Cx) (op:Operator) (t:TIp):Prop :=
  ∀(pins:List (Addr×Obj)) (s:Shared) (σ:St) (H:Hp) (x y:V) (v u:Value) (Q:VK),Inv X pins σ H s→RelV x v→RelV y u→t x y H Q →
    wpAny (model X.prog X.w) X.A (inplaceOp op v u) (EP X pins σ Q) X.xe s
section
variable {X:Cx} {pos:Pos}
def gName (i:Nat):TG:=fun v σ H Q=>Q (σ.set i (some v)) H
theorem pg_name {i:Nat} {x:Str} (hN:X.N.Nodup) (hi:X.N[i]?=some x) (hx:Loc X.env.scope x) (hf:X.fn x=true∨X.env.scope.names.lookup x=some .local:=by first | exact .inl rfl | exact .inr rfl | assumption):PG X (.Name x pos) (gName i):=by
  intro pins s σ H v u Q I r h
  exact wpAny_assign_Name (store_ok I hN hi hx r (fun s' I'=>⟨_,H,I',h⟩) hf)
def gNil:TGs:=fun vs σ H Q=>vs=[]∧Q σ H
def gCons (t:TG) (u:TGs):TGs:=fun vs σ H Q=>∃v r,vs=v::r∧t v σ H fun σ' H'=>u r σ' H' Q
theorem pgs_nil:PGs X [] gNil:=by
  intro pins s σ H vs us Q I r h
  obtain ⟨e,h⟩:=h
  subst e
  cases r
  exact assignInOrder_nil ⟨σ,H,I,h⟩
theorem pgs_cons {e:Expr} {es:List Expr} {t:TG} {u:TGs} (h1:PG X e t) (h2:PGs X es u)
    (hs:(assignEach (e::es) X.env).map (·.2)=assign e X.env::(assignEach es X.env).map (·.2):=by rfl):PGs X (e::es) (gCons t u):=by
  intro pins s σ H vs us Q I r h
  obtain ⟨v,vr,e1,h⟩:=h
  subst e1
  cases r with
  | cons r rr =>
    rw [hs]
    refine assignInOrder_cons (thn (h1 pins s σ H _ _ _ I r h) fun _ s1 ⟨σ1,H1,I1,q1⟩=>?_)
    exact h2 pins s1 σ1 H1 _ _ Q I1 rr q1
def gTup (K:PySem.W.Frag) (n:Nat) (t:TGs):TG:=fun v σ H Q=>∃a xs,v=.ref a∧SqT K H a xs∧xs.length=n∧t xs σ H Q
theorem pg_tup {es:List Expr} {k:Nat} {t:TGs} {n:Nat} (hc:X.calm=true) (h:PGs X es t)
    (hn:(assignEach es X.env).length=n:=by rfl) (hst:(assignEach es X.env).findIdx? (·.1)=none:=by rfl):PG X (.Tuple es k pos) (gTup X.K n t):=by
  intro pins s σ H v u Q I r hw
  obtain ⟨a,xs,e1,hq,hl,hw⟩:=hw
  subst e1
  cases r
  obtain ⟨its,rv,ht,hz⟩:=I.tuple hq
  refine assign_Tuple_tuple (I.ok.hd hc) ht (by simp [hn,←hl,rv.length]) hst fun h' hx=>?_
  have I1:Inv X pins σ H { s with heap:=h' }:=I.kept (t':=s.toks) fun b o e=>hx b o (Nat.ne_of_lt (Heap.lt_size e)) e
  exact h pins _ σ H xs _ Q I1 (by simpa using rv) hw
def gSub (to ti:TE) (t:TSet):TG:=fun v σ H Q=>to σ H fun o H1=>ti σ H1 fun i H2=>t o i v H2 fun H3=>Q σ H3
theorem pg_sub {o i:Expr} {to ti:TE} {t:TSet} (ho:PE X o to) (hi:PE X i ti) (hs:PSet X t)
    (ha:∀v,assign (.Subscript o i pos) X.env v=(do
      let ov ←holding [v] (eval o X.env)
      let iv ←holding [v,ov] (eval i X.env)
      standAt pos
      holding [v,ov,iv] (setItem ov iv v)
      release [v,ov,iv] []):=by intro _;rfl):PG X (.Subscript o i pos) (gSub to ti t):=by
  intro pins s σ H v u Q I r h
  rw [ha]
  refine wpAny_bind (wpAny_holding (thn (ho pins s σ H _ I h) fun ov s1 ⟨x,H1,I1,r1,q1⟩=>?_))
  refine wpAny_bind (wpAny_holding (thn (hi pins s1 σ H1 _ I1 q1) fun iv s2 ⟨y,H2,I2,r2,q2⟩=>?_))
  refine wpAny_bind (wpAny_standAt (wpAny_bind (wpAny_holding (thn (hs pins s2 σ H2 x y v ov iv u _ I2 r1 r2 r q2) fun _ s3 ⟨H3,I3,q3⟩=>?_))))
  exact wpAny_release ⟨σ,H3,I3,q3⟩
def tAsg (te:TE) (g:TG):TS:=fun D σ H=>te σ H fun x H1=>g x σ H1 D.nx
theorem ps_asg {tg e:Expr} {te:TE} {g:TG} (he:PE X e te) (hg:PG X tg g) (hs:swapsWithSole [tg] e pos.line X.env=pure false:=by rfl) (hw:swappedStores [tg] e X.env=pure none:=by rfl)
    (h1:(assignEach [tg] X.env).map (·.2)=[assign tg X.env]:=by rfl):PS X (.Assign [tg] e pos) (tAsg te g):=by
  intro pins s σ H D I h
  refine wpAny_Assign_stores (thn (he pins s σ H _ I h) fun v s1 ⟨x,H1,I1,r1,q1⟩=>?_) hs hw
  rw [h1]
  exact thn (hg pins s1 σ H1 x v _ I1 r1 q1) fun _ s2 q=>q
theorem ps_set {i:Nat} {x:Str} {e:Expr} {te:TE} {pos':Pos} (hN:X.N.Nodup) (hi:X.N[i]?=some x) (hx:Loc X.env.scope x) (he:PE X e te) (hs:swapsWith e (some (.Name x pos')) pos.line X.env=pure false:=by rfl) (hf:X.fn x=true∨X.env.scope.names.lookup x=some .local:=by first | exact .inl rfl | exact .inr rfl | assumption) :
    PS X (.Assign [.Name x pos'] e pos) (tAsg te (gName i)):=by
  intro pins s σ H D I h
  refine wpAny_Assign_Name (thn (he pins s σ H _ I h) fun v s1 ⟨y,H1,I1,r1,q1⟩=>?_) hs
  exact store_ok I1 hN hi hx r1 (fun s2 I2=>⟨_,H1,I2,q1⟩) hf
def tAug (i:Nat) (te:TE) (ti:TIp):TS:=fun D σ H=>∃x,σ[i]?=some (some x)∧te σ H fun y H1=>ti x y H1 fun z H2=>D.nx (σ.set i (some z)) H2
theorem ps_aug {i:Nat} {x:Str} {e:Expr} {te:TE} {op:Operator} {ti:TIp} {pos':Pos} (hN:X.N.Nodup) (hi:X.N[i]?=some x) (hx:Loc X.env.scope x) (he:PE X e te) (ho:PIp X op ti) (hf:X.fn x=true∨X.env.scope.names.lookup x=some .local:=by first | exact .inl rfl | exact .inr rfl | assumption) :
    PS X (.AugAssign (.Name x pos') op e pos) (tAug i te ti):=by
  intro pins s σ H D I h
  obtain ⟨v,e1,h⟩:=h
  obtain ⟨m,hn,hl⟩:=I.loc
  have vis:Vis X.env.scope x:=by rcases hx with k | k;exact .inl k;exact .inr (.inl k)
  obtain ⟨u,r,l⟩:=hl i x v hi e1 vis
  refine wpAny_AugAssign_Name ?_
  have go:wpAny (model X.prog X.w) X.A (eval e X.env) (fun w s₂=>wpAny (model X.prog X.w) X.A (inplaceOp op u w) (fun r s₃=>wpAny (model X.prog X.w) X.A (storeName X.env x r) (fun _=>SP X pins D .next) X.xe s₃) X.xe s₂) X.xe s:=by
    refine thn (he pins s σ H _ I h) fun w s1 ⟨y,H1,I1,r1,q1⟩=>?_
    refine thn (ho pins s1 σ H1 v y u w _ I1 r r1 q1) fun z s2 ⟨zv,H2,I2,r2,q2⟩=>?_
    exact store_ok I2 hN hi hx r2 (fun s3 I3=>⟨_,H2,I3,q2⟩) hf
  rcases l with ⟨hk,hm⟩ | ⟨hk,c,hc,hcell⟩
  · exact wpAny_loadName_local I.ok.kind hk hn hm go
  · rcases hk with hk | hk
    · exact wpAny_loadName_cell I.ok.kind hk hc hcell go
    · rcases hx with k | k
      · have:X.env.scope.names.lookup x=some .free:=hk
        rw [k] at this;cases this
      · have:X.env.scope.names.lookup x=some .free:=hk
        rw [k] at this;cases this
def ipI (f:Int→Int→Int):TIp:=fun x y H Q=>∃i j,x=.int i∧y=.int j∧Q (.int (f i j)) H
theorem ip_add:PIp X .Add (ipI fun i j=>i+j):=by
  intro pins s σ H x y v u Q I r1 r2 h
  obtain ⟨i,j,e1,e2,q⟩:=h
  subst e1;subst e2
  obtain ⟨t,rfl⟩:=r1
  obtain ⟨t',rfl⟩:=r2
  exact iadd_int ⟨.int _,H,I.tok _,⟨_,rfl⟩,q⟩
end
section
variable {X:Cx} {pos:Pos}
def tWhile (c:TT) (tb:TS):TS:=fun D σ H=>∃W:Nat→St→Hp→Prop,(∃m,W m σ H)∧∀m σ H,W m σ H →
  c σ H fun b H1=>if b=true then ∃N:St→Hp→Prop,(∀σ' H',N σ' H'→∃m',m'<m∧W m' σ' H')∧tb { D with nx:=N,ct:=N,bk:=D.nx } σ H1 else D.nx σ H1
theorem ps_while {c:Expr} {body:List Stmt} {tc:TT} {tb:TS} (hp:PassesOwn (model X.prog X.w) X.A X.env X.xe) (hc:PT X c tc) (hb:PSs X body tb):PS X (.While c body [] pos) (tWhile tc tb):=by
  intro pins s σ H D I h
  obtain ⟨W,⟨m0,w0⟩,turn⟩:=h
  refine wpAny_While (codeAny_whileLoop (fun n s'=>∃σ' H',Inv X pins σ' H' s'∧W n σ' H') ?_ m0 ⟨σ,H,I,w0⟩)
  rintro n s1 ⟨σ1,H1,I1,w1⟩
  refine wpAny_passesOwn hp (thn (hc pins s1 σ1 H1 _ I1 (turn n σ1 H1 w1)) fun b s2 ⟨H2,I2,q2⟩=>?_)
  cases b with
  | true =>
    obtain ⟨N,hN,q2⟩:=q2
    rw [if_pos rfl]
    refine wpAny_passesOwn hp (thn (hb pins s2 σ1 H2 _ I2 q2) fun f s3 q3=>?_)
    cases f with
    | next =>
      obtain ⟨σ3,H3,I3,n3⟩:=q3
      obtain ⟨m',hm,w3⟩:=hN σ3 H3 n3
      exact ⟨m',hm,σ3,H3,I3,w3⟩
    | cont =>
      obtain ⟨σ3,H3,I3,n3⟩:=q3
      obtain ⟨m',hm,w3⟩:=hN σ3 H3 n3
      exact ⟨m',hm,σ3,H3,I3,w3⟩
    | brk=>exact q3
    | ret v=>exact q3
  | false =>
    rw [if_neg Bool.false_ne_true]
    exact wpAny_execs_nil ⟨σ1,H2,I2,q2⟩
end
structure It where
  go:Nat→Hp→Prop
  yld:Nat→Hp→V→Hp→Prop
  stop:Nat→Hp→Prop
def FpOk (X:Cx) (pins:List (Addr×Obj)) (H:Hp) (b:Addr):Prop :=
  H b=none∧b≠X.env.locals∧b∉X.fs∧(b∈X.ex∨X.s₀.heap.objs.size≤b)∧(∀x c,X.env.cells.lookup x=some c→c≠b)∧∀p∈X.pn++pins,p.1≠b
theorem Inv.fpOk {X:Cx} {pins:List (Addr×Obj)} {σ:St} {H H':Hp} {s:Shared} {b:Addr} (I:Inv X pins σ H s) (hb:s.heap.objs.size≤b) (hn:H' b=none):FpOk X pins H' b:=by
  refine ⟨hn,Nat.ne_of_gt (Nat.lt_of_lt_of_le I.lt hb),I.nofs hb,.inr (Nat.le_trans I.sz hb),fun x c e z=>?_,fun p hp z=>?_⟩
  · obtain ⟨v,q⟩:=I.cell x c e
    exact absurd (Nat.lt_of_lt_of_le q.lt (by rw [z];exact hb)) (Nat.lt_irrefl _)
  · exact absurd (Nat.lt_of_lt_of_le (Heap.lt_size (I.pin p hp).1) (by rw [z];exact hb)) (Nat.lt_irrefl _)
structure Turn (P:Program) (w:World) (K:PySem.W.Frag) (tg:Expr) (J:It) (fp:List Addr) (it:Addr) (tn:Nat→Heap→Prop):Prop where
  mem:it∈fp
  obj:∀i h,tn i h→∀b∈fp,∃o,h.get? b=some o∧∀v,o.data≠.cell v
  keep:∀i h h',tn i h→(∀b∈fp,∀o,h.get? b=some o→h'.get? b=some o)→tn i h'
  item:∀(X:Cx),X.prog=P→X.w=w→X.K=K→X.calm=true→∀(i:Nat) (pins:List (Addr×Obj)) (s:Shared) (σ:St) (H:Hp) (E:Value→Shared→Prop),Inv X pins σ H s→(∀b∈fp,FpOk X pins H b)→tn i s.heap→J.go i H →
    wpAny (model P w) X.A (pyNext (.ref it)) (fun r s1=>∃u,r=some u ∧
      wpAny (model P w) X.A (letOwnedTupleGo tg (.ref it) u) (fun _ s2=>∃x H',Inv X pins σ H' s2∧RelV x u∧J.yld i H x H'∧tn (i+1) s2.heap∧∀b∈fp,H' b=none) E s1) E s
  done:∀(X:Cx),X.prog=P→X.w=w→X.K=K→X.calm=true→∀(i:Nat) (pins:List (Addr×Obj)) (s:Shared) (σ:St) (H:Hp) (E:Value→Shared→Prop),Inv X pins σ H s→(∀b∈fp,FpOk X pins H b)→tn i s.heap→J.stop i H →
    wpAny (model P w) X.A (pyNext (.ref it)) (fun r s1=>r=none∧Inv X pins σ H s1) E s
  self:∀(A:Around) (i:Nat) (s:Shared) (Q:Value→Shared→Prop) (E:Value→Shared→Prop),tn i s.heap→Q (.ref it) s→wpAny (model P w) A (pyIter (.ref it)) Q E s
abbrev TI:=St→Hp→(It→Hp→Prop)→Prop
def PIE (X:Cx) (pins:List (Addr×Obj)) (σ:St) (tg:Expr) (R:It→Hp→Prop) (itv:Value) (s2:Shared):Prop :=
  ∃(it:Addr) (fp:List Addr) (tn:Nat→Heap→Prop) (J:It) (H':Hp),itv=.ref it∧Inv X pins σ H' s2∧Turn X.prog X.w X.K tg J fp it tn∧tn 0 s2.heap∧(∀b∈fp,FpOk X pins H' b)∧R J H'
def PI (X:Cx) (tg iter:Expr) (wi:TI):Prop :=
  ∀(pins:List (Addr×Obj)) (s:Shared) (σ:St) (H:Hp) (R:It→Hp→Prop),Inv X pins σ H s→wi σ H R →
    wpAny (model X.prog X.w) X.A (eval iter X.env) (fun v s1=>wpAny (model X.prog X.w) X.A (pyIter v) (PIE X pins σ tg R) X.xe s1) X.xe s
theorem go_of {M:Model} {A:Around} {E:Value→Shared→Prop} {s:Shared} {tg:Expr} {it:Addr} {u:Value} {o:Obj} {n:String} {vs:Array Value} {Q:Unit→Shared→Prop} (ho:s.heap.get? it=some o) (hc:o.cls=.type n) (hd:o.data=.fields vs)
    (hn:["enumerate","zip","dict_itemiterator","dict_reverseitemiterator","odict_iterator","itertools.zip_longest","itertools.pairwise"].contains n=false) (hQ:Q () s):wpAny M A (letOwnedTupleGo tg (.ref it) u) Q E s:=by
  unfold letOwnedTupleGo
  cases tg <;> first
    | exact wpAny_pure hQ
    | (cases u <;> first
        | exact wpAny_pure hQ
        | (refine wpAny_bind (wpAny_load ho ?_)
           rw [hc,hd]
           show wpAny M A (if (["enumerate","zip","dict_itemiterator","dict_reverseitemiterator","odict_iterator","itertools.zip_longest","itertools.pairwise"].contains n&&vs[0]? == some (rawInt _))=true then _ else _) Q E s
           rw [if_neg (by intro h;rw [hn,Bool.false_and] at h;cases h)]
           exact wpAny_pure hQ))
def Itl (K:PySem.W.Frag) (a:Addr):It :=
  ⟨fun i H=>∃xs x,SqL K H a xs∧xs[i]?=some x,fun i H x H'=>H'=H∧∀xs,SqL K H a xs→xs[i]?=some x,fun i H=>∃xs,SqL K H a xs∧xs.length≤i⟩
def Itt (K:PySem.W.Frag) (a:Addr):It :=
  ⟨fun i H=>∃xs x,SqT K H a xs∧xs[i]?=some x,fun i H x H'=>H'=H∧∀xs,SqT K H a xs→xs[i]?=some x,fun i H=>∃xs,SqT K H a xs∧xs.length≤i⟩
def Itr (lo:Int) (n:Nat):It:=⟨fun i _=>i<n,fun i H x H'=>H'=H∧x=.int (lo+i),fun i _=>n≤i⟩
theorem turn_list {P:Program} {w:World} {K:PySem.W.Frag} {tg:Expr} (a it:Addr):Turn P w K tg (Itl K a) [it] it (fun i h=>h.IsListIter it a i) where
  mem:=by simp
  obj:=fun i h st b hb=>by
    have e:b=it:=by simpa using hb
    subst e
    obtain ⟨o,e,c,d⟩:=st
    exact ⟨o,e,fun v z=>by rw [d] at z;cases z⟩
  keep:=fun i h h' st k=>st.at fun o e=>k it (by simp) o e
  item:=by
    intro X hP hw hK hc i pins s σ H E I hf st hg
    subst hP hw hK
    obtain ⟨xs,x,hq,hx⟩:=hg
    obtain ⟨its,rv,p,hz⟩:=I.list hq
    obtain ⟨u,hu,ru⟩:=rv.get hx
    obtain ⟨f0,f1,f2,f3,f4,f5⟩:=hf it (by simp)
    refine wpAny_pyNext_list_item st p.isList (x:=u) (by simpa using hu) fun h' st' sb=>?_
    have I1:Inv X pins σ H { s with heap:=h' }:=I.turned (t':=s.toks) (fun b o hb e=>(sb.2 b hb).trans e) f0 f1 f3 f4 f5
    obtain ⟨o,e,c,d⟩:=id st'
    exact ⟨u,rfl,go_of (s:={ s with heap:=h' }) e c d (by decide) ⟨x,H,I1,ru,⟨rfl,fun ys hy=>by rw [I.list_inj hy hq];exact hx⟩,st',fun b hb=>(hf b hb).1⟩⟩
  done:=by
    intro X hP hw hK hc i pins s σ H E I hf st hg
    subst hP hw hK
    obtain ⟨xs,hq,hx⟩:=hg
    obtain ⟨its,rv,p,hz⟩:=I.list hq
    obtain ⟨f0,f1,f2,f3,f4,f5⟩:=hf it (by simp)
    have hl:=rv.length
    exact wpAny_pyNext_list_end (I.ok.hd hc) st p.isList (by simp;omega) fun h' eb=>⟨rfl,I.turned (t':=s.toks) (fun b o hb e=>eb b o hb e) f0 f1 f3 f4 f5⟩
  self:=fun _ _ _ _ _ st h=>wpAny_pyIter_listiter st h
theorem turn_tuple {P:Program} {w:World} {K:PySem.W.Frag} {tg:Expr} (a it:Addr):Turn P w K tg (Itt K a) [it] it (fun i h=>h.IsTupleIter it a i) where
  mem:=by simp
  obj:=fun i h st b hb=>by
    have e:b=it:=by simpa using hb
    subst e
    obtain ⟨o,e,c,d⟩:=st
    exact ⟨o,e,fun v z=>by rw [d] at z;cases z⟩
  keep:=fun i h h' st k=>st.at fun o e=>k it (by simp) o e
  item:=by
    intro X hP hw hK hc i pins s σ H E I hf st hg
    subst hP hw hK
    obtain ⟨xs,x,hq,hx⟩:=hg
    obtain ⟨its,rv,p,hz⟩:=I.tuple hq
    obtain ⟨u,hu,ru⟩:=rv.get hx
    obtain ⟨f0,f1,f2,f3,f4,f5⟩:=hf it (by simp)
    refine wpAny_pyNext_tuple_item st (show s.heap.IsTuple a its.toArray from p) (x:=u) (by simpa using hu) fun h' st' sb=>?_
    have I1:Inv X pins σ H { s with heap:=h' }:=I.turned (t':=s.toks) (fun b o hb e=>(sb.2 b hb).trans e) f0 f1 f3 f4 f5
    obtain ⟨o,e,c,d⟩:=id st'
    exact ⟨u,rfl,go_of (s:={ s with heap:=h' }) e c d (by decide) ⟨x,H,I1,ru,⟨rfl,fun ys hy=>by rw [I.tuple_inj hy hq];exact hx⟩,st',fun b hb=>(hf b hb).1⟩⟩
  done:=by
    intro X hP hw hK hc i pins s σ H E I hf st hg
    subst hP hw hK
    obtain ⟨xs,hq,hx⟩:=hg
    obtain ⟨its,rv,p,hz⟩:=I.tuple hq
    obtain ⟨f0,f1,f2,f3,f4,f5⟩:=hf it (by simp)
    have hl:=rv.length
    exact wpAny_pyNext_tuple_end (I.ok.hd hc) st (show s.heap.IsTuple a its.toArray from p) (by simp;omega) fun h' eb=>⟨rfl,I.turned (t':=s.toks) (fun b o hb e=>eb b o hb e) f0 f1 f3 f4 f5⟩
  self:=fun _ _ _ _ _ st h=>wpAny_pyIter_tupleiter st h
theorem turn_range {P:Program} {w:World} {K:PySem.W.Frag} {tg:Expr} (it:Addr) (lo:Int) (n:Nat):Turn P w K tg (Itr lo n) [it] it (fun i h=>IsRangeIter h it (lo+(i:Nat)*1) ((n:Int) - (i:Nat)) 1) where
  mem:=by simp
  obj:=fun i h st b hb=>by
    have e:b=it:=by simpa using hb
    subst e
    exact ⟨_,st,fun v z=>by
      have z':Data.fields _=Data.cell v:=z
      cases z'⟩
  keep:=fun i h h' st k=>k it (by simp) _ st
  item:=by
    intro X hP hw hK hc i pins s σ H E I hf st hg
    subst hP hw hK
    obtain ⟨f0,f1,f2,f3,f4,f5⟩:=hf it (by simp)
    have W:=Walks.range (prog:=X.prog) (w:=X.w) (I.ok.hd hc) it lo 1 n
    refine W.item i s _ _ hg st fun v h' tk hv st' kk=>?_
    obtain ⟨t,rfl⟩:=hv
    have I1:Inv X pins σ H { s with heap:=h',toks:=tk }:=I.turned (fun b o hb e=>kk b o (by simpa using hb) e) f0 f1 f3 f4 f5
    refine ⟨_,rfl,go_of (s:={ s with heap:=h',toks:=tk }) (n := "range_iterator") st' rfl rfl (by decide) ⟨.int (lo+i),H,I1,⟨t,?_⟩,⟨rfl,rfl⟩,st',fun b hb=>(hf b hb).1⟩⟩
    rw [Int.mul_one]
  done:=by
    intro X hP hw hK hc i pins s σ H E I hf st hg
    subst hP hw hK
    obtain ⟨f0,f1,f2,f3,f4,f5⟩:=hf it (by simp)
    exact wpAny_pyNext_range_end (I.ok.hd hc) st (by have:n≤i:=hg;omega) fun h' eb=>⟨rfl,I.turned (t':=s.toks) (fun b o hb e=>eb b o hb e) f0 f1 f3 f4 f5⟩
  self:=fun _ _ _ _ _ st h=>wpAny_pyIter_rangeiter st h
end L2
namespace L2
open PySem PySem.Spec PyProof.Rows
section
variable {X:Cx} {tg:Expr}
def iList (K:PySem.W.Frag) (tl:TE):TI:=fun σ H R=>tl σ H fun x H1=>∃a,x=.ref a∧(∃xs,SqL K H1 a xs)∧R (Itl K a) H1
def iTup (K:PySem.W.Frag) (tl:TE):TI:=fun σ H R=>tl σ H fun x H1=>∃a,x=.ref a∧(∃xs,SqT K H1 a xs)∧R (Itt K a) H1
theorem pi_list {l:Expr} {tl:TE} (hl:PE X l tl):PI X tg l (iList X.K tl):=by
  intro pins s σ H R I h
  refine thn (hl pins s σ H _ I h) fun v s1 ⟨x,H1,I1,r1,q1⟩=>?_
  obtain ⟨a,e,⟨xs,hq⟩,q⟩:=q1
  subst e
  cases r1
  obtain ⟨its,rv,p,hz⟩:=I1.list hq
  refine wpAny_pyIter_list p.isList ?_
  refine ⟨s1.heap.objs.size,[s1.heap.objs.size],_,_,H1,rfl,I1.kept (t':=s1.toks) fun b o e=>Heap.get?_push_of_some _ e,turn_list a _,⟨_,Heap.get?_push_size _ rfl,rfl,rfl⟩,fun b hb=>?_,q⟩
  have e:b=s1.heap.objs.size:=by simpa using hb
  subst e
  exact I1.fpOk (Nat.le_refl _) (I1.hok.fresh (Nat.le_refl _))
theorem pi_tup {l:Expr} {tl:TE} (hl:PE X l tl):PI X tg l (iTup X.K tl):=by
  intro pins s σ H R I h
  refine thn (hl pins s σ H _ I h) fun v s1 ⟨x,H1,I1,r1,q1⟩=>?_
  obtain ⟨a,e,⟨xs,hq⟩,q⟩:=q1
  subst e
  cases r1
  obtain ⟨its,rv,p,hz⟩:=I1.tuple hq
  refine wpAny_pyIter_tuple (show s1.heap.IsTuple a its.toArray from p) ?_
  refine ⟨s1.heap.objs.size,[s1.heap.objs.size],_,_,H1,rfl,I1.kept (t':=s1.toks) fun b o e=>Heap.get?_push_of_some _ e,turn_tuple a _,⟨_,Heap.get?_push_size _ rfl,rfl,rfl⟩,fun b hb=>?_,q⟩
  have e:b=s1.heap.objs.size:=by simpa using hb
  subst e
  exact I1.fpOk (Nat.le_refl _) (I1.hok.fresh (Nat.le_refl _))
theorem range_it {pins:List (Addr×Obj)} {σ:St} {H:Hp} {s:Shared} {R:It→Hp→Prop} {E:Value→Shared→Prop} {lo hi:Int} {t u v:Tok} {tk:Nat} (I:Inv X pins σ H s) (h1:-(2^62)≤lo) (h2:lo<2^62) (h3:-(2^62)≤hi) (h4:hi<2^62)
    (q:R (Itr lo (hi - lo).toNat) H):wpAny (model X.prog X.w) X.A (pyIter (.ref s.heap.objs.size)) (PIE X pins σ tg R) E { s with heap:=s.heap.push { cls:=.type "range",data:=.fields #[.int lo t,.int hi u,.int 1 v] },toks:=tk }:=by
  refine wpAny_pyIter_range (IsRange.new ..) (small_one h1 h2 h3 h4) ?_
  have I1:Inv X pins σ H { s with heap:=s.heap.push { cls:=.type "range",data:=.fields #[.int lo t,.int hi u,.int 1 v] },toks:=tk }:=I.kept fun b o e=>Heap.get?_push_of_some _ e
  refine ⟨(s.heap.push { cls:=.type "range",data:=.fields #[.int lo t,.int hi u,.int 1 v] }).objs.size,[(s.heap.push { cls:=.type "range",data:=.fields #[.int lo t,.int hi u,.int 1 v] }).objs.size],_,_,H,rfl,
    I1.kept (t':=tk) fun b o e=>Heap.get?_push_of_some _ e,turn_range _ lo (hi - lo).toNat,?_,fun b hb=>?_,q⟩
  · have e1:lo+((0:Nat):Int)*1=lo:=by simp
    have e2:(((hi - lo).toNat:Nat):Int) - ((0:Nat):Int)=Builtin.Range.rangeSize lo hi 1:=by rw [rangeSize_one];split <;> omega
    show IsRangeIter _ _ (lo+((0:Nat):Int)*1) ((((hi - lo).toNat:Nat):Int) - ((0:Nat):Int)) 1
    rw [e1,e2]
    exact Heap.get?_push_size _ rfl
  · have e:b=(s.heap.push { cls:=.type "range",data:=.fields #[.int lo t,.int hi u,.int 1 v] }).objs.size:=by simpa using hb
    subst e
    exact I1.fpOk (Nat.le_refl _) (I1.hok.fresh (Nat.le_refl _))
def iRng1 (ta:TA):TI:=fun σ H R=>ta σ H fun vs H1=>∃j:Int,vs=[.int j]∧-(2^62)≤j∧j<2^62∧R (Itr 0 j.toNat) H1
def iRng2 (ta:TA):TI:=fun σ H R=>ta σ H fun vs H1=>∃i j:Int,vs=[.int i,.int j]∧(-(2^62)≤i∧i<2^62∧-(2^62)≤j∧j<2^62)∧R (Itr i (j - i).toNat) H1
theorem pi_range1 {a:Expr} {ta:TA} {p pos:Pos} (hg:Gl X "range") (hm:X.mg "range" = none) (ha:PA X [a] ta) (hs:starEach [a] X.env=[(false,eval a X.env)]:=by rfl):PI X tg (.Call (.Name "range" p) [a] [] pos) (iRng1 ta):=by
  intro pins s σ H R I h
  refine Call_ (ld_blt I hg hm boot_range (PyProof.Rows.callWith_type1 (thn (ha pos pins s σ H _ I h) fun us s1 ⟨vs,H1,I1,r1,q1⟩=>?_) hs rfl))
  obtain ⟨j,e,q1,q2,q⟩:=q1
  subst e
  cases r1 with
  | cons r rr =>
    cases rr
    obtain ⟨t,rfl⟩:=r
    exact call_range_1 (range_it I1 (by omega) (by omega) q1 q2 (by simpa using q))
theorem pi_range2 {a b:Expr} {ta:TA} {p pos:Pos} (hg:Gl X "range") (hm:X.mg "range" = none) (ha:PA X [a,b] ta) (hs:starEach [a,b] X.env=[(false,eval a X.env),(false,eval b X.env)]:=by rfl) (hs2:starEach [b] X.env=[(false,eval b X.env)]:=by rfl) :
    PI X tg (.Call (.Name "range" p) [a,b] [] pos) (iRng2 ta):=by
  intro pins s σ H R I h
  refine Call_ (ld_blt I hg hm boot_range (PyProof.Rows.callWith_type1 (thn (ha pos pins s σ H _ I h) fun us s1 ⟨vs,H1,I1,r1,q1⟩=>?_) (by rw [hs,hs2]) (by rw [hs2];rfl)))
  obtain ⟨i,j,e,⟨q1,q2,q3,q4⟩,q⟩:=q1
  subst e
  cases r1 with
  | cons r rr =>
    cases rr with
    | cons r' rr =>
      cases rr
      obtain ⟨t,rfl⟩:=r
      obtain ⟨t',rfl⟩:=r'
      exact call_range_2 (range_it I1 q1 q2 q3 q4 q)
def tFor (wi:TI) (g:TG) (tb:TS):TS:=fun D σ H=>wi σ H fun J H1=>∃W:Nat→Nat→St→Hp→Prop,(∃m,W 0 m σ H1)∧∀i m σ H,W i m σ H →
  (J.stop i H∧D.nx σ H)∨(J.go i H∧∃N:St→Hp→Prop,(∀σ' H',N σ' H'→∃m',m'<m∧W (i+1) m' σ' H')∧∀x H',J.yld i H x H'→g x σ H' fun σ2 H2=>tb { D with nx:=N,ct:=N,bk:=D.nx } σ2 H2)
def pinsAt (fp:List Addr) (h:Heap):List (Addr×Obj):=fp.filterMap fun b=>(h.get? b).map fun o=>(b,o)
theorem mem_pinsAt {fp:List Addr} {h:Heap} {b:Addr} {o:Obj} (hb:b∈fp) (e:h.get? b=some o):(b,o)∈pinsAt fp h:=List.mem_filterMap.mpr ⟨b,hb,by rw [e];rfl⟩
theorem of_pinsAt {fp:List Addr} {h:Heap} {p:Addr×Obj} (hp:p∈pinsAt fp h):p.1∈fp∧h.get? p.1=some p.2:=by
  obtain ⟨b,hb,e⟩:=List.mem_filterMap.mp hp
  cases q:h.get? b with
  | none=>rw [q] at e;cases e
  | some o =>
    rw [q] at e
    have e':(b,o)=p:=Option.some.inj e
    subst e'
    exact ⟨hb,q⟩
theorem Inv.pinned {pins:List (Addr×Obj)} {σ:St} {H:Hp} {s:Shared} {fp:List Addr} (I:Inv X pins σ H s) (hf:∀b∈fp,FpOk X pins H b) (ho:∀b∈fp,∃o,s.heap.get? b=some o∧∀v,o.data≠.cell v):Inv X (pins++pinsAt fp s.heap) σ H s :=
  I.pins_of fun p hp=>(List.mem_append.mp hp).elim (fun z=>I.pin p (List.mem_append_right _ z)) fun z=>by
    obtain ⟨hb,e⟩:=of_pinsAt z
    obtain ⟨f0,f1,f2,_⟩:=hf p.1 hb
    obtain ⟨o,e',d⟩:=ho p.1 hb
    rw [e] at e';cases e'
    exact ⟨e,f0,f1,f2,d⟩
theorem Inv.unpinned {pins pl:List (Addr×Obj)} {σ:St} {H:Hp} {s:Shared} (I:Inv X (pins++pl) σ H s):Inv X pins σ H s:=I.pins_of fun p hp=>I.pin p (List.mem_append_right _ (List.mem_append_left _ hp))
theorem ps_for {iter:Expr} {body:List Stmt} {wi:TI} {g:TG} {tb:TS} {pos:Pos} (hp:PassesOwn (model X.prog X.w) X.A X.env X.xe) (hc:X.calm=true) (hi:PI X tg iter wi) (hg:PG X tg g) (hb:PSs X body tb)
    (hs:∀x,foldedSetIterable iter X.env x=pure x:=by intro _;rfl):PS X (.For tg iter body [] pos) (tFor wi g tb):=by
  intro pins s σ H D I h
  refine wpAny_For (thn (hi pins s σ H _ I h) fun v s1 h1=>thn h1 fun itv s2 h2=>?_) hs
  obtain ⟨it,fp,tn,J,H2,e,I2,T,st2,f2,W,⟨m0,w0⟩,turn⟩:=h2
  subst e
  -- what stays true of the iterator's objects through the loop
  have stat:∀{H':Hp},(∀b∈fp,H' b=none)→∀b∈fp,FpOk X pins H' b:=fun hn b hb=>⟨hn b hb,(f2 b hb).2⟩
  refine codeAny_forLoop_any (fun n s'=>∃i σ' H',Inv X pins σ' H' s'∧tn i s'.heap∧(∀b∈fp,H' b=none)∧W i n σ' H') ?_ m0 ⟨0,σ,H2,I2,st2,fun b hb=>(f2 b hb).1,w0⟩
  rintro n s3 ⟨i,σ3,H3,I3,st3,fr3,w3⟩
  rcases turn i n σ3 H3 w3 with ⟨stop,qn⟩ | ⟨go,N,hN,step⟩
  · refine wpAny_passesOwn hp (thn (T.done X rfl rfl rfl hc i pins s3 σ3 H3 X.xe I3 (stat fr3) st3 stop) fun r s4 ⟨hr,I4⟩=>?_)
    subst hr
    exact wpAny_execs_nil ⟨σ3,H3,I4,qn⟩
  · refine wpAny_passesOwn hp (thn (T.item X rfl rfl rfl hc i pins s3 σ3 H3 X.xe I3 (stat fr3) st3 go) fun r s4 ⟨u,hr,h4⟩=>?_)
    subst hr
    refine wpAny_passesOwn hp (thn h4 fun _ s5 ⟨x,H5,I5,r5,y5,st5,fr5⟩=>?_)
    have I5':=I5.pinned (stat fr5) (T.obj _ _ st5)
    refine wpAny_passesOwn hp (thn (hg _ s5 σ3 H5 x u _ I5' r5 (step x H5 y5)) fun _ s6 ⟨σ6,H6,I6,q6⟩=>?_)
    refine wpAny_passesOwn hp (thn (hb _ s6 σ6 H6 _ I6 q6) fun f s7 q7=>?_)
    have again:∀{σ7:St} {H7:Hp},Inv X (pins++pinsAt fp s5.heap) σ7 H7 s7→N σ7 H7→∃m,m<n∧∃i σ' H',Inv X pins σ' H' s7∧tn i s7.heap∧(∀b∈fp,H' b=none)∧W i m σ' H':=fun {σ7 H7} I7 n7=>by
      obtain ⟨m',hm,w7⟩:=hN σ7 H7 n7
      refine ⟨m',hm,i+1,σ7,H7,I7.unpinned,T.keep _ _ _ st5 fun b hb o e=>(I7.pin (b,o) (List.mem_append_right _ (List.mem_append_right _ (mem_pinsAt hb e)))).1,fun b hb=>?_,w7⟩
      obtain ⟨o,e,d⟩:=T.obj _ _ st5 b hb
      exact (I7.pin (b,o) (List.mem_append_right _ (List.mem_append_right _ (mem_pinsAt hb e)))).2.1
    cases f with
    | next=>obtain ⟨σ7,H7,I7,n7⟩:=q7;exact again I7 n7
    | cont=>obtain ⟨σ7,H7,I7,n7⟩:=q7;exact again I7 n7
    | brk=>obtain ⟨σ7,H7,I7,q7⟩:=q7;exact ⟨σ7,H7,I7.unpinned,q7⟩
    | ret v=>obtain ⟨x7,σ7,H7,I7,r7,q7⟩:=q7;exact ⟨x7,σ7,H7,I7.unpinned,r7,q7⟩
end
theorem for_list {K:PySem.W.Frag} {a:Addr} {xs:List V} {g:TG} {tb:TS} {D:Ends} {σ:St} {H:Hp} (Pv:Nat→St→Hp→Prop) (h0:Pv 0 σ H) (hl:∀i σ H,i≤xs.length→Pv i σ H→SqL K H a xs)
    (hs:∀i x σ H,xs[i]?=some x→Pv i σ H→g x σ H fun σ2 H2=>tb { D with nx:=Pv (i+1),ct:=Pv (i+1),bk:=D.nx } σ2 H2) (hd:∀σ H,Pv xs.length σ H→D.nx σ H) :
    ∃W:Nat→Nat→St→Hp→Prop,(∃m,W 0 m σ H)∧∀i m σ H,W i m σ H →
      ((Itl K a).stop i H∧D.nx σ H)∨((Itl K a).go i H∧∃N:St→Hp→Prop,(∀σ' H',N σ' H'→∃m',m'<m∧W (i+1) m' σ' H')∧∀x H',(Itl K a).yld i H x H'→g x σ H' fun σ2 H2=>tb { D with nx:=N,ct:=N,bk:=D.nx } σ2 H2):=by
  refine ⟨fun i m σ H=>m=xs.length - i∧i≤xs.length∧Pv i σ H,⟨xs.length,by simp,Nat.zero_le _,h0⟩,?_⟩
  rintro i m σ H ⟨rfl,hi,p⟩
  have q:=hl i σ H hi p
  by_cases hlt:i<xs.length
  · refine .inr ⟨⟨xs,xs[i],q,by simp [hlt]⟩,Pv (i+1),fun σ' H' p'=>⟨xs.length - (i+1),by omega,rfl,hlt,p'⟩,fun x H' y=>?_⟩
    obtain ⟨e,y⟩:=y
    subst e
    exact hs i x σ _ (y xs q) p
  · have e:i=xs.length:=by omega
    subst e
    exact .inl ⟨⟨xs,q,Nat.le_refl _⟩,hd σ H p⟩
theorem for_tup {K:PySem.W.Frag} {a:Addr} {xs:List V} {g:TG} {tb:TS} {D:Ends} {σ:St} {H:Hp} (Pv:Nat→St→Hp→Prop) (h0:Pv 0 σ H) (hl:∀i σ H,i≤xs.length→Pv i σ H→SqT K H a xs)
    (hs:∀i x σ H,xs[i]?=some x→Pv i σ H→g x σ H fun σ2 H2=>tb { D with nx:=Pv (i+1),ct:=Pv (i+1),bk:=D.nx } σ2 H2) (hd:∀σ H,Pv xs.length σ H→D.nx σ H) :
    ∃W:Nat→Nat→St→Hp→Prop,(∃m,W 0 m σ H)∧∀i m σ H,W i m σ H →
      ((Itt K a).stop i H∧D.nx σ H)∨((Itt K a).go i H∧∃N:St→Hp→Prop,(∀σ' H',N σ' H'→∃m',m'<m∧W (i+1) m' σ' H')∧∀x H',(Itt K a).yld i H x H'→g x σ H' fun σ2 H2=>tb { D with nx:=N,ct:=N,bk:=D.nx } σ2 H2):=by
  refine ⟨fun i m σ H=>m=xs.length - i∧i≤xs.length∧Pv i σ H,⟨xs.length,by simp,Nat.zero_le _,h0⟩,?_⟩
  rintro i m σ H ⟨rfl,hi,p⟩
  have q:=hl i σ H hi p
  by_cases hlt:i<xs.length
  · refine .inr ⟨⟨xs,xs[i],q,by simp [hlt]⟩,Pv (i+1),fun σ' H' p'=>⟨xs.length - (i+1),by omega,rfl,hlt,p'⟩,fun x H' y=>?_⟩
    obtain ⟨e,y⟩:=y
    subst e
    exact hs i x σ _ (y xs q) p
  · have e:i=xs.length:=by omega
    subst e
    exact .inl ⟨⟨xs,q,Nat.le_refl _⟩,hd σ H p⟩
theorem for_range {lo:Int} {n:Nat} {g:TG} {tb:TS} {D:Ends} {σ:St} {H:Hp} (Pv:Nat→St→Hp→Prop) (h0:Pv 0 σ H)
    (hs:∀i σ H,i<n→Pv i σ H→g (.int (lo+i)) σ H fun σ2 H2=>tb { D with nx:=Pv (i+1),ct:=Pv (i+1),bk:=D.nx } σ2 H2) (hd:∀σ H,Pv n σ H→D.nx σ H) :
    ∃W:Nat→Nat→St→Hp→Prop,(∃m,W 0 m σ H)∧∀i m σ H,W i m σ H →
      ((Itr lo n).stop i H∧D.nx σ H)∨((Itr lo n).go i H∧∃N:St→Hp→Prop,(∀σ' H',N σ' H'→∃m',m'<m∧W (i+1) m' σ' H')∧∀x H',(Itr lo n).yld i H x H'→g x σ H' fun σ2 H2=>tb { D with nx:=N,ct:=N,bk:=D.nx } σ2 H2):=by
  refine ⟨fun i m σ H=>m=n - i∧i≤n∧Pv i σ H,⟨n,by simp,Nat.zero_le _,h0⟩,?_⟩
  rintro i m σ H ⟨rfl,hi,p⟩
  by_cases hlt:i<n
  · refine .inr ⟨hlt,Pv (i+1),fun σ' H' p'=>⟨n - (i+1),by omega,rfl,hlt,p'⟩,fun x H' y=>?_⟩
    obtain ⟨e,y⟩:=y
    subst e y
    exact hs i σ _ hlt p
  · have e:i=n:=by omega
    subst e
    exact .inl ⟨Nat.le_refl _,hd σ H p⟩
end L2
namespace L2
open PySem PySem.Spec PyProof.Rows
abbrev R2:=V→V→Hp→VK→Prop
def OpR (X:Cx) (f:Value→Value→Sem Value) (r:R2):Prop :=
  ∀(pins:List (Addr×Obj)) (s:Shared) (σ:St) (H:Hp) (x y:V) (v u:Value) (Q:VK),Inv X pins σ H s→RelV x v→RelV y u→r x y H Q →
    wpAny (model X.prog X.w) X.A (f v u) (EP X pins σ Q) X.xe s
def UnR (X:Cx) (f:Value→Sem Value) (r:V→Hp→VK→Prop):Prop :=
  ∀(pins:List (Addr×Obj)) (s:Shared) (σ:St) (H:Hp) (x:V) (v:Value) (Q:VK),Inv X pins σ H s→RelV x v→r x H Q →
    wpAny (model X.prog X.w) X.A (f v) (EP X pins σ Q) X.xe s
def CallR (X:Cx) (f:Value) (r:List V→Hp→VK→Prop):Prop :=
  ∀(pins:List (Addr×Obj)) (s:Shared) (σ:St) (H:Hp) (xs:List V) (us:List Value) (Q:VK),Inv X pins σ H s→Vals xs us→r xs H Q →
    wpAny (model X.prog X.w) X.A (call f us) (EP X pins σ Q) X.xe s
def tOp (r:R2) (ta tb:TE):TE:=fun σ H Q=>ta σ H fun x H1=>tb σ H1 fun y H2=>r x y H2 Q
def tUn (r:V→Hp→VK→Prop) (ta:TE):TE:=fun σ H Q=>ta σ H fun x H1=>r x H1 Q
def rI (C:Int→Int→Prop) (g:Int→Int→V):R2:=fun x y H Q=>∃i j,x=.int i∧y=.int j∧C i j∧Q (g i j) H
def rI0 (g:Int→Int→V):R2:=fun x y H Q=>∃i j,x=.int i∧y=.int j∧Q (g i j) H
def rU (g:Int→V):V→Hp→VK→Prop:=fun x H Q=>∃i,x=.int i∧Q (g i) H
section
variable {X:Cx} {a b c:Expr} {ta tb tc:TE} {pos:Pos}
theorem binT (ha:PE X a ta) (hb:PE X b tb) {pins:List (Addr×Obj)} {s:Shared} {σ:St} {H:Hp} {R:V→V→Hp→Prop} (I:Inv X pins σ H s)
    (h:ta σ H fun x H1=>tb σ H1 fun y H2=>R x y H2) {Q:Value→Shared→Prop} {f:Value→Value→Sem Value}
    (hf:∀v u s2 x y H2,Inv X pins σ H2 s2→RelV x v→RelV y u→R x y H2→wpAny (model X.prog X.w) X.A (f v u) Q X.xe s2) :
    wpAny (model X.prog X.w) X.A (eval a X.env) (fun v s₁=>wpAny (model X.prog X.w) X.A (eval b X.env) (fun u s₂=>wpAny (model X.prog X.w) X.A (f v u) Q X.xe s₂) X.xe s₁) X.xe s:=by
  refine thn (ha pins s σ H _ I h) fun v s1 ⟨x,H1,I1,r1,q1⟩=>?_
  refine thn (hb pins s1 σ H1 _ I1 q1) fun u s2 ⟨y,H2,I2,r2,q2⟩=>?_
  exact hf v u s2 x y H2 I2 r1 r2 q2
theorem pe_op {op:Operator} {r:R2} (ho:OpR X (binaryOp op) r) (ha:PE X a ta) (hb:PE X b tb):PE X (.BinOp a op b pos) (tOp r ta tb):=by
  intro pins s σ H Q I h
  exact wpAny_BinOp (binT ha hb I h fun v u s2 x y H2 I2 rx ry q=>ho pins s2 σ H2 x y v u Q I2 rx ry q)
theorem pe_un {op:UnaryOp} {r:V→Hp→VK→Prop} (ho:UnR X (unaryOp op) r) (ha:PE X a ta):PE X (.UnaryOp op a pos) (tUn r ta):=by
  intro pins s σ H Q I h
  exact UnaryOp_ (thn (ha pins s σ H _ I h) fun v s1 ⟨x,H1,I1,r1,q1⟩=>ho pins s1 σ H1 x v Q I1 r1 q1)
theorem opI {f:Value→Value→Sem Value} {C:Int→Int→Prop} {g:Int→Int→Int}
    (rule:∀(i j:Int) (t u:Tok) (s:Shared) (Q:Value→Shared→Prop) (E:Value→Shared→Prop),C i j→Q (.int (g i j) s.toks) { s with toks:=s.toks+1 }→wpAny (model X.prog X.w) X.A (f (.int i t) (.int j u)) Q E s) :
    OpR X f (rI C fun i j=>.int (g i j)):=by
  intro pins s σ H x y v u Q I rx ry h
  obtain ⟨i,j,rfl,rfl,hc,q⟩:=h
  obtain ⟨t,rfl⟩:=rx
  obtain ⟨t',rfl⟩:=ry
  exact rule i j t t' s _ _ hc ⟨.int (g i j),H,I.tok _,⟨_,rfl⟩,q⟩
theorem opI0 {f:Value→Value→Sem Value} {g:Int→Int→Int}
    (rule:∀(i j:Int) (t u:Tok) (s:Shared) (Q:Value→Shared→Prop) (E:Value→Shared→Prop),Q (.int (g i j) s.toks) { s with toks:=s.toks+1 }→wpAny (model X.prog X.w) X.A (f (.int i t) (.int j u)) Q E s) :
    OpR X f (rI0 fun i j=>.int (g i j)):=by
  intro pins s σ H x y v u Q I rx ry h
  obtain ⟨i,j,rfl,rfl,q⟩:=h
  obtain ⟨t,rfl⟩:=rx
  obtain ⟨t',rfl⟩:=ry
  exact rule i j t t' s _ _ ⟨.int (g i j),H,I.tok _,⟨_,rfl⟩,q⟩
theorem opB0 {f:Value→Value→Sem Value} {g:Int→Int→Bool}
    (rule:∀(i j:Int) (t u:Tok) (s:Shared) (Q:Value→Shared→Prop) (E:Value→Shared→Prop),Q (.bool (g i j)) s→wpAny (model X.prog X.w) X.A (f (.int i t) (.int j u)) Q E s) :
    OpR X f (rI0 fun i j=>.bl (g i j)):=by
  intro pins s σ H x y v u Q I rx ry h
  obtain ⟨i,j,rfl,rfl,q⟩:=h
  obtain ⟨t,rfl⟩:=rx
  obtain ⟨t',rfl⟩:=ry
  exact rule i j t t' s _ _ ⟨.bl (g i j),H,I,rfl,q⟩
def CDiv (i j:Int):Prop:=0<j∧j<1073741824
def CPow (i j:Int):Prop:=0≤j∧j≤1000000∧i.natAbs<2^64
def CMul (i j:Int):Prop:=(-(2^64)<i∧i<2^64)∨(-(2^64)<j∧j<2^64)
theorem CMul.ok {i j:Int} (h:CMul i j):IntMulOk i j:=by
  rcases h with ⟨h1,h2⟩ | ⟨h1,h2⟩
  · exact .of_left (intBits_le_64 h1 h2)
  · exact .of_right (intBits_le_64 h1 h2)
theorem op_add:OpR X (binaryOp .Add) (rI0 fun i j=>.int (i+j)):=opI0 fun _ _ _ _ _ _ _ q=>add_int q
theorem op_sub:OpR X (binaryOp .Sub) (rI0 fun i j=>.int (i - j)):=opI0 fun _ _ _ _ _ _ _ q=>sub_int q
theorem op_mul:OpR X (binaryOp .Mult) (rI CMul fun i j=>.int (i*j)):=opI fun _ _ _ _ _ _ _ hc q=>mul_int q hc.ok
theorem op_fdiv:OpR X (binaryOp .FloorDiv) (rI CDiv fun i j=>.int (i / j)):=opI fun i j _ _ _ _ _ hc q=>by
  have h1:(0:Int)<j:=hc.1
  have h2:j<1073741824:=hc.2
  exact floordiv_int (by omega) (by rw [Int.fdiv_eq_ediv_of_nonneg i (by omega)];exact q) (.inl (PyProof.noPylong_small (by omega)))
theorem op_mod:OpR X (binaryOp .Mod) (rI (fun _ j=>0<j) fun i j=>.int (i % j)):=opI fun i j _ _ _ _ _ hc q=>by
  have h1:(0:Int)<j:=hc
  exact mod_int' (by omega) (by rw [Int.fmod_eq_emod_of_nonneg i (by omega)];exact q)
theorem op_modN:OpR X (binaryOp .Mod) (rI (fun _ j=>j≠0) fun i j=>.int (i.fmod j)):=opI fun _ _ _ _ _ _ _ hc q=>mod_int' hc q
theorem op_pow:OpR X (binaryOp .Pow) (rI CPow fun i j=>.int (i^j.toNat)):=opI fun _ _ _ _ _ _ _ hc q=>pow_int_small hc.1 hc.2.1 hc.2.2 q
theorem unI {f:Value→Sem Value} {g:Int→Int}
    (rule:∀(i:Int) (t:Tok) (s:Shared) (Q:Value→Shared→Prop) (E:Value→Shared→Prop),Q (.int (g i) s.toks) { s with toks:=s.toks+1 }→wpAny (model X.prog X.w) X.A (f (.int i t)) Q E s) :
    UnR X f (rU fun i=>.int (g i)):=by
  intro pins s σ H x v Q I rx h
  obtain ⟨i,rfl,q⟩:=h
  obtain ⟨t,rfl⟩:=rx
  exact rule i t s _ _ ⟨.int (g i),H,I.tok _,⟨_,rfl⟩,q⟩
theorem un_neg:UnR X (unaryOp .USub) (rU fun i=>.int (-i)):=unI fun _ _ _ _ _ q=>neg_int q
end
def scal:V→V→Bool
  | .non,.non=>true | .non,.int _=>true | .int _,.non=>true | .non,.bl _=>true | .bl _,.non=>true | .non,.str _=>true | .str _,.non=>true
  | .int _,.int _=>true | .bl _,.bl _=>true | .str _,.str _=>true | .byt _,.byt _=>true
  | .int _,.str _=>true | .str _,.int _=>true | .bl _,.str _=>true | .str _,.bl _=>true
  | _,_=>false
def rEq:R2:=fun x y H Q=>scal x y=true∧Q (.bl (decide (x=y))) H
def rNe:R2:=fun x y H Q=>scal x y=true∧Q (.bl (!decide (x=y))) H
theorem dec_int {i j:Int}:decide (V.int i=V.int j)=(i == j):=by
  rw [Bool.eq_iff_iff]
  simp
theorem dec_bl {i j:Bool}:decide (V.bl i=V.bl j)=(i == j):=by
  rw [Bool.eq_iff_iff]
  simp
theorem dec_str {i j:Str}:decide (V.str i=V.str j)=(i == j):=by
  rw [Bool.eq_iff_iff]
  simp
theorem dec_byt {i j:Array UInt8}:decide (V.byt i=V.byt j)=(i.toList == j.toList):=by
  rw [Bool.eq_iff_iff]
  cases i
  cases j
  simp
section
variable {X:Cx} {a b c:Expr} {ta tb tc:TE} {pos:Pos}
theorem fin_bl {pins:List (Addr×Obj)} {σ:St} {H:Hp} {s:Shared} {Q:VK} {k k':Bool} (I:Inv X pins σ H s) (q:Q (.bl k) H) (e:k=k'):EP X pins σ Q (.bool k') s:=by
  subst e
  exact ⟨.bl k,H,I,rfl,q⟩
theorem op_eq:OpR X (compareOp .Eq) rEq:=by
  intro pins s σ H x y v u Q I rx ry h
  obtain ⟨hs,q⟩:=h
  cases x with
  | non =>
    cases rx
    cases y with
    | non=>cases ry;exact PySem.EqNone.eq_none_none (fin_bl I q (by simp))
    | bl j=>cases ry;exact PySem.EqNone.eq_none_bool (fin_bl I q (by simp))
    | int j=>obtain ⟨t',rfl⟩:=ry;exact PySem.EqNone.eq_none_int (fin_bl I q (by simp))
    | str j=>obtain ⟨t',rfl⟩:=ry;exact PySem.EqNone.eq_none_str (fin_bl I q (by simp))
    | _=>exact absurd (show false=true from hs) Bool.false_ne_true
  | bl i =>
    cases rx
    cases y with
    | non=>cases ry;exact PySem.EqNone.eq_bool_none (fin_bl I q (by simp))
    | bl j=>cases ry;exact eq_bool (fin_bl I q dec_bl)
    | str j=>obtain ⟨t',rfl⟩:=ry;exact PySem.EqMixed.eq_bool_str (fin_bl I q (by simp))
    | _=>exact absurd (show false=true from hs) Bool.false_ne_true
  | int i =>
    obtain ⟨t,rfl⟩:=rx
    cases y with
    | non=>cases ry;exact PySem.EqNone.eq_int_none (fin_bl I q (by simp))
    | int j=>obtain ⟨t',rfl⟩:=ry;exact eq_int (fin_bl I q dec_int)
    | str j=>obtain ⟨t',rfl⟩:=ry;exact PySem.EqMixed.eq_int_str (fin_bl I q (by simp))
    | _=>exact absurd (show false=true from hs) Bool.false_ne_true
  | str i =>
    obtain ⟨t,rfl⟩:=rx
    cases y with
    | non=>cases ry;exact PySem.EqNone.eq_str_none (fin_bl I q (by simp))
    | bl j=>cases ry;exact PySem.EqMixed.eq_str_bool (fin_bl I q (by simp))
    | int j=>obtain ⟨t',rfl⟩:=ry;exact PySem.EqMixed.eq_str_int (fin_bl I q (by simp))
    | str j=>obtain ⟨t',rfl⟩:=ry;exact eq_str (fin_bl I q dec_str)
    | _=>exact absurd (show false=true from hs) Bool.false_ne_true
  | byt i =>
    obtain ⟨t,rfl⟩:=rx
    cases y with
    | byt j=>obtain ⟨t',rfl⟩:=ry;exact PySem.W.eq_bytes (fin_bl I q dec_byt)
    | _=>exact absurd (show false=true from hs) Bool.false_ne_true
  | _=>cases y <;> exact absurd (show false=true from hs) Bool.false_ne_true
theorem op_ne:OpR X (compareOp .NotEq) rNe:=by
  intro pins s σ H x y v u Q I rx ry h
  obtain ⟨hs,q⟩:=h
  cases x with
  | non =>
    cases rx
    cases y with
    | non=>cases ry;exact PySem.EqNone.ne_none_none (fin_bl I q (by simp))
    | bl j=>cases ry;exact PySem.EqNone.ne_none_bool (fin_bl I q (by simp))
    | int j=>obtain ⟨t',rfl⟩:=ry;exact PySem.EqNone.ne_none_int (fin_bl I q (by simp))
    | str j=>obtain ⟨t',rfl⟩:=ry;exact PySem.EqNone.ne_none_str (fin_bl I q (by simp))
    | _=>exact absurd (show false=true from hs) Bool.false_ne_true
  | bl i =>
    cases rx
    cases y with
    | non=>cases ry;exact PySem.EqNone.ne_bool_none (fin_bl I q (by simp))
    | bl j=>cases ry;exact ne_bool (fin_bl I q (congrArg not dec_bl))
    | str j=>obtain ⟨t',rfl⟩:=ry;exact PySem.EqMixed.ne_bool_str (fin_bl I q (by simp))
    | _=>exact absurd (show false=true from hs) Bool.false_ne_true
  | int i =>
    obtain ⟨t,rfl⟩:=rx
    cases y with
    | non=>cases ry;exact PySem.EqNone.ne_int_none (fin_bl I q (by simp))
    | int j=>obtain ⟨t',rfl⟩:=ry;exact ne_int (fin_bl I q (congrArg not dec_int))
    | str j=>obtain ⟨t',rfl⟩:=ry;exact PySem.EqMixed.ne_int_str (fin_bl I q (by simp))
    | _=>exact absurd (show false=true from hs) Bool.false_ne_true
  | str i =>
    obtain ⟨t,rfl⟩:=rx
    cases y with
    | non=>cases ry;exact PySem.EqNone.ne_str_none (fin_bl I q (by simp))
    | bl j=>cases ry;exact PySem.EqMixed.ne_str_bool (fin_bl I q (by simp))
    | int j=>obtain ⟨t',rfl⟩:=ry;exact PySem.EqMixed.ne_str_int (fin_bl I q (by simp))
    | str j=>obtain ⟨t',rfl⟩:=ry;exact ne_str (fin_bl I q (congrArg not dec_str))
    | _=>exact absurd (show false=true from hs) Bool.false_ne_true
  | byt i =>
    obtain ⟨t,rfl⟩:=rx
    cases y with
    | byt j=>obtain ⟨t',rfl⟩:=ry;exact PySem.W.ne_bytes (fin_bl I q (congrArg not dec_byt))
    | _=>exact absurd (show false=true from hs) Bool.false_ne_true
  | _=>cases y <;> exact absurd (show false=true from hs) Bool.false_ne_true
theorem op_lt:OpR X (compareOp .Lt) (rI0 fun i j=>.bl (decide (i<j))):=opB0 fun _ _ _ _ _ _ _ q=>lt_int q
theorem op_le:OpR X (compareOp .LtE) (rI0 fun i j=>.bl (decide (i≤j))):=opB0 fun _ _ _ _ _ _ _ q=>le_int q
theorem op_gt:OpR X (compareOp .Gt) (rI0 fun i j=>.bl (decide (j<i))):=opB0 fun _ _ _ _ _ _ _ q=>gt_int q
theorem op_ge:OpR X (compareOp .GtE) (rI0 fun i j=>.bl (decide (j≤i))):=opB0 fun _ _ _ _ _ _ _ q=>ge_int q
theorem nomark (b:Expr) {op:CmpOp} (h:op≠.In:=by decide) (h2:op≠.NotIn:=by decide):behindInMarks op b=false:=by
  have e1:(op == CmpOp.In)=false:=by cases op <;> first | rfl | exact absurd rfl h
  have e2:(op == CmpOp.NotIn)=false:=by cases op <;> first | rfl | exact absurd rfl h2
  cases b <;> simp [behindInMarks,e1,e2]
theorem pe_cmpR {op:CmpOp} {r:R2} (ho:OpR X (compareOp op) r) (ha:PE X a ta) (hb:PE X b tb) (hm:behindInMarks op b=false):PE X (.Compare a [op] [b] pos) (tOp r ta tb):=by
  intro pins s σ H Q I h
  exact wpAny_Compare1 (binT ha hb I h fun v u s2 x y H2 I2 rx ry q=>ho pins s2 σ H2 x y v u Q I2 rx ry q) hm
def tTest (t:TE):TT:=fun σ H Q=>t σ H fun x H'=>∃k,x=.bl k∧Q k H'
theorem pt_cmpR {op:CmpOp} {r:R2} (ho:OpR X (compareOp op) r) (ha:PE X a ta) (hb:PE X b tb) (hm:behindInMarks op b=false):PT X (.Compare a [op] [b] pos) (tTest (tOp r ta tb)):=by
  intro pins s σ H Q I h
  refine wpAny_isTrue_Compare1 (thn (ha pins s σ H _ I h) fun v s1 ⟨x,H1,I1,r1,q1⟩=>thn (hb pins s1 σ H1 _ I1 q1) fun u s2 ⟨y,H2,I2,r2,q2⟩ =>
    thn (ho pins s2 σ H2 x y v u _ I2 r1 r2 q2) fun c s3 ⟨z,H3,I3,r3,k,e,q3⟩=>?_) hm
  subst e
  cases r3
  exact wpAny_truthy_bool ⟨H3,I3,q3⟩
theorem line63:(sizeLine:Nat)<2^63:=by rw [sizeLine_eq];decide
theorem vals1 {x:V} {us:List Value} (r:Vals [x] us):∃u,us=[u]∧RelV x u:=by
  cases r with
  | cons r1 r2=>cases r2;exact ⟨_,rfl,r1⟩
theorem vals2 {x y:V} {us:List Value} (r:Vals [x,y] us):∃u w',us=[u,w']∧RelV x u∧RelV y w':=by
  cases r with
  | cons r1 r2 =>
    cases r2 with
    | cons r3 r4=>cases r4;exact ⟨_,_,rfl,r1,r3⟩
theorem call_min2 (hc:X.calm=true):CallR X (.builtin "min") (fun xs H Q=>∃i j,xs=[.int i,.int j]∧Q (.int (if j<i then j else i)) H):=by
  intro pins s σ H xs us Q I r h
  obtain ⟨i,j,rfl,q⟩:=h
  obtain ⟨u,w',rfl,⟨t,rfl⟩,⟨t',rfl⟩⟩:=vals2 r
  refine min_two_ints (I.ok.hd hc) fun h' tk k=>⟨_,H,I.kept k,?_,q⟩
  by_cases hj:j<i
  · rw [if_pos hj,if_pos hj];exact ⟨_,rfl⟩
  · rw [if_neg hj,if_neg hj];exact ⟨_,rfl⟩
end
end L2
namespace L2
open PySem PySem.Spec PyProof.Rows
structure ObjM (h:Heap) (x dx C:Addr) (mA:Str→Option Value):Prop where
  obj:h.get? x=some (PySem.W.instObj C dx)
  ns:h.Ns1 dx mA
  ne:dx≠x
theorem lookIn_ns {h:Heap} {dx:Addr} {mA:Str→Option Value} (n:h.Ns1 dx mA):∃od,h.get? dx=some od∧∀name,PySem.W.lookIn name od=some (mA name):=by
  obtain ⟨o,es,ep,ho,hd,hk,_,hm⟩:=n
  refine ⟨o,ho,fun name=>?_⟩
  have e:=hm name
  unfold nsFind findBy at e
  rw [←Array.find?_toList] at e
  unfold PySem.W.lookIn
  rw [hd]
  dsimp only
  split
  · rename_i y q
    rw [q] at e
    exact congrArg some e
  · rename_i q
    rw [q] at e
    have a:es.toList.any (·.refKey)=false:=by
      rw [List.any_eq_false]
      intro y hy
      obtain ⟨z,t,hkey⟩:=hk y (Array.mem_toList_iff.mp hy)
      simp [DictEntry.refKey,hkey]
    have a':¬ es.toList.any (·.refKey)=true:=by rw [a];exact Bool.false_ne_true
    rw [if_neg a']
    exact congrArg some e
theorem ObjM.look {h:Heap} {x dx C:Addr} {mA:Str→Option Value} (I:ObjM h x dx C mA):∃od,PySem.W.InstAt h x (PySem.W.instObj C dx) C (some od)∧∀name,PySem.W.lookIn name od=some (mA name) :=
  let ⟨od,ho,hl⟩:=lookIn_ns I.ns
  ⟨od,⟨I.obj,rfl,rfl,ho⟩,hl⟩
section
variable {prog:Program} {w:World} {A:Around} {E:Value→Shared→Prop} {s:Shared} {K:PySem.W.Frag} {x dx C f:Addr} {mA:Str→Option Value} {name:Str} {v:Value}
theorem get_map {expr:Bool} {Q:Value→Shared→Prop} (X:K.In s.heap) (I:ObjM s.heap x dx C mA) (hg:PySem.W.plainGet K C name=true) (hh:PySem.W.hasDictIn K C=true)
    (ha:PySem.W.findIn K (.ref C) name=some none) (hv:mA name=some v) (hv':PySem.W.handedIn v=true) (h:Q v { s with toks:=s.toks+1 }) :
    wpAny (model prog w) A (getAttr (.ref x) name expr) Q E s:=by
  obtain ⟨od,J,hl⟩:=I.look
  exact PySem.W.get_value X J (PySem.W.plainGet_of hg).1 (PySem.W.findObj_own hh ha rfl (by rw [hl,hv])) hv' h
theorem get_meth {pl:Sem Bool} {Q:Value×List Value→Shared→Prop} (X:K.In s.heap) (I:ObjM s.heap x dx C mA) (hg:PySem.W.plainGet K C name=true)
    (hf:PySem.W.findIn K (.ref C) name=some (some (.ref f))) (ht:PySem.W.isFn K (.ref f)=true) (hv:mA name=none) (h:Q (.ref f,[.ref x]) s) :
    wpAny (model prog w) A (getMethod (.ref x) name pl) Q E s:=by
  obtain ⟨od,J,hl⟩:=I.look
  exact PySem.W.method_fn X J (PySem.W.plainGet_of hg).1 (PySem.W.plainGet_of hg).2 hf (beq_iff_eq.mp ht) (by show (PySem.W.lookIn name od).map (·.isSome)=some false;rw [hl,hv];rfl) h
theorem set_map {ns:List Str} {Q:Unit→Shared→Prop} (X:K.In s.heap) (I:ObjM s.heap x dx C mA)
    (hs:PySem.W.findIn K (.ref C) "__setattr__" = some (some (.builtin "object.__setattr__"))) (hp:PySem.W.plainOver K C=true) (ht:PySem.W.takerIn K C name=some none) (hh:PySem.W.hasDictIn K C=true)
    (hw:PySem.Within mA ns) (hsz:ns.length≤sizeLine)
    (h:∀h',ObjM h' x dx C (fun y=>if y=name then some v else mA y)→Heap.SameBut dx s.heap h'→Q () { s with heap:=h',toks:=s.toks+2 }) :
    wpAny (model prog w) A (setAttr (.ref x) name v) Q E s:=by
  obtain ⟨od,J,hl⟩:=I.look
  refine PySem.W.set_plain X J hs (PySem.W.osa_open (s:={ s with toks:=s.toks+1 }) (r:=none) X J hp ht fun b=>?_)
  obtain ⟨cd,hc,hd'⟩:=PySem.W.any_some hh
  have hx:s.heap.get? x=some ⟨.ref C,some dx,.plain,#[]⟩:=I.obj
  refine wpAny_bind (wpAny_pure (wpAny_bind (wpAny_bind (wpAny_loadPart hx (wpAny_bind (PySem.W.Looks.here (s:={ s with toks:=s.toks+1 }) (PySem.W.looks_clsIn X hc) ?_))))))
  rw [hd']
  refine wpAny_pure (a:=some dx) (wpAny_bind (wpAny_pure (wpAny_bind ?_)))
  refine wpAny_nsSet1 (s:={ s with toks:=s.toks+1 }) I.ns fun h' hn2 hs2=>?_
  obtain ⟨oD,esD,epD,hoD,hdD,hcD⟩:=hn2.count (PySem.Within.cons name v hw)
  refine wpAny_bind (wpAny_lookBehind hoD (by rw [hdD];exact pastItsLine_dict (Nat.le_trans hcD (by rw [List.length_cons];omega))) ?_)
  exact wpAny_pure (h _ ⟨(hs2.2 _ (Ne.symm I.ne)).trans I.obj,hn2,I.ne⟩ hs2)
theorem make_map {R:Result→Shared→Prop} {vs:List Value} {kw:List (Str×Value)} (X:K.In s.heap) (hm:PySem.W.makesIn K C=true)
    (hi:PySem.W.findIn K (.ref C) "__init__" = some (some (.ref f))) (hf:PySem.W.typeIn K (.ref f)=some (.type "function"))
    (h:codeAny (model prog w) (A.under (.builtin "type.__call__" ⟨.ref C::vs,kw⟩)) (.call (.ref f) ⟨.ref (s.heap.objs.size+1)::vs,kw⟩) (PySem.W.InitBack (s.heap.objs.size+1) R)
      { s with heap:=(s.heap.push PySem.W.emptyDict).push (PySem.W.instObj C s.heap.objs.size) }) :
    codeAny (model prog w) A (.call (.ref C) ⟨vs,kw⟩) R s:=by
  obtain ⟨hh,g,d,t,os⟩:=s
  exact PySem.W.make_core (PySem.W.makes_of X hm) (PySem.W.looks_findIn X hi) (fun self=>PySem.W.bind_fn X self hf) (.inl rfl) h
end
def putF (f:Str) (v:V):List (Str×V)→List (Str×V)
  | []=>[(f,v)]
  | (g,x)::r=>if g=f then (g,v)::r else (g,x)::putF f v r
theorem lookup_putF (f g:Str) (v:V):∀fs:List (Str×V),(putF f v fs).lookup g=if g=f then some v else fs.lookup g
  | []=>by
    show List.lookup g [(f,v)]=_
    by_cases h:g=f
    · have hb:(g == f)=true:=beq_iff_eq.mpr h
      simp only [List.lookup,hb,if_pos h]
    · have hb:(g == f)=false:=beq_eq_false_iff_ne.mpr h
      simp only [List.lookup,hb,if_neg h]
  | (k,x)::r=>by
    have ih:=lookup_putF f g v r
    rw [show putF f v ((k,x)::r)=(if k=f then (k,v)::r else (k,x)::putF f v r) from rfl]
    by_cases hk:k=f
    · rw [if_pos hk]
      by_cases h:g=k
      · have hb:(g == k)=true:=beq_iff_eq.mpr h
        simp only [List.lookup,hb,if_pos (h.trans hk)]
      · have hb:(g == k)=false:=beq_eq_false_iff_ne.mpr h
        simp only [List.lookup,hb,if_neg (fun e:g=f=>h (e.trans hk.symm))]
    · rw [if_neg hk]
      by_cases h:g=k
      · have hb:(g == k)=true:=beq_iff_eq.mpr h
        simp only [List.lookup,hb,if_neg (fun e:g=f=>hk (h.symm.trans e))]
      · have hb:(g == k)=false:=beq_eq_false_iff_ne.mpr h
        simp only [List.lookup,hb]
        exact ih
theorem keys_putF (f:Str) (v:V):∀fs:List (Str×V),f∈(putF f v fs).map (·.1)∧∀g,g∈fs.map (·.1)→g∈(putF f v fs).map (·.1)
  | []=>⟨by simp [putF],fun g h=>by simp at h⟩
  | (k,x)::r=>by
    obtain ⟨i1,i2⟩:=keys_putF f v r
    rw [show putF f v ((k,x)::r)=(if k=f then (k,v)::r else (k,x)::putF f v r) from rfl]
    by_cases hk:k=f
    · rw [if_pos hk]
      subst hk
      exact ⟨by simp,fun g h=>by simpa using h⟩
    · rw [if_neg hk]
      refine ⟨?_,fun g h=>?_⟩
      · rw [List.map_cons]
        exact List.mem_cons_of_mem _ i1
      · rw [List.map_cons] at h ⊢
        rcases List.mem_cons.mp h with e | e
        · exact List.mem_cons.mpr (.inl e)
        · exact List.mem_cons_of_mem _ (i2 g e)
theorem length_putF (f:Str) (v:V):∀fs:List (Str×V),(putF f v fs).length≤fs.length+1
  | []=>by simp [putF]
  | (k,x)::r=>by
    have ih:=length_putF f v r
    rw [show putF f v ((k,x)::r)=(if k=f then (k,v)::r else (k,x)::putF f v r) from rfl]
    by_cases hk:k=f
    · rw [if_pos hk,List.length_cons,List.length_cons];omega
    · rw [if_neg hk,List.length_cons,List.length_cons];omega
theorem RelO.some_of {v:V} {o:Option Value} (r:RelO (some v) o):∃u,o=some u∧RelV v u:=by
  cases o with
  | none=>exact (show False from r).elim
  | some u=>exact ⟨u,rfl,r⟩
theorem RelO.none_of {o:Option Value} (r:RelO none o):o=none:=by
  cases o with
  | none=>rfl
  | some u=>exact (show False from r).elim
theorem handed_of {v:V} {u:Value} (r:RelV v u):PySem.W.handedIn u=true:=by
  cases v with
  | non=>cases (show u=Value.none from r);rfl
  | bl b=>cases (show u=Value.bool b from r);rfl
  | int i=>obtain ⟨t,e⟩:=(show ∃t,u=Value.int i t from r);cases e;rfl
  | str x=>obtain ⟨t,e⟩:=(show ∃t,u=Value.str x t from r);cases e;rfl
  | byt b=>obtain ⟨t,e⟩:=(show ∃t,u=Value.bytes b t from r);cases e;rfl
  | flt b=>obtain ⟨t,e⟩:=(show ∃t,u=Value.float b t from r);cases e;rfl
  | ref a=>cases (show u=Value.ref a from r);rfl
  | ty n=>cases (show u=Value.type n from r);rfl
section
variable {P:Program} {w:World} {H H':Hp} {h h':Heap} {a C dx:Addr} {fs fs':List (Str×V)}
theorem ins_get (hok:HOk P w H h) (e:H a=some (.ins C dx fs)):∃mA,ObjM h a dx C mA∧(∀f,RelO (fs.lookup f) (mA f))∧PySem.Within mA (fs.map (·.1))∧fs.length≤1000∧H dx=some (.own a):=by
  obtain ⟨d,z,ne,ob,mA,n,r,q⟩:=(show ObjOk P w H h a (.ins C dx fs) from hok a _ e)
  exact ⟨mA,⟨ob,n,ne⟩,r,q,z,d⟩
end
structure Cls (K:PySem.W.Frag) (C:Addr):Prop where
  pg:PySem.W.plainGet K C Str.empty=true
  hd:PySem.W.hasDictIn K C=true
  po:PySem.W.plainOver K C=true
  sa:PySem.W.findIn K (.ref C) "__setattr__" = some (some (.builtin "object.__setattr__"))
theorem Cls.get {K:PySem.W.Frag} {C:Addr} (c:Cls K C) (f:Str):PySem.W.plainGet K C f=true:=c.pg
def NoAttr (K:PySem.W.Frag) (C:Addr) (f:Str):Prop:=PySem.W.findIn K (.ref C) f=some none
theorem NoAttr.taker {K:PySem.W.Frag} {C:Addr} {f:Str} (n:NoAttr K C f):PySem.W.takerIn K C f=some none:=by
  unfold PySem.W.takerIn
  rw [show PySem.W.findIn K (.ref C) f=some none from n]
  rfl
structure Con (K:PySem.W.Frag) (C:Addr) (f:Str) (v:V) (u:Value):Prop where
  at_:PySem.W.findIn K (.ref C) f=some (some u)
  rel:RelV v u
  get:PySem.W.specialIn K u "__get__" = some none
  cp:PySem.W.copiedNames.contains f=false
structure Meth (K:PySem.W.Frag) (C:Addr) (m:Str) (f:Addr):Prop where
  at_:PySem.W.findIn K (.ref C) m=some (some (.ref f))
  fn:PySem.W.isFn K (.ref f)=true
  kp:PySem.W.keepIn K (.ref f)=true
section
variable {X:Cx} {pins:List (Addr×Obj)} {σ:St} {H:Hp} {s:Shared} {a C dx:Addr} {fs:List (Str×V)} {f:Str} {v:V} {A:Around} {E:Value→Shared→Prop}
theorem getattr_ok {b:Bool} {Q:Value→Shared→Prop} (I:Inv X pins σ H s) (e:H a=some (.ins C dx fs)) (c:Cls X.K C) (n:NoAttr X.K C f) (l:fs.lookup f=some v)
    (h:∀u s',Inv X pins σ H s'→RelV v u→Q u s'):wpAny (model X.prog X.w) A (getAttr (.ref a) f b) Q E s:=by
  obtain ⟨mA,O,r,_,_,_⟩:=ins_get I.hok e
  obtain ⟨u,hu,ru⟩:=RelO.some_of (v:=v) (o:=mA f) (by rw [←l];exact r f)
  exact get_map I.kIn O (c.get f) c.hd n hu (handed_of ru) (h u _ (I.tok _) ru)
theorem getmeth_ok {m:Str} {g:Addr} {pl:Sem Bool} {Q:Value×List Value→Shared→Prop} (I:Inv X pins σ H s) (e:H a=some (.ins C dx fs)) (c:Cls X.K C) (k:Meth X.K C m g) (l:fs.lookup m=none)
    (h:Q (.ref g,[.ref a]) s):wpAny (model X.prog X.w) A (getMethod (.ref a) m pl) Q E s:=by
  obtain ⟨mA,O,r,_,_,_⟩:=ins_get I.hok e
  have hn:mA m=none:=RelO.none_of (by rw [←l];exact r m)
  exact get_meth I.kIn O (c.get m) k.at_ k.fn hn h
theorem setattr_ok {y:V} {u:Value} {Q:Unit→Shared→Prop} (I:Inv X pins σ H s) (e:H a=some (.ins C dx fs)) (c:Cls X.K C) (n:NoAttr X.K C f) (hl:fs.length<1000) (ry:RelV y u)
    (h:∀s',Inv X pins σ (upd H a (.ins C dx (putF f y fs))) s'→Q () s'):wpAny (model X.prog X.w) A (setAttr (.ref a) f u) Q E s:=by
  obtain ⟨mA,O,r,wi,_,ho⟩:=ins_get I.hok e
  have hz:(fs.map (·.1)).length≤sizeLine:=by rw [List.length_map,sizeLine_eq];omega
  refine set_map I.kIn O c.sa c.po n.taker c.hd wi hz fun h' O' sb=>h _ ?_
  have hd:∃o,h'.get? dx=some o:=let ⟨o,_,_,e',_⟩:=O'.ns;⟨o,e'⟩
  refine I.write (x:=a) (e:=dx) (by rw [e];exact True.intro) (.inr ho) (fun b q hb z=>(sb.2 b hb).trans z) hd ?_
  refine ⟨by rw [upd_ne O.ne];exact ho,?_,O.ne,O'.obj,_,O'.ns,fun g=>?_,fun g hg=>?_⟩
  · have:=length_putF f y fs;omega
  · show RelO ((putF f y fs).lookup g) (if g=f then some u else mA g)
    rw [lookup_putF]
    by_cases q:g=f
    · rw [if_pos q,if_pos q];exact ry
    · rw [if_neg q,if_neg q];exact r g
  · by_cases q:g=f
    · rw [q];exact (keys_putF f y fs).1
    · refine (keys_putF f y fs).2 g (wi g fun z=>hg ?_)
      show (if g=f then some u else mA g)=none
      rw [if_neg q];exact z
theorem Inv.made (I:Inv X pins σ H s):Inv X pins σ (upd (upd H s.heap.objs.size (.own (s.heap.objs.size+1))) (s.heap.objs.size+1) (.ins C s.heap.objs.size []))
    { s with heap:=(s.heap.push PySem.W.emptyDict).push (PySem.W.instObj C s.heap.objs.size) }:=by
  have e1:(s.heap.push PySem.W.emptyDict).get? s.heap.objs.size=some PySem.W.emptyDict:=Heap.get?_push_size s.heap rfl
  have e2:((s.heap.push PySem.W.emptyDict).push (PySem.W.instObj C s.heap.objs.size)).get? (s.heap.objs.size+1)=some (PySem.W.instObj C s.heap.objs.size):=by
    have:=Heap.get?_push_size (s.heap.push PySem.W.emptyDict) (o:=PySem.W.instObj C s.heap.objs.size) rfl
    rwa [Heap.size_push] at this
  have e3:(s.heap.push PySem.W.emptyDict).Ns s.heap.objs.size (fun _=>none):=⟨PySem.W.emptyDict,#[],_,e1,rfl,(fun e he=>absurd he (by simp)),fun _=>rfl⟩
  have I1:=I.laid (a:=s.heap.objs.size) (o:=.own (s.heap.objs.size+1)) (h':=s.heap.push PySem.W.emptyDict) (t':=s.toks) (fun b u q=>Heap.get?_push_of_some _ q) (Nat.le_refl _) ⟨_,e1⟩
  refine I1.laid (a:=s.heap.objs.size+1) (o:=.ins C s.heap.objs.size []) (t':=s.toks) (fun b u q=>Heap.get?_push_of_some _ q) (Nat.le_of_eq (Heap.size_push _ _)) ?_
  have ne:s.heap.objs.size≠s.heap.objs.size+1:=Nat.ne_of_lt (Nat.lt_succ_self _)
  refine ⟨by rw [upd_ne ne,upd_same],Nat.zero_le _,ne,e2,fun _=>none,(Heap.Ns1.of_empty e3).at fun o q=>Heap.get?_push_of_some _ q,fun _=>True.intro,fun y hy=>absurd rfl hy⟩
theorem attr_of {prog:Program} {w:World} {env:Env} {e:Expr} {f:Str} {pos:Pos} {s:Shared} {Q:Value→Shared→Prop} (hb:attributeBase e f env (eval e env)=eval e env)
    (h:wpAny (model prog w) A (eval e env) (fun o s₁=>wpAny (model prog w) A (getAttr o f true) Q E s₁) E s):wpAny (model prog w) A (eval (.Attribute e f pos) env) Q E s :=
  Attribute_any_ h (by rw [arm_eval_Attribute,hb])
end
def tFld (K:PySem.W.Frag) (ta:TE) (f:Str):TE:=fun σ H Q=>ta σ H fun x H1=>∃a C dx fs v,x=.ref a∧H1 a=some (.ins C dx fs)∧Cls K C∧NoAttr K C f∧fs.lookup f=some v∧Q v H1
def sFld (K:PySem.W.Frag) (ta tv:TE) (f:Str):TS:=fun D σ H=>tv σ H fun y H1=>ta σ H1 fun x H2=>∃a C dx fs,x=.ref a∧H2 a=some (.ins C dx fs)∧Cls K C∧NoAttr K C f∧fs.length<1000 ∧
  D.nx σ (upd H2 a (.ins C dx (putF f y fs)))
section
variable {X:Cx} {o e value:Expr} {f:Str} {pos pos' tpos:Pos} {ta tv:TE}
theorem pe_fld (he:PE X e ta) (hb:attributeBase e f X.env (eval e X.env)=eval e X.env):PE X (.Attribute e f pos) (tFld X.K ta f):=by
  intro pins s σ H Q I h
  refine attr_of hb (thn (he pins s σ H _ I h) fun u s1 ⟨x,H1,I1,rx,a,C,dx,fs,v,ex,ea,c,n,l,q⟩=>?_)
  subst ex
  obtain rfl:u=Value.ref a:=rx
  exact getattr_ok I1 ea c n l fun u' s2 I2 ru=>⟨v,H1,I2,ru,q⟩
theorem ps_fld (ha:PE X o ta) (hv:PE X value tv) (hs:swapsWith value (some (.Attribute o f pos')) pos.line X.env=pure false):PS X (.Assign [.Attribute o f pos'] value pos) (sFld X.K ta tv f):=by
  intro pins s σ H D I h
  refine plainObj_wpAny_Assign_Attribute (thn (hv pins s σ H _ I h) fun u s1 ⟨y,H1,I1,ry,q⟩=>thn (ha pins s1 σ H1 _ I1 q) fun ov s2 ⟨x,H2,I2,rx,a,C,dx,fs,ex,ea,c,n,l,q2⟩=>?_) hs
  subst ex
  obtain rfl:ov=Value.ref a:=rx
  exact setattr_ok I2 ea c n l ry fun s3 I3=>⟨σ,_,I3,q2⟩
theorem methcall_of {pl:Sem Bool} {m:Str} {apos:Pos} {args:List Expr} {pins:List (Addr×Obj)} {s:Shared} {σ:St} {H:Hp} {Q:Value→Shared→Prop} {te:TE} (he:PE X e te) (I:Inv X pins σ H s)
    (h:te σ H fun x H1=>∃a C dx fs g,x=.ref a∧H1 a=some (.ins C dx fs)∧Cls X.K C∧Meth X.K C m g∧fs.lookup m=none ∧
      ∀s1,Inv X pins σ H1 s1→wpAny (model X.prog X.w) X.A (callWith pos (.ref g) [.ref a] (backTo pos (starEach args X.env)) (backToKw pos (keywordEach [] X.env))) Q X.xe s1)
    (ht:eval (.Call (.Attribute e m apos) args [] pos) X.env=(do
      let ov ←eval e X.env
      standAt apos.atName
      let (f,first) ←holding [ov] (getMethod ov m pl)
      callWith pos f first (backTo pos (starEach args X.env)) (backToKw pos (keywordEach [] X.env)))) :
    wpAny (model X.prog X.w) X.A (eval (.Call (.Attribute e m apos) args [] pos) X.env) Q X.xe s:=by
  refine PySem.W.methodCall_KW (pl:=pl) (thn (he pins s σ H _ I h) fun u s1 ⟨x,H1,I1,rx,a,C,dx,fs,g,ex,ea,c,k,l,q⟩=>?_) ht
  subst ex
  obtain rfl:u=Value.ref a:=rx
  exact getmeth_ok I1 ea c k l (q s1 I1)
end
section
variable {X:Cx} {pins:List (Addr×Obj)} {σ:St} {H:Hp} {s:Shared} {A:Around} {E:Value→Shared→Prop} {Q:Value→Shared→Prop} {c:Value} {b:Bool}
inductive TyOf (K:PySem.W.Frag) (H:Hp):V→Value→Prop where
  | non:TyOf K H .non (.type "NoneType")
  | bl (x:Bool):TyOf K H (.bl x) (.type "bool")
  | int (i:Int):TyOf K H (.int i) (.type "int")
  | str (x:Str):TyOf K H (.str x) (.type "str")
  | flt (x:UInt64):TyOf K H (.flt x) (.type "float")
  | lst {a:Addr} {xs:List V} (e:H a=some (.lst xs)):TyOf K H (.ref a) (.type "list")
  | frz {a:Addr} {o:Obj} {xs:List V} (e:H a=some (.frz o (.lst xs))):TyOf K H (.ref a) (.type "list")
  | tup {a:Addr} {xs:List V} (e:H a=some (.tup xs)):TyOf K H (.ref a) (.type "tuple")
  | dK {a:Addr} {kvs:List (Key×V)} (e:H a=some (.dK kvs)):TyOf K H (.ref a) (.type "dict")
  | dT {a:Addr} {kvs:List (List Key×V)} (e:H a=some (.dT kvs)):TyOf K H (.ref a) (.type "dict")
  | ins {a C dx:Addr} {fs:List (Str×V)} (e:H a=some (.ins C dx fs)) (cl:Cls K C) (ha:PySem.W.findIn K (.ref C) "__class__" = some (some (.builtin "object.__class__")))
      (hn:PySem.W.specialIn K (.builtin "object.__class__") "__get__" = some (some (.builtin "getset_descriptor.__get__"))) (htk:PySem.W.takesIn K (.builtin "object.__class__")=some true)
      (hm:PySem.W.mroIn K C (.type "object")=some true):TyOf K H (.ref a) (.ref C)
end
end L2
namespace L2
open PySem PySem.Spec PyProof.Rows
structure Room (k:Nat) (A:Around):Prop where
  hd:A.handled=none
  dp:A.depth+3*k+5<recursionLimit
  un:A.units+16*k+200<cLine
theorem Room.mono {j k:Nat} {A:Around} (r:Room k A) (h:j≤k):Room j A:=⟨r.hd,by have:=r.dp;omega,by have:=r.un;omega⟩
theorem Room.deeper {k:Nat} {A:Around} (r:Room (k+1) A) (env:Env):Room k (A.deeper env) :=
  ⟨r.hd,by have:=r.dp;show A.depth+1+3*k+5<_;omega,by have:=r.un;show A.units+3+16*k+200<_;omega⟩
theorem Room.in1 {k:Nat} {A:Around} (r:Room (k+1) A):Room k A.in1 :=
  ⟨r.hd,by have:=r.dp;show A.depth+3*k+5<_;omega,by have:=r.un;show A.units+1+16*k+200<_;omega⟩
theorem make_depth {A:Around} {C:Addr} {us:List Value} {kw:List (Str×Value)}:(A.under (.builtin "type.__call__" ⟨.ref C::us,kw⟩)).depth=A.depth+1:=by
  first | rfl | simp [Around.under,Code.weight,Code.isCreation,Code.isGuard,Code.isCaller,Code.frames,Code.isFrame,guardIds]
theorem make_units {A:Around} {C:Addr} {us:List Value} {kw:List (Str×Value)}:(A.under (.builtin "type.__call__" ⟨.ref C::us,kw⟩)).units=A.units+1:=by
  first | rfl | simp [Around.under,Code.cUnits,Code.frames,Code.isFrame]
theorem Room.make {k:Nat} {A:Around} (r:Room (k+1) A) (C:Addr) (us:List Value) (kw:List (Str×Value)):Room k (A.under (.builtin "type.__call__" ⟨.ref C::us,kw⟩)) :=
  ⟨r.hd,by have:=r.dp;rw [make_depth];omega,by have:=r.un;rw [make_units];omega⟩
theorem Room.depth {k:Nat} {A:Around} (r:Room k A):A.depth<recursionLimit:=by have:=r.dp;omega
theorem Room.units {k:Nat} {A:Around} (r:Room k A):A.units+64<cLine:=by have:=r.un;omega
def tNil:TA:=fun _ H Q=>Q [] H
def tCons (ta:TE) (tr:TA):TA:=fun σ H Q=>ta σ H fun x H1=>tr σ H1 fun xs H2=>Q (x::xs) H2
section
variable {X:Cx} {e:Expr} {es:List Expr} {te:TE} {t:TA} {pos:Pos}
theorem pa_nil:PA X [] tNil:=fun _ _ _ _ H Q I h=>Calls.spliced_nil ⟨[],H,I,.nil,h⟩
theorem pa_cons (ha:PE X e te) (hr:PA X es t) (hs:starEach (e::es) X.env=(false,eval e X.env)::starEach es X.env:=by rfl):PA X (e::es) (tCons te t):=by
  intro pos pins s σ H Q I h
  rw [hs]
  show wpAny _ _ (spliced ((false,eval e X.env)::backTo pos (starEach es X.env))) _ _ s
  refine Calls.spliced_cons (thn (ha pins s σ H _ I h) fun u s1 ⟨x,H1,I1,r1,q1⟩=>?_)
  exact thn (hr pos pins s1 σ H1 _ I1 q1) fun us s2 ⟨xs,H2,I2,r2,q2⟩=>⟨x::xs,H2,I2,.cons r1 r2,q2⟩
def tTup (t:TA):TE:=fun σ H Q=>t σ H fun xs H1=>xs.length≤sizeLine∧∀p,H1 p=none→Q (.ref p) (upd H1 p (.tup xs))
def tLst (t:TA):TE:=fun σ H Q=>t σ H fun xs H1=>xs.length≤sizeLine∧∀p,H1 p=none→Q (.ref p) (upd H1 p (.lst xs))
theorem pe_tup {x1} (h:PA X es t):PE X (.Tuple es x1 pos) (tTup t):=by
  intro pins s σ H Q I hq
  refine wpAny_Tuple_spliced (thn (h pos pins s σ H _ I hq) fun us s1 ⟨xs,H1,I1,r,z,q⟩=>⟨by rw [←r.length];exact z,?_⟩)
  have hf:H1 s1.heap.objs.size=none:=I1.hok.fresh (Nat.le_refl _)
  refine ⟨.ref s1.heap.objs.size,upd H1 s1.heap.objs.size (.tup xs),I1.laid (t':=s1.toks) (fun b u e=>Heap.get?_push_of_some _ e) (Nat.le_refl _) ?_,rfl,q _ hf⟩
  exact ⟨z,us,r,⟨_,Heap.get?_push_size _ rfl,rfl,_,rfl⟩⟩
theorem pe_lst (h:PA X es t):PE X (.List es pos) (tLst t):=by
  intro pins s σ H Q I hq
  refine wpAny_List_spliced (thn (h pos pins s σ H _ I hq) fun us s1 ⟨xs,H1,I1,r,z,q⟩=>⟨by rw [←r.length];exact z,?_⟩)
  have hf:H1 s1.heap.objs.size=none:=I1.hok.fresh (Nat.le_refl _)
  refine ⟨.ref s1.heap.objs.size,upd H1 s1.heap.objs.size (.lst xs),I1.laid (t':=s1.toks) (fun b u e=>Heap.get?_push_of_some _ e) (Nat.le_refl _) ?_,rfl,q _ hf⟩
  exact ⟨z,us,0,r,Heap.get?_push_size _ rfl⟩
end
abbrev Sp:=List V→Hp→VK→XK→Prop
abbrev CXT:=List Env→Hp→Shared→XK→Value→Shared→Prop
structure Env0 (P:Program) (w:World) (K:PySem.W.Frag) (mg:Str→Option Value) (base:Heap) (A:Around) (outer:List Env) (s:Shared) (H:Hp):Prop where
  frames:A.frames=some outer
  mod:Mod K mg base
  bs:∀b o,base.get? b=some o→s.heap.get? b=some o∧H b=none
  bsz:base.objs.size≤s.heap.objs.size
  funs:s.heap.FunFrames base outer
  frf:∀b∈frs outer,H b=none
  hok:HOk P w H s.heap
  bare:AllBare s.gens
def CE (outer:List Env) (P:Program) (w:World) (H:Hp) (s:Shared) (Q:VK) (u:Value) (s':Shared):Prop :=
  ∃v H',s'.os=s.os∧AllBare s'.gens∧Un (frs outer) [] H H' s.heap s'.heap∧HOk P w H' s'.heap∧RelV v u∧Q v H'
def CR (CX:CXT) (outer:List Env) (P:Program) (w:World) (H:Hp) (s:Shared) (Q:VK) (E:XK) (r:Result) (s':Shared):Prop :=
  match r with
  | .ok (.ret u)=>CE outer P w H s Q u s'
  | .ok _=>False
  | .error e=>CX outer H s E e s'
structure FnOk (P:Program) (w:World) (K:PySem.W.Frag) (mg:Str→Option Value) (base:Heap) (CX:CXT) (k:Nat) (f:Addr) (fd:FuncData) (ps:List Str) (sp:Sp):Prop where
  len:∀vs H Q E,sp vs H Q E→vs.length=ps.length
  run:∀(A:Around) (outer:List Env) (s:Shared) (H:Hp) (args:Args) (us:List Value) (vs:List V) (Q:VK) (E:XK),Room k A→Env0 P w K mg base A outer s H→BindsTo s fd args (ps.zip us)→Vals vs us→sp vs H Q E →
    codeAny (model P w) A (.call (.ref f) args) (CR CX outer P w H s Q E) s
theorem FnOk.mono {P:Program} {w:World} {K:PySem.W.Frag} {mg:Str→Option Value} {base:Heap} {CX:CXT} {j k:Nat} {f:Addr} {fd:FuncData} {ps:List Str} {sp:Sp} (F:FnOk P w K mg base CX j f fd ps sp) (h:j≤k) :
    FnOk P w K mg base CX k f fd ps sp:=⟨F.len,fun A outer s H args us vs Q E hr=>F.run A outer s H args us vs Q E (hr.mono h)⟩
theorem FnOk.imp {P:Program} {w:World} {K:PySem.W.Frag} {mg:Str→Option Value} {base:Heap} {CX:CXT} {k:Nat} {f:Addr} {fd:FuncData} {ps:List Str} {sp sp':Sp} (F:FnOk P w K mg base CX k f fd ps sp)
    (h:∀vs H Q E,sp' vs H Q E→sp vs H Q E):FnOk P w K mg base CX k f fd ps sp' :=
  ⟨fun vs H Q E q=>F.len vs H Q E (h _ _ _ _ q),fun A outer s H args us vs Q E hr he hb hv hs=>F.run A outer s H args us vs Q E hr he hb hv (h _ _ _ _ hs)⟩
theorem Env0.make {P:Program} {w:World} {K:PySem.W.Frag} {mg:Str→Option Value} {base:Heap} {A:Around} {outer:List Env} {s:Shared} {H:Hp} (e:Env0 P w K mg base A outer s H) (C:Addr) (us:List Value) (kw:List (Str×Value)) :
    Env0 P w K mg base (A.under (.builtin "type.__call__" ⟨.ref C::us,kw⟩)) outer s H:=⟨by first | exact e.frames | (simpa [Around.under,Code.envs,Code.isFrame,pushEnvs] using e.frames),e.mod,e.bs,e.bsz,e.funs,e.frf,e.hok,e.bare⟩
theorem Env0.in1 {P:Program} {w:World} {K:PySem.W.Frag} {mg:Str→Option Value} {base:Heap} {A:Around} {outer:List Env} {s:Shared} {H:Hp} (e:Env0 P w K mg base A outer s H) :
    Env0 P w K mg base A.in1 outer s H:=⟨e.frames,e.mod,e.bs,e.bsz,e.funs,e.frf,e.hok,e.bare⟩
section
variable {X:Cx} {pins:List (Addr×Obj)} {σ:St} {H:Hp} {s s':Shared}
theorem Inv.env0 (I:Inv X pins σ H s):Env0 X.prog X.w X.K X.mg X.base X.A X.stack s H :=
  ⟨I.ok.frames,I.ok.mod,I.bs,Nat.le_trans I.ok.bsz I.sz,I.stack,I.stkFree,I.hok,I.bare⟩
theorem Inv.after {Q:VK} {u:Value} (I:Inv X pins σ H s) (h:CE X.stack X.prog X.w H s Q u s'):EP X pins σ Q u s':=by
  obtain ⟨v,H',os,bare,un,hok,r,q⟩:=h
  obtain ⟨hh,g,d,t,os'⟩:=s'
  obtain rfl:os'=s.os:=os
  exact ⟨v,H',I.call (h':=hh) (g':=g) (d':=d) (t':=t) (ch:=[]) un hok bare (fun b z=>absurd z (by simp)),r,q⟩
end
def tCall (sp:Sp) (dvs:List V) (E:XK) (t:TA):TE:=fun σ H Q=>t σ H fun vs H1=>sp (vs++dvs) H1 Q E
def tMeth (C:Addr) (m:Str) (sp:Sp) (dvs:List V) (E:XK) (ta:TE) (t:TA):TE:=fun σ H Q=>ta σ H fun x H1=>∃a dx fs,x=.ref a∧H1 a=some (.ins C dx fs)∧fs.lookup m=none ∧
  t σ H1 fun vs H2=>sp (x::(vs++dvs)) H2 Q E
def tMake (C:Addr) (sp:Sp) (dvs:List V) (E:XK) (t:TA):TE:=fun σ H Q=>t σ H fun vs H1=>∀x dx,H1 x=none→H1 dx=none→dx≠x →
  sp (.ref x::(vs++dvs)) (upd (upd H1 dx (.own x)) x (.ins C dx [])) (fun v H2=>v=.non∧Q (.ref x) H2) E
def Binds (K:PySem.W.Frag) (fd:FuncData) (ps:List Str) (ds:List Value):Prop :=
  ∀(s:Shared) (us:List Value),K.In s.heap→(us++ds).length=ps.length→BindsTo s fd ⟨us,[]⟩ (ps.zip (us++ds))
theorem Binds.all {K:PySem.W.Frag} {fd:FuncData} {ps:List Str} (h:∀us:List Value,us.length=ps.length→bindArgs fd ⟨us,[]⟩=pure (ps.zip us)):Binds K fd ps []:=fun s us _ hl=>by
  rw [List.append_nil] at hl ⊢
  exact .of_eq (h us hl)
def Passes (CX:CXT) (X:Cx) (E:XK):Prop:=∀(pins:List (Addr×Obj)) (σ:St) (H:Hp) (s:Shared) (e:Value) (s':Shared),Inv X pins σ H s→CX X.stack H s E e s'→X.xe e s'
section
variable {X:Cx} {CX:CXT} {k:Nat} {f C:Addr} {fd:FuncData} {ps:List Str} {sp:Sp} {dvs:List V} {ds:List Value} {E:XK} {x m:Str} {p pos apos:Pos} {e o:Expr} {es:List Expr} {ta:TE} {t:TA}
theorem run_fn {pins:List (Addr×Obj)} {σ:St} {H:Hp} {s:Shared} {Q:VK} {us:List Value} {vs:List V} (F:FnOk X.prog X.w X.K X.mg X.base CX k f fd ps sp) (hr:Room k X.A) (hb:Binds X.K fd ps ds) (hd:Vals dvs ds) (hx:Passes CX X E)
    (I:Inv X pins σ H s) (r:Vals vs us) (h:sp (vs++dvs) H Q E):wpAny (model X.prog X.w) X.A (call (.ref f) us) (EP X pins σ Q) X.xe s:=by
  have r2:Vals (vs++dvs) (us++ds):=r.append hd
  have hl:(us++ds).length=ps.length:=by rw [←r2.length];exact F.len _ _ _ _ h
  refine wpAny_call (codeAny_mono (F.run X.A X.stack s H ⟨us,[]⟩ (us++ds) (vs++dvs) Q E hr I.env0 (hb s us I.kIn hl) r2 h) fun r s' hq=>?_)
  cases r with
  | error e=>exact hx pins σ H s e s' I hq
  | ok fl =>
    cases fl with
    | ret u=>exact I.after hq
    | next=>exact False.elim hq
    | brk=>exact False.elim hq
    | cont=>exact False.elim hq
theorem pe_call (F:FnOk X.prog X.w X.K X.mg X.base CX k f fd ps sp) (hr:Room k X.A) (hg:Gl X x) (hm:X.mg x=some (.ref f)) (hk:PySem.W.keepIn X.K (.ref f)=true) (hb:Binds X.K fd ps ds) (hd:Vals dvs ds) (hx:Passes CX X E)
    (ha:PA X (e::es) t) (hdb:(x == ("__debug__" : Str))=false:=by decide) (he:starEach (e::es) X.env=(false,eval e X.env)::starEach es X.env:=by rfl) (hpl:(backTo pos (starEach es X.env)).any (·.1)=false:=by rfl) :
    PE X (.Call (.Name x p) (e::es) [] pos) (tCall sp dvs E t):=by
  intro pins s σ H Q I h
  refine wpAny_Call_Name_kw (ld_glob I hg hm ?_ hdb)
  refine PySem.W.callWith_K (h₀:=X.base) I.ok.mod.kin hk (thn (ha pos pins s σ H _ I h) fun us s1 ⟨vs,H1,I1,r,q⟩=>⟨I1.kIn,?_⟩) he hpl
  exact run_fn F hr hb hd hx I1 r q
theorem pe_meth {pl:Sem Bool} (he:PE X o ta) (c:Cls X.K C) (hm:Meth X.K C m f) (F:FnOk X.prog X.w X.K X.mg X.base CX k f fd ps sp) (hr:Room k X.A) (hb:Binds X.K fd ps ds) (hd:Vals dvs ds) (hx:Passes CX X E) (ha:PA X (e::es) t)
    (hst:starEach (e::es) X.env=(false,eval e X.env)::starEach es X.env:=by rfl) (hpl:(backTo pos (starEach es X.env)).any (·.1)=false:=by rfl)
    (ht:eval (.Call (.Attribute o m apos) (e::es) [] pos) X.env=(do
      let ov ←eval o X.env
      standAt apos.atName
      let (f,first) ←holding [ov] (getMethod ov m pl)
      callWith pos f first (backTo pos (starEach (e::es) X.env)) (backToKw pos (keywordEach [] X.env))):=by rfl) :
    PE X (.Call (.Attribute o m apos) (e::es) [] pos) (tMeth C m sp dvs E ta t):=by
  intro pins s σ H Q I h
  refine PySem.W.methodCall_KW (pl:=pl) (thn (he pins s σ H _ I h) fun u s1 ⟨x,H1,I1,rx,a,dx,fs,ex,ea,l,q⟩=>?_) ht
  subst ex
  obtain rfl:u=Value.ref a:=rx
  refine getmeth_ok I1 ea c hm l ?_
  refine PySem.W.callWith_K (first:=[.ref a]) (h₀:=X.base) I.ok.mod.kin hm.kp (thn (ha pos pins s1 σ H1 _ I1 q) fun us s2 ⟨vs,H2,I2,r,q2⟩=>⟨I2.kIn,?_⟩) hst hpl
  exact run_fn (us:=.ref a::us) (vs:=.ref a::vs) F hr hb hd hx I2 (.cons rfl r) q2
theorem pe_meth0 {pl:Sem Bool} (he:PE X o ta) (c:Cls X.K C) (hm:Meth X.K C m f) (F:FnOk X.prog X.w X.K X.mg X.base CX k f fd ps sp) (hr:Room k X.A) (hb:Binds X.K fd ps ds) (hd:Vals dvs ds) (hx:Passes CX X E)
    (ht:eval (.Call (.Attribute o m apos) [] [] pos) X.env=(do
      let ov ←eval o X.env
      standAt apos.atName
      let (f,first) ←holding [ov] (getMethod ov m pl)
      callWith pos f first (backTo pos (starEach [] X.env)) (backToKw pos (keywordEach [] X.env))):=by rfl) :
    PE X (.Call (.Attribute o m apos) [] [] pos) (tMeth C m sp dvs E ta tNil):=by
  intro pins s σ H Q I h
  refine PySem.W.methodCall_KW (pl:=pl) (thn (he pins s σ H _ I h) fun u s1 ⟨x,H1,I1,rx,a,dx,fs,ex,ea,l,q⟩=>?_) ht
  subst ex
  obtain rfl:u=Value.ref a:=rx
  refine getmeth_ok I1 ea c hm l ?_
  exact PySem.W.callWith_K0 (first:=[.ref a]) I1.kIn hm.kp (run_fn (us:=[.ref a]) (vs:=[.ref a]) F hr hb hd hx I1 (.cons rfl .nil) q)
structure Mk (K:PySem.W.Frag) (C f:Addr):Prop where
  makes:PySem.W.makesIn K C=true
  init:PySem.W.findIn K (.ref C) "__init__" = some (some (.ref f))
  fn:PySem.W.isFn K (.ref f)=true
  kp:PySem.W.keepIn K (.ref C)=true
theorem run_make {pins:List (Addr×Obj)} {σ:St} {H:Hp} {s:Shared} {Q:VK} {us:List Value} {vs:List V} (M:Mk X.K C f) (F:FnOk X.prog X.w X.K X.mg X.base CX k f fd ps sp) (hr:Room (k+1) X.A) (hb:Binds X.K fd ps ds) (hd:Vals dvs ds)
    (hx:Passes CX X E) (I:Inv X pins σ H s) (r:Vals vs us)
    (h:∀x dx,H x=none→H dx=none→dx≠x→sp (.ref x::(vs++dvs)) (upd (upd H dx (.own x)) x (.ins C dx [])) (fun v H2=>v=.non∧Q (.ref x) H2) E) :
    wpAny (model X.prog X.w) X.A (call (.ref C) us) (EP X pins σ Q) X.xe s:=by
  have hq:=h (s.heap.objs.size+1) s.heap.objs.size (I.hok.fresh (Nat.le_succ _)) (I.hok.fresh (Nat.le_refl _)) (Nat.ne_of_lt (Nat.lt_succ_self _))
  have I2:=Inv.made (C:=C) I
  have r2:Vals (V.ref (s.heap.objs.size+1)::(vs++dvs)) (Value.ref (s.heap.objs.size+1)::(us++ds)):=.cons rfl (r.append hd)
  have hl:(Value.ref (s.heap.objs.size+1)::us++ds).length=ps.length:=by
    have e:=r2.length
    rw [F.len _ _ _ _ hq] at e
    exact e.symm
  refine wpAny_call (make_map (f:=f) I.kIn M.makes M.init (beq_iff_eq.mp M.fn) (codeAny_mono (F.run _ X.stack _ _ ⟨Value.ref (s.heap.objs.size+1)::us,[]⟩ (Value.ref (s.heap.objs.size+1)::(us++ds)) _ _ E (hr.make C us [])
    (I2.env0.make C us []) (hb _ (Value.ref (s.heap.objs.size+1)::us) I2.kIn hl) r2 hq) fun r s' hq'=>?_))
  cases r with
  | error e=>exact hx pins σ _ _ e s' I2 hq'
  | ok fl =>
    cases fl with
    | ret u =>
      obtain ⟨v,H',I3,rv,ev,q3⟩:=I2.after hq'
      subst ev
      exact ⟨rv,⟨V.ref (s.heap.objs.size+1),H',I3,rfl,q3⟩⟩
    | next=>exact False.elim hq'
    | brk=>exact False.elim hq'
    | cont=>exact False.elim hq'
theorem pe_make (M:Mk X.K C f) (F:FnOk X.prog X.w X.K X.mg X.base CX k f fd ps sp) (hr:Room (k+1) X.A) (hg:Gl X x) (hm:X.mg x=some (.ref C)) (hb:Binds X.K fd ps ds) (hd:Vals dvs ds) (hx:Passes CX X E)
    (ha:PA X (e::es) t) (hdb:(x == ("__debug__" : Str))=false:=by decide) (he:starEach (e::es) X.env=(false,eval e X.env)::starEach es X.env:=by rfl) (hpl:(backTo pos (starEach es X.env)).any (·.1)=false:=by rfl) :
    PE X (.Call (.Name x p) (e::es) [] pos) (tMake C sp dvs E t):=by
  intro pins s σ H Q I h
  refine wpAny_Call_Name_kw (ld_glob I hg hm ?_ hdb)
  refine PySem.W.callWith_K (h₀:=X.base) I.ok.mod.kin M.kp (thn (ha pos pins s σ H _ I h) fun us s1 ⟨vs,H1,I1,r,q⟩=>⟨I1.kIn,?_⟩) he hpl
  exact run_make M F hr hb hd hx I1 r q
end
def PK (X:Cx) (kws:List Keyword) (t:TA):Prop :=
  ∀(pos:Pos) (pins:List (Addr×Obj)) (s:Shared) (σ:St) (H:Hp) (Q:List V→Hp→Prop),Inv X pins σ H s→t σ H Q→wpAny (model X.prog X.w) X.A (evalAll ((backToKw pos (keywordEach kws X.env)).map (·.2))) (AP X pins σ Q) X.xe s
section
variable {X:Cx} {CX:CXT} {k:Nat} {f C:Addr} {fd:FuncData} {ps ks:List Str} {sp:Sp} {E:XK} {x m:Str} {p pos apos kpos:Pos} {e o:Expr} {es:List Expr} {kws:List Keyword} {te ta:TE} {t tk:TA} {nm:Option Str}
structure KBinds (K:PySem.W.Frag) (fd:FuncData) (ps ks:List Str) (g:List Value→List Value→List Value) (gV:List V→List V→List V):Prop where
  to:∀(s:Shared) (us ws:List Value),K.In s.heap→(g us ws).length=ps.length→BindsTo s fd ⟨us,ks.zip ws⟩ (ps.zip (g us ws))
  rel:∀{vs:List V} {us:List Value} {zs:List V} {ws:List Value},Vals vs us→Vals zs ws→Vals (gV vs zs) (g us ws)
variable {g:List Value→List Value→List Value} {gV:List V→List V→List V}
end
structure FnScope (N P:List Str) (sc:Scope):Prop where
  kind:sc.kind=.function
  co:sc.isCoroutine=false
  gen:sc.isGenerator=false
  nd:N.Nodup
  pre:N.take P.length=P
  par:∀x∈P,sc.names.lookup x=some .local∨sc.names.lookup x=some .cell
  nofree:∀y∈sc.names,y.2≠.free
theorem bindL_out {kindOf:Str→Option NameKind} {x:Str}:∀{binds:List (Str×Value)} {m:Str→Option Value},(∀v,(x,v)∉binds)→bindL kindOf binds m x=m x
  | [],_,_=>rfl
  | (n,v)::r,m,h=>by
    unfold bindL
    rw [bindL_out fun w hw=>h w (List.mem_cons_of_mem _ hw)]
    split
    · have:x≠n:=by rintro rfl;exact h v List.mem_cons_self
      simp [this]
    · rfl
theorem bindC_out {kindOf:Str→Option NameKind} {x:Str}:∀{binds:List (Str×Value)} {m:Str→Option Value},(∀v,(x,v)∉binds)→bindC kindOf binds m x=m x
  | [],_,_=>rfl
  | (n,v)::r,m,h=>by
    unfold bindC
    rw [bindC_out fun w hw=>h w (List.mem_cons_of_mem _ hw)]
    split
    · rfl
    · have:x≠n:=by rintro rfl;exact h v List.mem_cons_self
      simp [this]
theorem bindL_get {kindOf:Str→Option NameKind} {x:Str} {v:Value}:∀{P:List Str} {vs:List Value} {i:Nat} {m:Str→Option Value},P.Nodup→P[i]?=some x→vs[i]?=some v→kindOf x=some .local →
    bindL kindOf (P.zip vs) m x=some v
  | [],_,_,_,_,h,_,_=>by simp at h
  | _::_,[],_,_,_,_,h,_=>by simp at h
  | p::P,w::vs,0,m,nd,h1,h2,hk=>by
    simp at h1 h2;subst h1;subst h2
    show bindL kindOf ((p,w)::P.zip vs) m p=_
    unfold bindL
    rw [bindL_out fun v hv=>(List.nodup_cons.mp nd).1 (List.of_mem_zip hv).1,if_pos hk]
    simp
  | p::P,w::vs,i+1,m,nd,h1,h2,hk=>by
    show bindL kindOf ((p,w)::P.zip vs) m x=_
    unfold bindL
    exact bindL_get (i:=i) (List.nodup_cons.mp nd).2 (by simpa using h1) (by simpa using h2) hk
theorem bindC_get {kindOf:Str→Option NameKind} {x:Str} {v:Value}:∀{P:List Str} {vs:List Value} {i:Nat} {m:Str→Option Value},P.Nodup→P[i]?=some x→vs[i]?=some v→kindOf x≠some .local →
    bindC kindOf (P.zip vs) m x=some v
  | [],_,_,_,_,h,_,_=>by simp at h
  | _::_,[],_,_,_,_,h,_=>by simp at h
  | p::P,w::vs,0,m,nd,h1,h2,hk=>by
    simp at h1 h2;subst h1;subst h2
    show bindC kindOf ((p,w)::P.zip vs) m p=_
    unfold bindC
    rw [bindC_out fun v hv=>(List.nodup_cons.mp nd).1 (List.of_mem_zip hv).1,if_neg hk]
    simp
  | p::P,w::vs,i+1,m,nd,h1,h2,hk=>by
    show bindC kindOf ((p,w)::P.zip vs) m x=_
    unfold bindC
    exact bindC_get (i:=i) (List.nodup_cons.mp nd).2 (by simpa using h1) (by simpa using h2) hk
def start (N:List Str) (vs:List V):St:=vs.map some++List.replicate (N.length - vs.length) none
def cxOf (CX:CXT) (P:Program) (w:World) (K:PySem.W.Frag) (mg:Str→Option Value) (base:Heap) (N:List Str) (qual:Str) (scope:Scope) (f:Addr) (cd:Value) (A:Around) (outer:List Env) (s:Shared) (H:Hp) (E:XK):Cx where
  prog:=P
  w:=w
  K:=K
  mg:=mg
  base:=base
  A:=A.deeper (envOfC qual scope s.heap.objs.size f cd)
  N:=N
  s₀:=s
  H₀:=H
  env:=envOfC qual scope s.heap.objs.size f cd
  outer:=outer
  stack:=envOfC qual scope s.heap.objs.size f cd::outer
  ex:=[]
  calm:=true
  fn:=fun _=>true
  pn:=[]
  xe:=fun e s'=>wpAny (model P w) (A.deeper (envOfC qual scope s.heap.objs.size f cd)) (leaving (envOfC qual scope s.heap.objs.size f cd) e) (fun _ s''=>CX outer H s E e s'') (fun e' s''=>CX outer H s E e' s'') s'
theorem cell_has {sc:Scope} {n:Nat} {x:Str} (h:sc.names.lookup x=some .cell):∃c,(cellsFrom n sc.names []).lookup x=some c:=by
  have q:=PySem.W.cellsFrom_some sc.names n [] (.inl h)
  exact Option.isSome_iff_exists.mp q
theorem inv_start {CX:CXT} {P:Program} {w:World} {K:PySem.W.Frag} {mg:Str→Option Value} {base:Heap} {N ps:List Str} {qual:Str} {scope:Scope} {f:Addr} {cd:Value} {A:Around} {outer:List Env} {s s1:Shared} {H:Hp} {E:XK} {us:List Value} {vs:List V}
    (S:FnScope N ps scope) (hd:A.handled=none) (e0:Env0 P w K mg base A outer s H) (hl:vs.length=ps.length) (r:Vals vs us)
    (x:InCallC s s.heap.objs.size (bindL (envOfC qual scope s.heap.objs.size f cd).kindOf (ps.zip us) fun _=>none) (cellsFrom (s.heap.objs.size+1) scope.names []) (bindC (envOfC qual scope s.heap.objs.size f cd).kindOf (ps.zip us) fun _=>none) s1) :
    Inv (cxOf CX P w K mg base N qual scope f cd A outer s H E) [] (start N vs) H s1:=by
  have hpl:ps.length≤N.length:=by have:=congrArg List.length S.pre;rw [List.length_take] at this;omega
  obtain ⟨h1,tk,rfl,hk⟩:=x.done
  have noA:∀b:Addr,b∉(cxOf CX P w K mg base N qual scope f cd A outer s H E).ex:=fun b z=>absurd (show b∈([]:List Addr) from z) (by simp)
  refine ⟨⟨e0.mod,S.kind,rfl,rfl,Nat.le_refl _,fun y z c h1 h2=>?_,fun y hy=>?_,fun y c _ h=>?_,fun _=>hd,Around.frames_deeper e0.frames,.inr ⟨rfl,rfl⟩,fun b z=>absurd z (noA b),e0.bs,e0.bsz,fun b _ _=>noA b,fun b z=>absurd z (noA b),e0.funs,e0.frf⟩,
    rfl,e0.bare,Un.kept hk,⟨_,x.toInCall.ns,fun i y v h1 h2 h3=>?_⟩,fun y c h=>⟨_,x.cell y c h⟩,e0.hok.fresh (Nat.le_refl _),fun y c h=>?_,fun p hp=>absurd (show p∈([]:List (Addr×Obj)) from hp) (by simp),e0.hok.kept hk,?_⟩
  · exact name_of_addr x.apart (PySem.mem_of_lookup h1) (PySem.mem_of_lookup h2)
  · have hy:scope.names.lookup y=some .cell∨scope.names.lookup y=some .free:=hy
    rcases hy with hy | hy
    · exact cell_has hy
    · exact absurd rfl (S.nofree _ (PySem.mem_of_lookup hy))
  · exact Nat.le_of_lt (x.above y c (PySem.mem_of_lookup h))
  · have hi:i<vs.length:=by
      unfold start at h2
      by_cases hi:i<vs.length
      · exact hi
      · rw [List.getElem?_append_right (by simpa using hi)] at h2
        rw [List.getElem?_replicate] at h2
        split at h2 <;> cases h2
    have ha:vs[i]?=some v:=by
      unfold start at h2
      rw [List.getElem?_append_left (by simpa using hi),List.getElem?_map] at h2
      cases e:vs[i]? with
      | none=>rw [e] at h2;cases h2
      | some a=>rw [e] at h2;cases h2;rfl
    obtain ⟨u,hu,rv⟩:=r.get ha
    have hp:ps[i]?=some y:=by
      rw [←S.pre,List.getElem?_take_of_lt (by omega)];exact h1
    have ndP:ps.Nodup:=by rw [←S.pre];exact S.nd.sublist (List.take_sublist _ _)
    refine ⟨u,rv,?_⟩
    rcases S.par y (List.mem_of_getElem? hp) with k | k
    · exact .inl ⟨k,bindL_get ndP hp hu k⟩
    · obtain ⟨c,e⟩:=cell_has (n:=s.heap.objs.size+1) k
      refine .inr ⟨.inl k,c,e,?_⟩
      have q:=x.cell y c e
      rw [bindC_get ndP hp hu (by show scope.names.lookup y≠_;rw [k];decide)] at q
      exact q
  · exact e0.hok.fresh (Nat.le_of_lt (x.above y c (PySem.mem_of_lookup h)))
  · unfold start
    show _=N.length
    rw [List.length_append,List.length_map,List.length_replicate]
    omega
theorem fn_of {CX:CXT} {P:Program} {w:World} {K:PySem.W.Frag} {mg:Str→Option Value} {base:Heap} {k:Nat} {f:Addr} {name qual:Str} {params:Arguments} {body:List Stmt} {scope:Scope} {dV kV doc pm cdv ct oc:Value} {an od:Option Addr}
    {osl:Array (Option Value)} {N ps:List Str} {sp:Sp} (lk:K.lookup f=some ⟨oc,od,.func (PySem.W.fnOf name qual params body scope dV kV doc pm an cdv ct),osl⟩) (hcd:PySem.W.codeIn K cdv qual=true) (S:FnScope N ps scope)
    (len:∀vs H Q E,sp vs H Q E→vs.length=ps.length)
    (hbody:∀(A:Around) (outer:List Env) (s:Shared) (H:Hp) (vs:List V) (Q:VK) (E:XK),Room k (A.deeper (envOfC qual scope s.heap.objs.size f cdv))→sp vs H Q E →
      ∃t,PSs (cxOf CX P w K mg base N qual scope f cdv A outer s H E) body t∧t { nx:=fun _ H'=>Q .non H',rt:=Q } (start N vs) H) :
    FnOk P w K mg base CX (k+1) f (PySem.W.fnOf name qual params body scope dV kV doc pm an cdv ct) ps sp:=by
  refine ⟨len,fun A outer s H args us vs Q E hr e0 hb r hsp=>?_⟩
  have hl:=len _ _ _ _ hsp
  have KX:K.In s.heap:=e0.mod.kin.keeps fun b o e=>(e0.bs b o e).1
  have lim:s.heap.NoLimit:=e0.mod.nolimit.keeps fun b o e=>(e0.bs b o e).1
  have hkind:∀y∈ps.zip us,scope.names.lookup y.1=some .local∨(scope.names.lookup y.1=some .cell∧((cellsFrom (s.heap.objs.size+1) scope.names []).lookup y.1).isSome=true):=fun ⟨n,v⟩ hy=>by
    rcases S.par n (List.of_mem_zip hy).1 with q | q
    · exact .inl q
    · exact .inr ⟨q,PySem.W.cellsFrom_some _ _ _ (.inl q)⟩
  refine codeAny_call_function hr.depth (KX _ _ lk) rfl S.co S.gen rfl (PySem.W.codeRec_of KX hcd) (hb _ _ _ _ ?_)
  refine wpAny_newFunctionEnv_cells S.kind hkind fun env he s1 x=>?_
  subst he
  refine ⟨lim.keeps x.toInCall.keep,codeAny_func ?_⟩
  obtain ⟨t,ht,hq⟩:=hbody A outer s H vs Q E (hr.deeper _) hsp
  have I:Inv (cxOf CX P w K mg base N qual scope f cdv A outer s H E) [] (start N vs) H s1:=inv_start S hr.hd e0 hl r x
  refine wpAny_mono (ht [] s1 (start N vs) H _ I hq) (fun fl s' hs=>?_) fun e s' hs=>hs
  have fin:∀{σ':St} {H':Hp} {v:V} {u:Value},Inv (cxOf CX P w K mg base N qual scope f cdv A outer s H E) [] σ' H' s'→RelV v u→Q v H'→CE outer P w H s Q u s' :=
    fun {σ' H' v u} J rv q=>⟨v,H',J.os,J.bare,J.base,J.hok,rv,q⟩
  cases fl with
  | ret u =>
    obtain ⟨v,σ',H',J,rv,q⟩:=hs
    exact fin J rv q
  | next =>
    obtain ⟨σ',H',J,q⟩:=hs
    exact fin (v:=V.non) (u:=Value.none) J rfl q
  | brk =>
    obtain ⟨_,_,_,q⟩:=hs
    exact False.elim q
  | cont =>
    obtain ⟨_,_,_,q⟩:=hs
    exact False.elim q
end L2
namespace L2
open PySem PySem.Spec PyProof.Rows
section
variable {X:Cx} {x:Str} {p pos:Pos} {e:Expr} {es:List Expr} {t:TA} {id T:String} {r:List V→Hp→VK→Prop}
def tCB (r:List V→Hp→VK→Prop) (t:TA):TE:=fun σ H Q=>t σ H fun vs H1=>r vs H1 Q
theorem pe_callB (hc:CallR X (.builtin id) r) (hg:Gl X x) (hm:X.mg x=none) (hv:bootBuiltins x=some (.builtin id)) (ha:PA X (e::es) t) (hn:x ≠ "__name__" := by decide) (hdb:(x == ("__debug__" : Str))=false:=by decide)
    (he:starEach (e::es) X.env=(false,eval e X.env)::starEach es X.env:=by rfl) (hpl:(backTo pos (starEach es X.env)).any (·.1)=false:=by rfl):PE X (.Call (.Name x p) (e::es) [] pos) (tCB r t):=by
  intro pins s σ H Q I h
  refine wpAny_Call_Name_kw (ld_blt I hg hm hv ?_ hn hdb)
  exact PyProof.Rows.callWith_builtin1 (thn (ha pos pins s σ H _ I h) fun us s1 ⟨vs,H1,I1,r1,q1⟩=>hc pins s1 σ H1 vs us Q I1 r1 q1) he hpl
theorem pe_callTy (hc:CallR X (.type T) r) (hg:Gl X x) (hm:X.mg x=none) (hv:bootBuiltins x=some (.type T)) (ha:PA X (e::es) t) (hn:x ≠ "__name__" := by decide) (hdb:(x == ("__debug__" : Str))=false:=by decide)
    (he:starEach (e::es) X.env=(false,eval e X.env)::starEach es X.env:=by rfl) (hpl:(backTo pos (starEach es X.env)).any (·.1)=false:=by rfl):PE X (.Call (.Name x p) (e::es) [] pos) (tCB r t):=by
  intro pins s σ H Q I h
  refine wpAny_Call_Name_kw (ld_blt I hg hm hv ?_ hn hdb)
  exact PyProof.Rows.callWith_type1 (thn (ha pos pins s σ H _ I h) fun us s1 ⟨vs,H1,I1,r1,q1⟩=>hc pins s1 σ H1 vs us Q I1 r1 q1) he hpl
end
end L2
namespace HT
open PySem PyProof.Rows
section
open PySem.SeqAt
open PySem.AutoSeq1 (wpAny_loadPart')
open PySem.MeetsSeq PySem.MeetsSeq2 PySem.MeetsSeq3
end
section
variable {prog:Program} {w:World} {A:Around} {E:Value→Shared→Prop} {s:Shared}
def sIx (n d:Nat):Option Int→Nat
  | none=>d
  | some v=>if v<0 then (v+(n:Int)).toNat else min v.toNat n
theorem sIx_none (n d:Nat):sIx n d none=d:=rfl
theorem sIx_nat (n d k:Nat):sIx n d (some (k:Int))=min k n:=by
  show (if (k:Int)<0 then ((k:Int)+(n:Int)).toNat else min (k:Int).toNat n)=min k n
  rw [if_neg (by omega),Int.toNat_natCast]
theorem sIx_le (n d:Nat) (hd:d≤n) (o:Option Int):sIx n d o≤n:=by
  cases o with
  | none=>exact hd
  | some v =>
    show (if v<0 then (v+(n:Int)).toNat else min v.toNat n)≤n
    by_cases hv:v<0
    · rw [if_pos hv];omega
    · rw [if_neg hv];exact Nat.min_le_right _ _
theorem clip_eq (v:Int) (n d:Nat):(if v<0 then max (v+(n:Int)) 0 else min v (n:Int))=((sIx n d (some v):Nat):Int):=by
  show (if v<0 then max (v+(n:Int)) 0 else min v (n:Int))=(((if v<0 then (v+(n:Int)).toNat else min v.toNat n):Nat):Int)
  by_cases hv:v<0
  · simp only [if_pos hv];omega
  · simp only [if_neg hv];omega
theorem adjust_gen (lo hi:Option Int) (n:Nat):Builtin.Slice.sliceAdjust lo hi 1 (n:Int)=(((sIx n 0 lo:Nat):Int),((sIx n n hi:Nat):Int)):=by
  have h1:¬ ((1:Int)<0):=by omega
  unfold Builtin.Slice.sliceAdjust
  simp only [h1,if_false]
  refine Prod.ext ?_ ?_
  · cases lo with
    | none=>rfl
    | some v=>exact clip_eq v n 0
  · cases hi with
    | none=>rfl
    | some v=>exact clip_eq v n n
theorem places_gen (i j:Nat):Builtin.Slice.slicePlaces (i:Int) (j:Int) 1=j - i:=by
  unfold Builtin.Slice.slicePlaces
  have h1:(1:Int) > 0:=by omega
  simp only [h1,if_true,Int.ediv_one]
  split <;> omega
theorem slicePart_ {v:Value} {o:Option Int} {Q:Option Int→Shared→Prop} (p:IsPart v o) (h:Q o s):wpAny (model prog w) A (Builtin.Slice.slicePartIndex v) Q E s:=by
  cases p with
  | none=>exact slicePart_none h
  | int i t=>exact slicePart_int h
theorem sliceApplied_gen {sl:Addr} {vl vu:Value} {lo hi:Option Int} {n:Nat} {Q:Int×Int×Nat→Shared→Prop} (hs:s.heap.IsSliceOf sl vl vu .none) (pl:IsPart vl lo) (pu:IsPart vu hi)
    (h:Q (((sIx n 0 lo:Nat):Int),1,sIx n n hi - sIx n 0 lo) s):wpAny (model prog w) A (Builtin.Slice.sliceApplied (.ref sl) (pure (n:Int))) Q E s:=by
  obtain ⟨os,hos,hcs,hds⟩:=id hs
  unfold Builtin.Slice.sliceApplied Builtin.Slice.sliceFields
  refine wpAny_bind (wpAny_bind (wpAny_field hos hds (x:=vl) rfl (wpAny_bind (wpAny_field hos hds (x:=vu) rfl (wpAny_bind (wpAny_field hos hds (x:=.none) rfl (wpAny_pure ?_)))))))
  refine wpAny_bind (slicePart_none ?_)
  show wpAny _ _ (if ((1:Int) == 0)=true then _ else _) _ _ s
  rw [if_neg (by decide)]
  refine wpAny_bind (slicePart_ pl (wpAny_bind (slicePart_ pu (wpAny_bind (wpAny_pure ?_)))))
  show wpAny _ _ (match Builtin.Slice.sliceAdjust lo hi 1 (n:Int) with | (lo,hi)=>pure (lo,(1:Int),Builtin.Slice.slicePlaces lo hi 1)) _ _ s
  rw [adjust_gen lo hi n]
  show wpAny _ _ (pure (((sIx n 0 lo:Nat):Int),(1:Int),Builtin.Slice.slicePlaces ((sIx n 0 lo:Nat):Int) ((sIx n n hi:Nat):Int) 1)) _ _ s
  rw [places_gen]
  exact wpAny_pure h
theorem pick_gen (xs:Array Value) (i k:Nat):((List.range k).filterMap fun (m:Nat)=>xs[((i:Int)+(m:Int)*1).toNat]?).toArray=((xs.toList.drop i).take k).toArray:=by
  have e:(fun (m:Nat)=>xs[((i:Int)+(m:Int)*1).toNat]?)=fun m=>xs[i+m]?:=by
    funext m
    have:((i:Int)+(m:Int)*1).toNat=i+m:=by omega
    rw [this]
  rw [e]
  have:=pick_run xs i k
  rw [List.filterMap_map] at this
  have e2:((fun x=>xs[x]?) ∘ fun x=>i+x)=fun m=>xs[i+m]?:=rfl
  rw [e2] at this
  rw [this]
theorem getItem_tuple_cut {t sl:Addr} {items:Array Value} {vl vu:Value} {lo hi:Option Int} {Q:Value→Shared→Prop} (ht:IsTup s.heap t items) (hs:s.heap.IsSliceOf sl vl vu .none) (pl:IsPart vl lo) (pu:IsPart vu hi)
    (hw:¬ (sIx items.size 0 lo=0∧sIx items.size items.size hi=items.size))
    (h:Q (.ref s.heap.objs.size) { s with heap:=s.heap.push { cls:=.type "tuple",data:=.seq ((items.toList.drop (sIx items.size 0 lo)).take (sIx items.size items.size hi - sIx items.size 0 lo)).toArray } })
    (hsz:items.size≤sizeLine):wpAny (model prog w) A (getItem (.ref t) (.ref sl)) Q E s:=by
  have htake:sizeOk (.seq ((items.toList.drop (sIx items.size 0 lo)).take (sIx items.size items.size hi - sIx items.size 0 lo)).toArray):=by
    show ((items.toList.drop (sIx items.size 0 lo)).take (sIx items.size items.size hi - sIx items.size 0 lo)).toArray.size≤sizeLine
    rw [List.size_toArray,List.length_take,List.length_drop,Array.length_toList]
    omega
  have hj:sIx items.size items.size hi≤items.size:=sIx_le _ _ (Nat.le_refl _) hi
  obtain ⟨os,hos,hcs,hds⟩:=id hs
  have hTs:s.TypeIs (.ref sl) "slice" := ⟨os,hos,hcs⟩
  unfold getItem
  try with_reducible refine wpAny_holding ?_
  first | refine wpAny_bind (wpAny_pure ?_) | skip
  refine wpAny_bind (wpAny_sequenceKey ht.typeIs (by decide) ?_)
  refine wpAny_bind (wpAny_callSpecial?_slot (name:=Str.ofString "__getitem__") ht.typeIs PyProof.Rows.slot_tuple_getitem
    (wpAny_call_entry PyProof.Rows.slot_tuple_getitem ht.typeIs entry_tuple_getitem ?_ (args_tuple_getitem _ _)))
  show wpAny _ _ (Builtin.Tuple.tupleItemsOf (.ref t) >>= _) _ _ s
  refine wpAny_bind (tupleItemsOf_ ht ?_)
  refine wpAny_bind (wpAny_typeOf hTs ?_)
  rw [if_pos (by decide)]
  refine wpAny_bind (sliceApplied_gen hs pl pu ?_)
  have hno:¬ ((((sIx items.size 0 lo:Nat):Int) == 0&&(1:Int) == 1&&(sIx items.size items.size hi - sIx items.size 0 lo) == items.size)=true):=by
    intro q
    rw [Bool.and_eq_true,Bool.and_eq_true] at q
    have q1:((sIx items.size 0 lo:Nat):Int)=0:=eq_of_beq q.1.1
    have q2:sIx items.size items.size hi - sIx items.size 0 lo=items.size:=eq_of_beq q.2
    exact hw ⟨by omega,by omega⟩
  show wpAny _ _ (if (((sIx items.size 0 lo:Nat):Int) == 0&&(1:Int) == 1&&(sIx items.size items.size hi - sIx items.size 0 lo) == items.size)=true then _ else _) _ _ s
  rw [if_neg hno,pick_gen]
  first
    | exact wpAny_bind (m:=Builtin.Tuple.tupleExact _) (wpAny_newObj_type (wpAny_pure ⟨_,rfl,wpAny_pure h⟩) htake)
    | exact wpAny_bind (m:=Builtin.Tuple.tupleExact _) (wpAny_newObj_type (wpAny_bind (wpAny_pure (wpAny_pure ⟨_,rfl,wpAny_pure h⟩))) htake)
    | exact wpAny_bind (wpAny_bind (m:=Builtin.Tuple.tupleExact _) (wpAny_newObj_type (wpAny_pure (wpAny_pure ⟨_,rfl,wpAny_pure h⟩)) htake))
    | exact wpAny_bind (wpAny_bind (m:=Builtin.Tuple.tupleExact _) (wpAny_newObj_type (wpAny_pure ⟨_,rfl,wpAny_pure h⟩) htake))
end
end HT
namespace L2
open PySem PySem.Spec PyProof.Rows
abbrev TO:=St→Hp→(Option Int→Hp→Prop)→Prop
def PO (X:Cx) (e:Option Expr) (t:TO):Prop :=
  ∀(pins:List (Addr×Obj)) (s:Shared) (σ:St) (H:Hp) (Q:Option Int→Hp→Prop),Inv X pins σ H s→t σ H Q →
    wpAny (model X.prog X.w) X.A (evalPart e X.env) (fun u s'=>∃o H',Inv X pins σ H' s'∧IsPart u o∧Q o H') X.xe s
def tNoPart:TO:=fun _ H Q=>Q none H
def tPart (t:TE):TO:=fun σ H Q=>t σ H fun x H1=>∃i,x=.int i∧Q (some i) H1
theorem intsAre_of {ns:List Int}:∀{us:List Value},Vals (ns.map V.int) us→IntsAre us ns:=by
  induction ns with
  | nil=>intro us r;rw [List.map_nil] at r;cases r;exact .nil
  | cons n ns ih =>
    intro us r
    rw [List.map_cons] at r
    cases r with
    | cons r1 r2 =>
      obtain ⟨t,e⟩:=r1
      subst e
      exact .cons n t (ih r2)
section
variable {X:Cx} {e:Expr} {te:TE} {lo hi:Option Expr} {tl th:TO} {pos p2:Pos}
theorem po_none:PO X none tNoPart:=by
  intro pins s σ H Q I h
  rw [evalPart_none]
  exact wpAny_pure ⟨none,H,I,.none,h⟩
theorem po_some (h:PE X e te):PO X (some e) (tPart te):=by
  intro pins s σ H Q I hw
  rw [evalPart_some]
  refine thn (h pins s σ H _ I hw) fun u s1 ⟨x,H1,I1,r1,q1⟩=>?_
  obtain ⟨i,rfl,q⟩:=q1
  obtain ⟨t,rfl⟩:=r1
  exact ⟨some i,H1,I1,.int i t,q⟩
def SlR (X:Cx) (r:V→Option Int→Option Int→Hp→VK→Prop):Prop :=
  ∀(pins:List (Addr×Obj)) (s:Shared) (σ:St) (H:Hp) (x:V) (v vl vu:Value) (lo hi:Option Int) (sl:Addr) (Q:VK),Inv X pins σ H s→RelV x v→s.heap.IsSliceOf sl vl vu .none→IsPart vl lo→IsPart vu hi→r x lo hi H Q →
    ∃T id,typeLookup (.type T) "__getitem__" = pure (some (.builtin id))∧s.TypeIs v T∧wpAny (model X.prog X.w) X.A (getItem v (.ref sl)) (EP X pins σ Q) X.xe s
def tSl (r:V→Option Int→Option Int→Hp→VK→Prop) (te:TE) (tl th:TO):TE:=fun σ H Q=>te σ H fun x H1=>tl σ H1 fun l H2=>th σ H2 fun u H3=>r x l u H3 Q
theorem pe_slice {r:V→Option Int→Option Int→Hp→VK→Prop} (hr:SlR X r) (he:PE X e te) (hl:PO X lo tl) (hu:PO X hi th):PE X (.Subscript e (.Slice lo hi none p2) pos) (tSl r te tl th):=by
  intro pins s σ H Q I h
  refine Subscript_ (thn (he pins s σ H _ I h) fun v s1 ⟨x,H1,I1,r1,q1⟩=>?_)
  refine wpAny_Slice (thn (hl pins s1 σ H1 _ I1 q1) fun vl s2 ⟨l,H2,I2,pl,q2⟩=>thn (hu pins s2 σ H2 _ I2 q2) fun vu s3 ⟨u,H3,I3,pu,q3⟩=>?_)
  rw [evalPart_none]
  refine wpAny_pure ?_
  have I4:Inv X pins σ H3 { s3 with heap:=s3.heap.push { cls:=.type "slice",data:=.fields #[vl,vu,.none] } }:=I3.kept (t':=s3.toks) fun b ob q=>Heap.get?_push_of_some _ q
  obtain ⟨T,id,hT,ht,hg⟩:=hr pins { s3 with heap:=s3.heap.push { cls:=.type "slice",data:=.fields #[vl,vu,.none] } } σ H3 x v vl vu l u s3.heap.objs.size Q I4 r1 (Heap.IsSliceOf.new ..) pl pu q3
  show wpAny (model X.prog X.w) X.A (subscriptTail e (.Slice lo hi none p2) v (.ref s3.heap.objs.size)) (EP X pins σ Q) X.xe { s3 with heap:=s3.heap.push { cls:=.type "slice",data:=.fields #[vl,vu,.none] } }
  exact tail_any (ops:=[.ref s3.heap.objs.size,v]) ht hT hg (by with_unfolding_all rfl)
def cutV (xs:List V) (lo hi:Option Int):List V:=(xs.drop (HT.sIx xs.length 0 lo)).take (HT.sIx xs.length xs.length hi - HT.sIx xs.length 0 lo)
theorem cutV_length (xs:List V) (lo hi:Option Int):(cutV xs lo hi).length≤xs.length:=by
  unfold cutV
  rw [List.length_take,List.length_drop]
  omega
def rSlT (K:PySem.W.Frag):V→Option Int→Option Int→Hp→VK→Prop:=fun x lo hi H Q=>∃a xs,x=.ref a∧SqT K H a xs ∧
  ¬ (HT.sIx xs.length 0 lo=0∧HT.sIx xs.length xs.length hi=xs.length)∧∀p,H p=none→Q (.ref p) (upd H p (.tup (cutV xs lo hi)))
theorem sl_tup:SlR X (rSlT X.K):=by
  intro pins s σ H x v vl vu lo hi sl Q I rx hs pl pu h
  obtain ⟨a,xs,rfl,hx,hw,q⟩:=h
  cases rx
  obtain ⟨its,r,ht,hz⟩:=I.tuple hx
  have hlen:its.toArray.size=xs.length:=by rw [List.size_toArray];exact r.length.symm
  refine ⟨"tuple",_,PyProof.Rows.slot_tuple_getitem.lookup,ht.typeIs,?_⟩
  refine HT.getItem_tuple_cut ht hs pl pu (by rw [hlen];exact hw) ?_ (by rw [hlen];exact hz)
  rw [hlen]
  refine ⟨.ref s.heap.objs.size,_,I.laid (t':=s.toks) (o:=.tup (cutV xs lo hi)) (fun b ob q=>Heap.get?_push_of_some _ q) (Nat.le_refl _) ?_,rfl,q _ (I.hok.fresh (Nat.le_refl _))⟩
  exact ⟨Nat.le_trans (cutV_length xs lo hi) hz,_,(r.drop (HT.sIx xs.length 0 lo)).take (HT.sIx xs.length xs.length hi - HT.sIx xs.length 0 lo),IsTup.new _ _⟩
end
end L2
namespace L2
open PySem PySem.Spec PyProof.Rows
def ixN (n:Nat) (i:Int):Option Nat:=if 0≤i then (if i<n then some i.toNat else none) else if -(n:Int)≤i then some (i+n).toNat else none
def atI {α:Type} (xs:List α) (i:Int):Option α:=(ixN xs.length i).bind fun j=>xs[j]?
theorem ixN_seq {n:Nat} {i:Int} {j:Nat} (h:ixN n i=some j):seqIndex? i n=some j∧j<n∧-(n:Int)≤i∧i<n:=by
  unfold ixN at h
  by_cases h0:0≤i
  · rw [if_pos h0] at h
    by_cases h1:i<n
    · rw [if_pos h1] at h
      have e:i.toNat=j:=Option.some.inj h
      exact ⟨by rw [seqIndex_of h0 h1,e],by omega,by omega,h1⟩
    · rw [if_neg h1] at h;cases h
  · rw [if_neg h0] at h
    by_cases h1:-(n:Int)≤i
    · rw [if_pos h1] at h
      have e:(i+n).toNat=j:=Option.some.inj h
      exact ⟨by rw [seqIndex_neg (by omega) h1,e],by omega,h1,by omega⟩
    · rw [if_neg h1] at h;cases h
theorem atI_get {α:Type} {xs:List α} {i:Int} {v:α} (h:atI xs i=some v):∃j,seqIndex? i xs.length=some j∧xs[j]?=some v∧j<xs.length∧-(xs.length:Int)≤i∧i<xs.length:=by
  unfold atI at h
  cases e:ixN xs.length i with
  | none=>rw [e] at h;cases h
  | some j =>
    rw [e] at h
    obtain ⟨h1,h2,h3,h4⟩:=ixN_seq e
    exact ⟨j,h1,h,h2,h3,h4⟩
theorem atI_nat {α:Type} {xs:List α} {j:Nat} {v:α} (h:xs[j]?=some v):atI xs (j:Int)=some v:=by
  have hj:j<xs.length:=(List.getElem?_eq_some_iff.mp h).1
  have e:ixN xs.length (j:Int)=some j:=by
    unfold ixN
    rw [if_pos (by omega),if_pos (by omega)];simp
  unfold atI;rw [e];exact h
theorem atI_last {α:Type} (xs:List α) (v:α):atI (xs++[v]) (-1)=some v:=by
  have hl:(xs++[v]).length=xs.length+1:=by simp
  have e:ixN (xs++[v]).length (-1)=some xs.length:=by
    unfold ixN
    rw [hl,if_neg (by decide),if_pos (by omega)]
    congr 1
    omega
  unfold atI
  rw [e]
  show (xs++[v])[xs.length]?=some v
  simp
def PlainIx (b:Expr):Prop:=∀o i,subscripted b false o i=operate [o,i] (getItem o i)
def IxR (X:Cx) (r:R2):Prop :=
  ∀(value slice:Expr) (pins:List (Addr×Obj)) (s:Shared) (σ:St) (H:Hp) (x y:V) (v u:Value) (Q:VK),Inv X pins σ H s→RelV x v→RelV y u→r x y H Q →
    subscripted slice false v u=operate [v,u] (getItem v u)→wpAny (model X.prog X.w) X.A (subscriptTail value slice v u) (EP X pins σ Q) X.xe s
def MtR (X:Cx) (id:String) (r:V→List V→Hp→VK→Prop):Prop :=
  ∀(pins:List (Addr×Obj)) (s:Shared) (σ:St) (H:Hp) (x:V) (xs:List V) (v:Value) (us:List Value) (Q:VK),Inv X pins σ H s→RelV x v→Vals xs us→r x xs H Q →
    wpAny (model X.prog X.w) X.A (call (.builtin id) (v::us)) (EP X pins σ Q) X.xe s
section
variable {X:Cx} {a b:Expr} {ta tb:TE} {pos:Pos}
theorem pe_ix {r:R2} (hr:IxR X r) (ha:PE X a ta) (hb:PE X b tb) (hs:PlainIx b):PE X (.Subscript a b pos) (tOp r ta tb):=by
  intro pins s σ H Q I h
  exact Subscript_ (binT ha hb I h fun v u s2 x y H2 I2 rx ry q=>hr a b pins s2 σ H2 x y v u Q I2 rx ry q (hs _ _))
def rIxL (K:PySem.W.Frag):R2:=fun x y H Q=>∃p xs i v,x=.ref p∧y=.int i∧SqL K H p xs∧atI xs i=some v∧Q v H
def rIxT (K:PySem.W.Frag):R2:=fun x y H Q=>∃p xs i v,x=.ref p∧y=.int i∧SqT K H p xs∧atI xs i=some v∧Q v H
theorem ix_list:IxR X (rIxL X.K):=by
  intro value slice pins s σ H x y v u Q I rx ry h hs
  obtain ⟨p,xs,i,z,rfl,rfl,hq,he,q⟩:=h
  cases rx
  obtain ⟨t,rfl⟩:=ry
  obtain ⟨its,r,pl,hz⟩:=I.list hq
  obtain ⟨j,h1,h2,h3,h4,h5⟩:=atI_get he
  obtain ⟨w,ew,rw'⟩:=r.get h2
  have hl:=r.length
  have hn:=line63
  have fin:EP X pins σ Q w s:=⟨z,H,I,rw',q⟩
  by_cases h0:0≤i
  · have hj:i.toNat=j:=by
      rw [seqIndex_of h0 h5] at h1
      exact Option.some.inj h1
    exact item_listR pl.isList h0 (by omega) (by rw [hj];simpa using ew) fin hs
  · have hj:(i+(its.toArray.size:Int)).toNat=j:=by
      rw [seqIndex_neg (by omega) h4] at h1
      rw [List.size_toArray,←hl]
      exact Option.some.inj h1
    exact subscriptTail_builtinR (x:=w) pl.isList.typeIs slot_list_getitem.lookup
      (wpAny_getItem_list_neg (Q:=fun r s'=>r=w∧EP X pins σ Q r s') pl.isList (by omega) (by rw [List.size_toArray] <;> omega) (by omega) (by rw [hj];simpa using ew) ⟨rfl,fin⟩) hs
theorem ix_tup:IxR X (rIxT X.K):=by
  intro value slice pins s σ H x y v u Q I rx ry h hs
  obtain ⟨p,xs,i,z,rfl,rfl,hq,he,q⟩:=h
  cases rx
  obtain ⟨t,rfl⟩:=ry
  obtain ⟨its,r,pl,hz⟩:=I.tuple hq
  obtain ⟨j,h1,h2,h3,h4,h5⟩:=atI_get he
  obtain ⟨w,ew,rw'⟩:=r.get h2
  have hl:=r.length
  have hn:=line63
  have fin:EP X pins σ Q w s:=⟨z,H,I,rw',q⟩
  exact subscriptTail_builtinR (x:=w) pl.typeIs slot_tuple_getitem.lookup
    (getItem_tuple (j:=j) (Q:=fun r s'=>r=w∧EP X pins σ Q r s') pl (by omega) (by omega) (by rw [List.size_toArray,←hl];exact h1) (by simpa using ew) ⟨rfl,fin⟩) hs
theorem mapSeq_set (its:List Value) (n j:Nat) (u:Value):Obj.mapSeq (·.setIfInBounds j u) { cls:=.type "list",data:=.seq its.toArray n }={ cls:=.type "list",data:=.seq (its.set j u).toArray n }:=by
  simp [Obj.mapSeq]
theorem Inv.lst {pins:List (Addr×Obj)} {σ:St} {H:Hp} {s:Shared} {p:Addr} {xs:List V} (I:Inv X pins σ H s) (h:H p=some (.lst xs)) :
    ∃(its:List Value) (n:Nat),Vals xs its∧s.heap.get? p=some { cls:=.type "list",data:=.seq its.toArray n }∧xs.length≤sizeLine:=by
  obtain ⟨z,its,n,r,e⟩:=I.hok p _ h
  exact ⟨its,n,r,e,z⟩
theorem Inv.lstUpd {pins:List (Addr×Obj)} {σ:St} {H:Hp} {s:Shared} {p:Addr} {xs ys:List V} {its its':List Value} {n n':Nat} {f:Obj→Obj} (I:Inv X pins σ H s) (h:H p=some (.lst xs))
    (ho:s.heap.get? p=some { cls:=.type "list",data:=.seq its.toArray n }) (hf:f { cls:=.type "list",data:=.seq its.toArray n }={ cls:=.type "list",data:=.seq its'.toArray n' }) (r:Vals ys its') (hz:ys.length≤sizeLine) (t:Nat) :
    Inv X pins σ (upd H p (.lst ys)) { s with heap:=s.heap.update p f,toks:=t }:=by
  have e:(s.heap.update p f).get? p=some { cls:=.type "list",data:=.seq its'.toArray n' }:=by
    rw [Heap.get?_update_self f ho (by rw [hf] <;> rfl),hf]
  refine I.write (x:=p) (e:=p) (by rw [h];trivial) (.inl rfl) (fun b u hb q=>(Heap.get?_update_other _ _ (Ne.symm hb)).trans q) ⟨_,e⟩ ?_
  exact ⟨hz,its',n',r,e⟩
def rSetL:V→V→V→Hp→(Hp→Prop)→Prop:=fun o i v H Q=>∃p xs k j,o=.ref p∧i=.int k∧H p=some (.lst xs)∧ixN xs.length k=some j∧Q (upd H p (.lst (xs.set j v)))
theorem set_list:PSet X rSetL:=by
  intro pins s σ H o i v ov iv u Q I ro ri rv h
  obtain ⟨p,xs,k,j,rfl,rfl,hp,hj,q⟩:=h
  cases ro
  obtain ⟨t,rfl⟩:=ri
  obtain ⟨its,n,r,ho,hz⟩:=I.lst hp
  obtain ⟨h1,h2,h3,h4⟩:=ixN_seq hj
  have hl:=r.length
  have hn:=line63
  have I':Inv X pins σ (upd H p (.lst (xs.set j v))) { s with heap:=s.heap.update p (Obj.mapSeq (·.setIfInBounds j u)) } :=
    I.lstUpd hp ho (mapSeq_set its n j u) (r.set rv j) (by rw [List.length_set];exact hz) s.toks
  by_cases h0:0≤k
  · have hk:k.toNat=j:=by
      rw [seqIndex_of h0 h4] at h1
      exact Option.some.inj h1
    exact PySem.W.ki_setAt ho h0 (by omega) (by rw [List.size_toArray,←hl];exact h4) (by rw [hk];exact ⟨_,I',q⟩)
  · have hk:(k+(its.toArray.size:Int)).toNat=j:=by
      rw [seqIndex_neg (by omega) h3] at h1
      rw [List.size_toArray,←hl]
      exact Option.some.inj h1
    exact PySem.W.ki_setBack ho (by omega) (by rw [List.size_toArray,←hl];exact h3) (by omega) (by rw [hk];exact ⟨_,I',q⟩)
theorem slice_bounds (lo hi:Option Int) (n:Nat):(sliceBounds lo hi none n).1=((HT.sIx n 0 lo:Nat):Int)∧(sliceBounds lo hi none n).2.1=((HT.sIx n n hi:Nat):Int)∧(sliceBounds lo hi none n).2.2=1:=by
  refine ⟨?_,?_,rfl⟩
  · cases lo with
    | none=>simp [sliceBounds,HT.sIx]
    | some i =>
      simp only [sliceBounds,HT.sIx,Option.getD_none,show (1:Int) > 0 by decide,if_true]
      by_cases h:i<0
      · simp only [h,if_true] <;> omega
      · simp only [h,if_false] <;> omega
  · cases hi with
    | none=>simp [sliceBounds,HT.sIx]
    | some i =>
      simp only [sliceBounds,HT.sIx,Option.getD_none,show (1:Int) > 0 by decide,if_true]
      by_cases h:i<0
      · simp only [h,if_true] <;> omega
      · simp only [h,if_false] <;> omega
theorem slicePick_cut (its:List Value) (lo hi:Option Int):slicePick its.toArray lo hi none=((its.drop (HT.sIx its.length 0 lo)).take (HT.sIx its.length its.length hi - HT.sIx its.length 0 lo)).toArray:=by
  obtain ⟨h1,h2,h3⟩:=slice_bounds lo hi its.toArray.size
  unfold slicePick
  rw [h1,h2,h3]
  simp only [sliceRange_one,pick_run,List.size_toArray] <;> rfl
def rSlL (K:PySem.W.Frag):V→Option Int→Option Int→Hp→VK→Prop:=fun x lo hi H Q=>∃a xs,x=.ref a∧SqL K H a xs∧∀p,H p=none→Q (.ref p) (upd H p (.lst (cutV xs lo hi)))
theorem sl_list:SlR X (rSlL X.K):=by
  intro pins s σ H x v vl vu lo hi sl Q I rx hs pl pu h
  obtain ⟨a,xs,rfl,hx,q⟩:=h
  cases rx
  obtain ⟨its,r,ht,hz⟩:=I.list hx
  have hlen:=r.length
  refine ⟨"list",_,slot_list_getitem.lookup,ht.isList.typeIs,?_⟩
  refine wpAny_getItem_list_slice ht.isList hs pl pu .none (by simp) ?_ (by rw [List.size_toArray] <;> omega)
  rw [slicePick_cut,←hlen]
  refine ⟨.ref s.heap.objs.size,_,I.laid (t':=s.toks) (o:=.lst (cutV xs lo hi)) (fun b ob q=>Heap.get?_push_of_some _ q) (Nat.le_refl _) ?_,rfl,q _ (I.hok.fresh (Nat.le_refl _))⟩
  exact ⟨Nat.le_trans (cutV_length xs lo hi) hz,_,0,(r.drop (HT.sIx xs.length 0 lo)).take (HT.sIx xs.length xs.length hi - HT.sIx xs.length 0 lo),Heap.get?_push_size _ rfl⟩
def flatV:V→Bool
  | .non=>true
  | .bl _=>true
  | .int _=>true
  | .str _=>true
  | _=>false
def eqV:V→V→Bool
  | .non,.non=>true
  | .bl a,.bl b=>a == b
  | .bl a,.int b=>(if a then 1 else 0) == b
  | .int a,.bl b=>a == (if b then 1 else 0)
  | .int a,.int b=>a == b
  | .str a,.str b=>a == b
  | _,_=>false
theorem eqAt_V {A:Around} {s:Shared} {y x:V} {u v:Value} (ry:RelV y u) (rx:RelV x v) (fy:flatV y=true) (fx:flatV x=true):SeqAt.EqAt A s u v (eqV y x):=by
  cases y with
  | non =>
    cases ry
    cases x with
    | non=>cases rx;exact SeqAt.EqAt.same _
    | bl b=>cases rx;exact SeqAt.EqAt.none_bool b
    | int b=>obtain ⟨t,rfl⟩:=rx;exact SeqAt.EqAt.none_int b t
    | str b=>obtain ⟨t,rfl⟩:=rx;exact SeqAt.EqAt.none_str b t
    | _=>exact absurd (show false=true from fx) Bool.false_ne_true
  | bl a =>
    cases ry
    cases x with
    | non=>cases rx;exact SeqAt.EqAt.bool_none a
    | bl b=>cases rx;exact SeqAt.EqAt.bool_bool a b
    | int b=>obtain ⟨t,rfl⟩:=rx;exact SeqAt.EqAt.bool_int a b t
    | str b=>obtain ⟨t,rfl⟩:=rx;exact SeqAt.EqAt.bool_str a b t
    | _=>exact absurd (show false=true from fx) Bool.false_ne_true
  | int a =>
    obtain ⟨t',rfl⟩:=ry
    cases x with
    | non=>cases rx;exact SeqAt.EqAt.int_none a t'
    | bl b=>cases rx;exact SeqAt.EqAt.int_bool a t' b
    | int b=>obtain ⟨t,rfl⟩:=rx;exact SeqAt.EqAt.int_int a t' b t
    | str b=>obtain ⟨t,rfl⟩:=rx;exact SeqAt.EqAt.int_str a t' b t
    | _=>exact absurd (show false=true from fx) Bool.false_ne_true
  | str a =>
    obtain ⟨t',rfl⟩:=ry
    cases x with
    | non=>cases rx;exact SeqAt.EqAt.str_none a t'
    | bl b=>cases rx;exact SeqAt.EqAt.str_bool a t' b
    | int b=>obtain ⟨t,rfl⟩:=rx;exact SeqAt.EqAt.str_int a t' b t
    | str b=>obtain ⟨t,rfl⟩:=rx;exact SeqAt.EqAt.str_str a t' b t
    | _=>exact absurd (show false=true from fx) Bool.false_ne_true
  | _=>exact absurd (show false=true from fy) Bool.false_ne_true
def eqU (x:V) (u:Value):Bool:=match u with
  | .none=>eqV .non x
  | .bool b=>eqV (.bl b) x
  | .int i _=>eqV (.int i) x
  | .str z _=>eqV (.str z) x
  | _=>false
theorem eqU_of {x y:V} {u:Value} (r:RelV y u) (f:flatV y=true):eqU x u=eqV y x:=by
  cases y with
  | non=>cases r;rfl
  | bl b=>cases r;rfl
  | int i=>obtain ⟨t,rfl⟩:=r;rfl
  | str z=>obtain ⟨t,rfl⟩:=r;rfl
  | _=>exact absurd (show false=true from f) Bool.false_ne_true
theorem any_eqU {x:V}:∀{xs:List V} {us:List Value},Vals xs us→xs.all flatV=true→us.any (eqU x)=xs.any fun y=>eqV y x
  | _,_,.nil,_=>rfl
  | y::xs,u::us,.cons r t,f=>by
    rw [List.all_cons,Bool.and_eq_true] at f
    rw [List.any_cons,List.any_cons,eqU_of r f.1,any_eqU t f.2]
theorem mem_eqAt {A:Around} {s:Shared} {x:V} {v:Value} (rx:RelV x v) (fx:flatV x=true):∀{xs:List V} {us:List Value},Vals xs us→xs.all flatV=true→∀u∈us,SeqAt.EqAt A s u v (eqU x u)
  | _,_,.nil,_=>fun u hu=>by cases hu
  | y::xs,u::us,.cons r t,f=>fun u' hu=>by
    rw [List.all_cons,Bool.and_eq_true] at f
    rcases List.mem_cons.mp hu with rfl | hu
    · rw [eqU_of r f.1];exact eqAt_V r rx f.1 fx
    · exact mem_eqAt rx fx t f.2 u' hu
def inV (x:V) (xs:List V):Bool:=xs.any fun y=>eqV y x
def rIn (K:PySem.W.Frag) (neg:Bool):R2:=fun x y H Q=>∃p xs,y=.ref p∧(SqL K H p xs∨SqT K H p xs)∧flatV x=true∧xs.all flatV=true∧Q (.bl (if neg then !inV x xs else inV x xs)) H
theorem op_in_seq:OpR X (compareOp .In) (rIn X.K false):=by
  intro pins s σ H x y v u Q I rx ry h
  obtain ⟨p,xs,rfl,hq,fx,fs,q⟩:=h
  cases ry
  rcases hq with hq | hq
  · obtain ⟨its,r,pl,hz⟩:=I.list hq
    refine SeqAt.in_listAt (eqU x) pl.isList (fun w hw=>mem_eqAt rx fx r fs w (by simpa using hw)) ⟨.bl _,H,I,rfl,?_⟩
    rw [show its.toArray.any (eqU x)=its.any (eqU x) by simp,any_eqU r fs]
    exact q
  · obtain ⟨its,r,pl,hz⟩:=I.tuple hq
    refine SeqAt.in_tupleAt (eqU x) pl (fun w hw=>mem_eqAt rx fx r fs w (by simpa using hw)) ⟨.bl _,H,I,rfl,?_⟩
    rw [show its.toArray.any (eqU x)=its.any (eqU x) by simp,any_eqU r fs]
    exact q
theorem call_len_seq:CallR X (.builtin "len") (fun xs H Q=>∃p ys,xs=[.ref p]∧(SqL X.K H p ys∨SqT X.K H p ys)∧Q (.int ys.length) H):=by
  intro pins s σ H xs us Q I r h
  obtain ⟨p,ys,rfl,hq,q⟩:=h
  obtain ⟨u,rfl,rx⟩:=vals1 r
  cases rx
  have hn:=line63
  rcases hq with hq | hq
  · obtain ⟨its,r',pl,hz⟩:=I.list hq
    have hlen:=r'.length
    exact Calls.call_len_list pl.isList (by simp only [List.size_toArray] <;> omega) ⟨.int ys.length,H,I.tok _,⟨s.toks+1,by rw [List.size_toArray,hlen]⟩,q⟩
  · obtain ⟨its,r',pl,hz⟩:=I.tuple hq
    have hlen:=r'.length
    exact len_tuple pl (by simp only [List.size_toArray] <;> omega) ⟨.int ys.length,H,I.tok _,⟨s.toks+1,by rw [List.size_toArray,hlen]⟩,q⟩
theorem call_list_of:CallR X (.type "list") (fun xs H Q=>∃p ys,xs=[.ref p]∧(SqL X.K H p ys∨SqT X.K H p ys)∧∀l,H l=none→Q (.ref l) (upd H l (.lst ys))):=by
  intro pins s σ H xs us Q I r h
  obtain ⟨p,ys,rfl,hq,q⟩:=h
  obtain ⟨u,rfl,rx⟩:=vals1 r
  cases rx
  have fin:∀(its:List Value),Vals ys its→ys.length≤sizeLine→∀(h':Heap) (c':Nat),(∀b o',s.heap.get? b=some o'→h'.get? b=some o') →
      h'.get? s.heap.objs.size=some { cls:=.type "list",dict:=none,data:=.seq its.toArray c',slots:=#[] }→EP X pins σ Q (.ref s.heap.objs.size) { s with heap:=h' }:=fun its r' hz h' c' kp e =>
    ⟨.ref s.heap.objs.size,_,I.laid (t':=s.toks) kp (Nat.le_refl _) (show ObjOk X.prog X.w _ h' _ (.lst ys) from ⟨hz,its,c',r',e⟩),rfl,q _ (I.hok.fresh (Nat.le_refl _))⟩
  rcases hq with hq | hq
  · obtain ⟨its,r',pl,hz⟩:=I.list hq
    have hlen:=r'.length
    obtain ⟨o,ho,hc,n,hd⟩:=pl.isList
    exact call_list_seq p (.inl rfl) ho hc hd (fun h' c' kp e=>fin its r' hz h' c' kp e) (by simp only [List.size_toArray] <;> omega)
  · obtain ⟨its,r',pl,hz⟩:=I.tuple hq
    have hlen:=r'.length
    obtain ⟨o,ho,hc,n,hd⟩:=pl
    exact call_list_seq p (.inr rfl) ho hc hd (fun h' c' kp e=>fin its r' hz h' c' kp e) (by simp only [List.size_toArray] <;> omega)
def tyV (K:PySem.W.Frag) (T:String) (x:V) (H:Hp):Prop:=match x with
  | .str _=>T = "str"
  | .int _=>T = "int"
  | .ref p=>(T = "list" ∧ ∃xs,SqL K H p xs)∨(T = "tuple" ∧ ∃o,K.lookup p=some o∧o.cls=.type "tuple" ∧ o.dict=none) ∨
      (T = "dict" ∧ ((∃kvs,H p=some (.dK kvs))∨∃kvs,H p=some (.dT kvs)))∨(T = "set" ∧ ∃S n,H p=some (.set S n))
  | _=>False
theorem tyV_is {pins:List (Addr×Obj)} {σ:St} {H:Hp} {s:Shared} {T:String} {x:V} {v:Value} (I:Inv X pins σ H s) (r:RelV x v) (ty:tyV X.K T x H) :
    s.TypeIs v T∧∀a,v=.ref a→∃ob,s.heap.get? a=some ob∧ob.dict=none:=by
  cases x with
  | str z =>
    obtain ⟨t,rfl⟩:=r
    cases (show T = "str" from ty)
    exact ⟨typeIs_str s z t,fun _ e=>nomatch e⟩
  | int i =>
    obtain ⟨t,rfl⟩:=r
    cases (show T = "int" from ty)
    exact ⟨typeIs_int s i t,fun _ e=>nomatch e⟩
  | ref p =>
    cases r
    rcases ty with ⟨rfl,xs,hq⟩ | ⟨rfl,o,hk,hc,hd⟩ | ⟨rfl,hk⟩ | ⟨rfl,S,n,hk⟩
    · obtain ⟨its,_,pl,_⟩:=I.list hq
      refine ⟨pl.isList.typeIs,fun a e=>?_⟩
      cases e
      obtain ⟨o,n,e,c,hd,_⟩:=pl
      exact ⟨o,e,hd⟩
    · refine ⟨⟨o,I.kIn p o hk,hc⟩,fun a e=>?_⟩
      cases e
      exact ⟨o,I.kIn _ o hk,hd⟩
    · have z:∃o,s.heap.get? p=some o∧o.ExactDict:=by
        rcases hk with ⟨kvs,hk⟩ | ⟨kvs,hk⟩
        · obtain ⟨_,_,_,_,o,_,_,e,ex,_⟩:=I.hok p _ hk
          exact ⟨o,e,ex⟩
        · obtain ⟨_,_,_,_,o,_,_,e,ex,_⟩:=I.hok p _ hk
          exact ⟨o,e,ex⟩
      obtain ⟨o,e,ex⟩:=z
      refine ⟨⟨o,e,ex.1⟩,fun a e2=>?_⟩
      cases e2
      exact ⟨o,e,ex.2.1⟩
    · obtain ⟨o,_,_,_,e,ex,_⟩:=I.hok p _ hk
      refine ⟨⟨o,e,ex.1⟩,fun a e2=>?_⟩
      cases e2
      exact ⟨o,e,ex.2.1⟩
  | _=>exact False.elim ty
def tBM (K:PySem.W.Frag) (T:String) (r:V→List V→Hp→VK→Prop) (to:TE) (t:TA):TE:=fun σ H Q=>to σ H fun x H1=>tyV K T x H1∧t σ H1 fun xs H2=>r x xs H2 Q
variable {o e:Expr} {es:List Expr} {to:TE} {t:TA} {name:Str} {apos cpos:Pos} {T id:String} {r:V→List V→Hp→VK→Prop}
theorem pe_bm (pa:PlainAttrs T) (slot:Slot T name id) (hty:typeOf (.builtin id)=pure (.type "method_descriptor")) (hm:MtR X id r) (ho:PE X o to) (ha:PA X (e::es) t)
    (hbase:attributeBase o name X.env (eval o X.env)=eval o X.env:=by rfl)
    (hfew:((backTo cpos (starEach (e::es) X.env)).all (fun x=>!x.1)&&(backToKw cpos (keywordEach [] X.env)).all (fun x=>x.1.isSome)
      && decide ((e::es).length+([]:List Keyword).length+(if ([]:List Keyword).isEmpty then 0 else 1)<30))=true:=by rfl)
    (hline:(apos.endLine == cpos.line)=true:=by rfl) (hs:starEach (e::es) X.env=(false,eval e X.env)::starEach es X.env:=by rfl) (hplain:(backTo cpos (starEach es X.env)).any (·.1)=false:=by rfl) :
    PE X (.Call (.Attribute o name apos) (e::es) [] cpos) (tBM X.K T r to t):=by
  intro pins s σ H Q I h
  refine wpAny_Call_method_late hbase hfew hline rfl (thn (ho pins s σ H _ I h) fun v s1 ⟨x,H1,I1,r1,ty,q1⟩=>?_)
  obtain ⟨h1,h2⟩:=tyV_is I1 r1 ty
  refine ⟨T,id,pa,slot,hty,h1,h2,?_⟩
  have hA:=ha cpos pins s1 σ H1 _ I1 q1
  rw [hs] at hA ⊢
  refine Calls.callWith_builtin (by show (false||(backTo cpos (starEach es X.env)).any (·.1))=false;rw [hplain] <;> rfl) (Calls.evalArgs_plain ?_)
  exact thn hA fun us s2 ⟨vs,H2,I2,r2,q2⟩=>hm pins s2 σ H2 x vs v us Q I2 r1 r2 q2
end
end L2
namespace L2
open PySem PySem.Spec PyProof.Rows
def MtM (X:Cx) (id:String) (r:V→List V→Hp→VK→Prop):Prop :=
  ∀(pins:List (Addr×Obj)) (s:Shared) (σ:St) (H:Hp) (x:V) (xs:List V) (v:Value) (us:List Value) (Q:VK),Inv X pins σ H s→RelV x v→Vals xs us→r x xs H Q →
    wpAny (model X.prog X.w) X.A (call (.builtin id) (v::us)) (EP X pins σ Q) X.xe s
theorem Vals.one:∀{x:V} {us:List Value},Vals [x] us→∃u,us=[u]∧RelV x u
  | _,_,.cons r .nil=>⟨_,rfl,r⟩
theorem Vals.zero:∀{us:List Value},Vals [] us→us=[]
  | _,.nil=>rfl
theorem Vals.dropLast {xs:List V} {us:List Value} (h:Vals xs us):Vals xs.dropLast us.dropLast:=by
  induction h with
  | nil=>exact .nil
  | cons r t ih =>
    cases t with
    | nil=>exact .nil
    | cons q t'=>exact .cons r ih
theorem Vals.reverse {xs:List V} {us:List Value} (h:Vals xs us):Vals xs.reverse us.reverse:=by
  induction h with
  | nil=>exact .nil
  | cons r t ih=>rw [List.reverse_cons,List.reverse_cons];exact Vals.append ih (.cons r .nil)
theorem Vals.rep {xs:List V} {us:List Value} (h:Vals xs us):∀k:Nat,Vals (List.replicate k xs).flatten (List.replicate k us).flatten
  | 0=>.nil
  | k+1=>by
    rw [List.replicate_succ,List.replicate_succ,List.flatten_cons,List.flatten_cons]
    exact Vals.append h (Vals.rep h k)
theorem foldl_rep (its:List Value):∀(k:Nat) (acc:List Value),
    List.foldl (fun x1 x2=>x1++x2) acc.toArray (List.replicate k its.toArray)=(acc++(List.replicate k its).flatten).toArray
  | 0,acc=>by simp
  | k+1,acc=>by
    have e:acc.toArray++its.toArray=(acc++its).toArray:=by simp
    have e2:(acc++its)++(List.replicate k its).flatten=acc++(List.replicate (k+1) its).flatten:=by
      rw [List.replicate_succ,List.flatten_cons,List.append_assoc]
    rw [←e2,←foldl_rep its k (acc++its),←e,List.replicate_succ,List.foldl_cons]
section
variable {X:Cx} {pins:List (Addr×Obj)} {σ:St} {H:Hp} {s:Shared} {l b:Addr} {xs ys zs:List V}
theorem Inv.lset {its its':List Value} {n:Nat} {f:Array Value→Array Value} {t':Nat} (I:Inv X pins σ H s) (hH:H l=some (.lst xs))
    (e:s.heap.get? l=some { cls:=.type "list",data:=.seq its.toArray n }) (hf:f its.toArray=its'.toArray) (hv:Vals ys its') (hz:ys.length≤sizeLine) :
    Inv X pins σ (upd H l (.lst ys)) { s with heap:=s.heap.update l (Obj.mapSeq f),toks:=t' }:=by
  have q:=PySem.IsL.update e f
  rw [hf] at q
  refine I.write (x:=l) (e:=l) (by rw [hH];exact trivial) (.inl rfl) (fun b' u hb hu=>(Heap.get?_update_other s.heap (Obj.mapSeq f) (Ne.symm hb)).trans hu) ⟨_,q⟩ ?_
  exact ⟨hz,its',_,hv,q⟩
theorem Inv.lnew {its:List Value} {t':Nat} (I:Inv X pins σ H s) (hv:Vals ys its) (hz:ys.length≤sizeLine) :
    Inv X pins σ (upd H s.heap.objs.size (.lst ys)) { s with heap:=s.heap.push { cls:=.type "list",data:=.seq its.toArray },toks:=t' } :=
  I.laid (fun _ _ q=>Heap.get?_push_of_some _ q) (Nat.le_refl _) ⟨hz,its,0,hv,Heap.get?_push_size _ rfl⟩
theorem Inv.fresh (I:Inv X pins σ H s):H s.heap.objs.size=none:=I.hok.fresh (Nat.le_refl _)
theorem Inv.lstM (I:Inv X pins σ H s) (hH:H l=some (.lst xs)):xs.length≤sizeLine∧∃(its:List Value) (n:Nat),Vals xs its∧xs.length=its.length∧s.heap.get? l=some { cls:=.type "list",data:=.seq its.toArray n }:=by
  obtain ⟨z,its,n,r,e⟩:=I.hok l _ hH
  exact ⟨z,its,n,r,r.length,e⟩
theorem notLongL {n:Nat} (h:n≤sizeLine):Builtin.List.listTooLong n=false:=by
  unfold Builtin.List.listTooLong
  exact decide_eq_false (by omega)
end
section
variable {X:Cx}
def rAppend:V→List V→Hp→VK→Prop:=fun x vs H Q=>∃l xs y,x=.ref l∧vs=[y]∧H l=some (.lst xs)∧xs.length<sizeLine∧Q .non (upd H l (.lst (xs++[y])))
theorem mt_append:MtM X "list.append" rAppend:=by
  intro pins s σ H x vs v us Q I rx rv h
  obtain ⟨l,xs,y,rfl,rfl,hH,hz,q⟩:=h
  cases rx
  obtain ⟨u,rfl,ru⟩:=rv.one
  obtain ⟨z,its,n,r,hl,e⟩:=I.lstM hH
  refine call_meets F.slot_list_append ⟨_,e,rfl⟩ F.entry_list_append (F.args_list_append_2 _ _) (PySem.list_append l its.toArray n u (by rw [List.size_toArray];omega)) ⟨e,?_⟩
  refine ⟨.non,_,I.lset (its':=its++[u]) hH e (by simp) (r.append (.cons ru .nil)) ?_,rfl,q⟩
  rw [List.length_append,List.length_singleton]
  omega
def rExtend:V→List V→Hp→VK→Prop:=fun x vs H Q=>∃l b xs zs,x=.ref l∧vs=[.ref b]∧H l=some (.lst xs)∧H b=some (.lst zs)∧xs.length+zs.length≤sizeLine∧Q .non (upd H l (.lst (xs++zs)))
theorem mt_extend:MtM X "list.extend" rExtend:=by
  intro pins s σ H x vs v us Q I rx rv h
  obtain ⟨l,b,xs,zs,rfl,rfl,hH,hB,hz,q⟩:=h
  cases rx
  obtain ⟨u,rfl,ru⟩:=rv.one
  cases ru
  obtain ⟨z,its,n,r,hl,e⟩:=I.lstM hH
  obtain ⟨z2,its2,n2,r2,hl2,e2⟩:=I.lstM hB
  have hsz:its.toArray.size+its2.toArray.size≤sizeLine:=by rw [List.size_toArray,List.size_toArray];omega
  have hlong:¬ (!its.toArray.isEmpty&&Builtin.List.listTooLong (its.toArray.size+its2.toArray.size))=true:=by
    rw [notLongL hsz,Bool.and_false]
    exact Bool.false_ne_true
  refine call_meets F.slot_list_extend ⟨_,e,rfl⟩ F.entry_list_extend (F.args_list_extend_2 _ _)
    (AutoSeq1.list_extend_list_list_0 l its.toArray n b its2.toArray n2 hlong (by rw [List.size_toArray];omega) (by omega)) ⟨e,e2,?_⟩
  refine ⟨.non,_,I.lset (its':=its++its2) hH e (by simp) (r.append r2) ?_,rfl,q⟩
  rw [List.length_append]
  omega
def rCat:R2:=fun x y H Q=>∃l b xs zs,x=.ref l∧y=.ref b∧H l=some (.lst xs)∧H b=some (.lst zs)∧xs.length+zs.length≤sizeLine∧∀p,H p=none→Q (.ref p) (upd H p (.lst (xs++zs)))
theorem op_cat:OpR X (binaryOp .Add) rCat:=by
  intro pins s σ H x y v u Q I rx ry h
  obtain ⟨l,b,xs,zs,rfl,rfl,hH,hB,hz,q⟩:=h
  cases rx
  cases ry
  obtain ⟨z,its,n,r,hl,e⟩:=I.lstM hH
  obtain ⟨z2,its2,n2,r2,hl2,e2⟩:=I.lstM hB
  refine PySem.P.add_list e e2 ?_ (by rw [List.size_toArray,List.size_toArray];omega)
  have ea:its.toArray++its2.toArray=(its++its2).toArray:=by simp
  rw [ea]
  exact ⟨.ref _,_,I.lnew (t':=s.toks) (r.append r2) (by rw [List.length_append];omega),rfl,q _ I.fresh⟩
def rRep:R2:=fun x y H Q=>∃l k xs,x=.ref l∧y=.int k∧H l=some (.lst xs)∧-(2^63)≤k∧k<2^63∧xs.length*k.toNat≤sizeLine ∧
  ∀p,H p=none→Q (.ref p) (upd H p (.lst (List.replicate k.toNat xs).flatten))
theorem len_rep {α:Type} (xs:List α) (k:Nat):(List.replicate k xs).flatten.length=k*xs.length:=by
  induction k with
  | zero=>simp
  | succ k ih=>rw [List.replicate_succ,List.flatten_cons,List.length_append,ih,Nat.succ_mul,Nat.add_comm]
theorem op_rep:OpR X (binaryOp .Mult) rRep:=by
  intro pins s σ H x y v u Q I rx ry h
  obtain ⟨l,k,xs,rfl,rfl,hH,h1,h2,hz,q⟩:=h
  cases rx
  obtain ⟨t,rfl⟩:=ry
  obtain ⟨z,its,n,r,hl,e⟩:=I.lstM hH
  have hlen:its.toArray.size*k.toNat≤sizeLine:=by rw [List.size_toArray,←hl];exact hz
  have hcap:¬ its.toArray.size*k.toNat > (2^63 - 1) / 8:=by
    have:(sizeLine:Nat)≤(2^63 - 1) / 8:=by decide
    omega
  have hfit:¬ (!Builtin.List.listFitsIndex k)=true:=by
    rw [fitsIndex_both h1 h2]
    exact Bool.false_ne_true
  have hlong:¬ Builtin.List.listTooLong (its.toArray.size*k.toNat)=true:=by
    rw [notLongL hlen]
    exact Bool.false_ne_true
  have hnew:List.foldl (fun x1 x2=>x1++x2) #[] (List.replicate (if its.toArray.isEmpty=true then 0 else k.toNat) its.toArray)=(List.replicate k.toNat its).flatten.toArray:=by
    have f0:∀m:Nat,List.foldl (fun x1 x2=>x1++x2) #[] (List.replicate m its.toArray)=(List.replicate m its).flatten.toArray:=fun m=>by
      have:=foldl_rep its m []
      rw [List.nil_append] at this
      exact this
    rw [f0]
    cases its with
    | nil=>simp
    | cons a r'=>rw [if_neg (by simp)]
  refine wpAny_binaryOp_repeat_ref (T := "list") (U := "int") (by decide) ⟨_,e,rfl⟩ (fun s'=>typeIs_int s' k t) noFill_list_mul F.fills_int_mul F.slot_int_rmul repeat_list F.slot_int_index.lookup
    (call_meets F.slot_int_rmul (typeIs_int s k t) F.entry_int_rmul (F.args_int_rmul_2 _ _) (int___rmul___int_list k t l its.toArray n)
      ⟨e,rfl,⟨_,e,rfl⟩,call_meets F.slot_list_mul ⟨_,e,rfl⟩ F.entry_list_mul (F.args_list_mul_2 _ _) (AutoListH.list___mul___list_int_3 l its.toArray n k t hfit hcap hlong) ⟨e,?_⟩⟩)
  rw [hnew]
  exact ⟨.ref _,_,I.lnew (t':=s.toks) (r.rep k.toNat) (by rw [len_rep,Nat.mul_comm];exact hz),rfl,q _ I.fresh⟩
end
section
variable {prog:Program} {w:World} {A:Around} {E:Value→Shared→Prop} {s:Shared}
set_option maxRecDepth 100000 in
end
section
variable {X:Cx}
end
end L2
namespace Att
open PySem PySem.W PySem.Calls PyProof.Rows
theorem ints_of_wellAll {P:Params} {h:Heap}:∀(ns:List Int) (vs:List Value),WellAll P h vs (ns.map WData.int)→IntsAre vs ns:=by
  intro ns
  induction ns with
  | nil =>
    intro vs w
    rw [List.map_nil] at w
    cases w
    exact .nil
  | cons n ns ih =>
    intro vs w
    rw [List.map_cons] at w
    cases w with
    | cons a b =>
      cases a
      exact .cons _ _ (ih _ b)
theorem script_of {l:OpenLaw} {n:Nat} (hn:l.most=some n) {P:Params} {h:Heap} {args:List WData} {vals:List Value}
    (hpre:l.row.toRowW.claim.pre args=true) (hwl:WellAll P h vals args) :
    ∃a vs ns,vals=[Value.ref a]∧args=[WData.list (ns.map WData.int)]∧h.get? a=some { cls:=.type "list",data:=.seq vs.toArray }∧IntsAre vs ns∧ns.length≤n:=by
  have hsh:WShape.hasAll [] args [.list .int]=true:=(pre_splitW hpre).1
  have hc:l.pre.holds [] { args:=args }=true:=(pre_splitW hpre).2
  obtain ⟨d,r,rfl,h1,h2⟩:=hasAllW_cons hsh
  obtain rfl:=hasAllW_nil h2
  obtain ⟨xs,rfl,h3⟩:=hasW_list h1
  obtain ⟨ns,rfl⟩:=items_int h3
  have hlen:ns.length≤n:=by
    unfold OpenLaw.pre at hc
    have h4:(WTm.not (.lt (.lit (.int (n:Int))) (.len (.arg 0)))).holds [] { args:=[.list (ns.map .int)] }=true:=by
      have h4:=(holds_andW hc).1
      rw [hn] at h4
      exact h4
    have h5:=condW_of h4 (w_not (w_lt w_lit (w_len_list (w_arg rfl))))
    rw [List.length_map] at h5
    refine Nat.le_of_not_lt fun q=>?_
    have q':(n:Int)<((ns.length:Nat):Int):=by omega
    first
      | (rw [decide_eq_true q'] at h5;exact absurd h5 (by decide))
      | (simp at h5;omega)
  cases hwl with
  | cons w1 w2 =>
    cases w2
    cases w1 with
    | list ho hall=>exact ⟨_,_,ns,rfl,rfl,ho,ints_of_wellAll ns _ hall,hlen⟩
theorem post_true (l:OpenLaw) (args:List WData):l.row.toRowW.claim.post args (.bool true) args=true :=
  postW_of (r:=l.row.toRowW) (X:=(true == true))
    (show WShape.has [] (.bool true) .bool=true by first | rfl | decide | simp [WShape.has,WShape.arms,WShape.armsAll])
    (show (WTm.eq .res (.lit (.bool true))).value [] { args:=args,res:=some (.bool true),after:=args }=some (.bool (true == true)) from w_eq_bool (w_res rfl) w_lit) rfl
theorem attach_call {l:OpenLaw} {n:Nat} {q:Program} {loose:List Str} {XP:(Str→Option Value)→Heap→Prop} {YP:World→Heap→Prop} {d:DefRec}
    (hn:l.most=some n) (hdf:d.params.defaults=[])
    (call:∀(w:World) (s₀ s₁:Shared) (mg mb:Str→Option Value) (fa:Addr) (o:Obj) (pm cd doc:Value) (a:Addr) (vs:List Value) (ns:List Int),
      Ground q loose [] XP w s₀ mg mb s₁.heap→YP w s₁.heap →
      s₁.heap.get? fa=some o→o.data=.func (docDef d.name d.params d.body d.scope pm cd doc)→s₁.heap.CodeRec cd d.name→mg d.name=some (.ref fa) →
      s₁.heap.get? a=some { cls:=.type "list",data:=.seq vs.toArray }→IntsAre vs ns→ns.length≤n→s₁.gens=#[] →
      codeAny (model l.prog w) callerA (.call (.ref fa) ⟨[.ref a],[]⟩) (fun r s'=>r=.ok (.ret (.bool true))∧OldK s₁.heap s'.heap∧s'.os=s₁.os∧AllBare s'.gens) s₁) :
    WalkO q loose XP YP l.row.toRowW d [] (fun f vs=>PySem.call f vs):=by
  intro w s₀ s₁ mg mb G Y fa o pm cd doc dV kV ho hd hcd hD hmg hg args vals as hpre hlay hrd hwl hlo
  obtain rfl:dV=.none:=Dflts.none hD hdf
  obtain rfl:kV=.none:=Dflts.noKw hD
  obtain ⟨a,vs,ns,rfl,rfl,hobj,hints,hlen⟩:=script_of hn hpre hwl
  refine enter_call (codeAny_mono (call w s₀ s₁ mg mb fa o pm cd doc a vs ns G Y ho (fd_plain hd) hcd hmg hobj hints hlen hg) fun r s' hq=>?_)
  obtain ⟨rfl,h2,h3,h4⟩:=hq
  exact ⟨.inl ⟨.bool true,.bool true,[],rfl,fun _=>rfl,.bool true,post_true l _,fun _=>⟨List.Pairwise.nil,fun _ hm=>(nomatch hm)⟩⟩,h2,h3,h4⟩
section
variable {prog:Program} {w:World} {A:Around} {E:Value→Shared→Prop} {s:Shared} {K:Frag}
end
end Att
namespace L2
open PySem PySem.Spec PyProof.Rows
theorem vals_ints:∀{vs:List Value} {ns:List Int},IntsAre vs ns→Vals (ns.map V.int) vs
  | _,_,.nil=>.nil
  | _,_,.cons n t h=>.cons ⟨t,rfl⟩ (vals_ints h)
def Only (H:Hp):Prop:=∀b,H b=none∨∃o xs,H b=some (.frz o (.lst xs))
end L2
namespace L2
open PySem PySem.Spec PyProof.Rows
end L2
namespace L2
open PySem PySem.Spec PyProof.Rows
abbrev CX0:CXT:=fun _ _ _ _ _ _=>False
abbrev E0:XK:=fun _ _ _=>False
theorem pass0 {X:Cx}:Passes CX0 X E0:=fun _ _ _ _ _ _ _ h=>h.elim
structure Fun (K:PySem.W.Frag) (x qual:Str) (st:Stmt) (f:Addr) (fd:FuncData):Prop where
  ex:∃(oc:Value) (od:Option Addr) (kV doc pm:Value) (an:Option Addr) (cdv ct:Value) (osl:Array (Option Value)),
    fd=PySem.W.fnOf x qual (defArgs st) (defBody st) (defScope st) .none kV doc pm an cdv ct∧K.lookup f=some ⟨oc,od,.func fd,osl⟩∧PySem.W.codeIn K cdv qual=true
  kp:PySem.W.keepIn K (.ref f)=true
section
variable {P:Program} {w:World} {K:PySem.W.Frag} {mg:Str→Option Value} {base:Heap}
theorem Fun.ok {x qual:Str} {st:Stmt} {f:Addr} {fd:FuncData} {N ps:List Str} {k:Nat} {sp:Sp} (F:Fun K x qual st f fd) (S:FnScope N ps (defScope st)) (len:∀vs H Q E,sp vs H Q E→vs.length=ps.length)
    (hbody:∀(cdv:Value) (A:Around) (outer:List Env) (s:Shared) (H:Hp) (vs:List V) (Q:VK) (E:XK),Room k (A.deeper (envOfC qual (defScope st) s.heap.objs.size f cdv))→sp vs H Q E →
      ∃t,PSs (cxOf CX0 P w K mg base N qual (defScope st) f cdv A outer s H E).nox (defBody st) t∧t { nx:=fun _ H'=>Q .non H',rt:=Q } (start N vs) H):FnOk P w K mg base CX0 (k+1) f fd ps sp:=by
  obtain ⟨oc,od,kV,doc,pm,an,cdv,ct,osl,rfl,lk,hcd⟩:=F.ex
  refine fn_of lk hcd S len fun A outer s H vs Q E hr hsp=>?_
  obtain ⟨t,h,q⟩:=hbody cdv A outer s H vs Q E hr hsp
  exact ⟨t,h.nox,q⟩
theorem Fun.binds {x qual:Str} {st:Stmt} {f:Addr} {fd:FuncData} {ps:List Str} (F:Fun K x qual st f fd)
    (h:∀(kV doc pm:Value) (an:Option Addr) (cdv ct:Value) (us:List Value),us.length=ps.length→bindArgs (PySem.W.fnOf x qual (defArgs st) (defBody st) (defScope st) .none kV doc pm an cdv ct) ⟨us,[]⟩=pure (ps.zip us)):Binds K fd ps []:=by
  obtain ⟨oc,od,kV,doc,pm,an,cdv,ct,osl,rfl,lk,hcd⟩:=F.ex
  exact .all (h kV doc pm an cdv ct)
theorem fun_mk {x qual:Str} {st:Stmt} {f:Addr} {oc:Value} {od an:Option Addr} {osl:Array (Option Value)} {kV doc pm cdv ct:Value} (l:K.lookup f=some ⟨oc,od,.func (PySem.W.fnOf x qual (defArgs st) (defBody st) (defScope st) .none kV doc pm an cdv ct),osl⟩)
    (c:PySem.W.codeIn K cdv qual=true) (k:PySem.W.keepIn K (.ref f)=true):Fun K x qual st f (PySem.W.fnOf x qual (defArgs st) (defBody st) (defScope st) .none kV doc pm an cdv ct):=⟨⟨oc,od,kV,doc,pm,an,cdv,ct,osl,rfl,l,c⟩,k⟩
end
section
variable {X:Cx}
theorem pv (i:Nat) {x:Str} {pos:Pos} (hN:X.N[i]?=some x:=by rfl) (hv:Vis X.env.scope x:=by first | exact Or.inl rfl | exact Or.inr (Or.inl rfl) | exact Or.inr (Or.inr rfl)) (hd:(x == ("__debug__" : Str))=false:=by decide)
    (hcd:(x == ("__classdict__" : Str))=false:=by decide):PE X (.Name x pos) (tVar i):=pe_var hN hv hd hcd
end
theorem iteF {A B:Prop} (h:B):if false=true then A else B:=by
  rw [if_neg Bool.false_ne_true]
  exact h
theorem iteT {A B:Prop} (h:A):if true=true then A else B:=by
  rw [if_pos rfl]
  exact h
theorem iteNS {c A B:Prop} [Decidable c] (hc:c) (h:B):if (!decide c)=true then A else B:=by
  rw [decide_eq_true hc]
  exact iteF h
def Same (H H':Hp):Prop:=∀b o,H b=some o→H' b=some o
theorem Same.refl (H:Hp):Same H H:=fun _ _ h=>h
theorem Same.trans {H H1 H2:Hp} (a:Same H H1) (b:Same H1 H2):Same H H2:=fun c o h=>b c o (a c o h)
theorem Same.free {H H':Hp} (e:Same H H') {l:Addr} (h:H' l=Option.none):H l=Option.none:=by
  cases q:H l with
  | none=>rfl
  | some o =>
    rw [e l o q] at h
    cases h
theorem Same.seq {K:PySem.W.Frag} {H H':Hp} {a:Addr} {xs:List V} (e:Same H H') (h:SqL K H a xs):SqL K H' a xs:=by
  rcases h with (h | ⟨o,h⟩) | h
  · exact .inl (.inl (e _ _ h))
  · exact .inl (.inr ⟨o,e _ _ h⟩)
  · exact .inr h
end L2
namespace RV
open PySem
open Sem (wp)
theorem slot_next:Slot "list_reverseiterator" "__next__" "list_reverseiterator.__next__" :=
  .of (owner := "list_reverseiterator") (n := "__next__") (by rw [typeLookup_type,builtinLookup_eq_fast];kernel_rfl) (by decide +kernel) (by decide +kernel) (by decide +kernel)
    (by first | exact .inl (by decide +kernel) | exact .inr (by decide +kernel)) (by rw [isSubtype_type];kernel_rfl)
theorem entry_next:entryFor table "list_reverseiterator.__next__" = some Builtin.«list_reverseiterator.__next__»:=entryFor_of_tree (by kernel_rfl)
theorem slot_iter:Slot "list_reverseiterator" "__iter__" "list_reverseiterator.__iter__" :=
  .of (owner := "list_reverseiterator") (n := "__iter__") (by rw [typeLookup_type,builtinLookup_eq_fast];kernel_rfl) (by decide +kernel) (by decide +kernel) (by decide +kernel)
    (by first | exact .inl (by decide +kernel) | exact .inr (by decide +kernel)) (by rw [isSubtype_type];kernel_rfl)
theorem entry_iter:entryFor table "list_reverseiterator.__iter__" = some Builtin.«dict_keyiterator.__iter__» :=
  entryFor_alias (id' := "dict_keyiterator.__iter__") (by kernel_rfl) (by first | rfl | decide +kernel | (unfold String.splitOn;simp +decide [String.splitOnAux])) (by decide +kernel) (by kernel_rfl)
theorem args_next (a:Value):argsOk "list_reverseiterator.__next__" ⟨[a],[]⟩:=by
  unfold argsOk
  kernel_rfl
theorem args_iter (a:Value):argsOk "list_reverseiterator.__iter__" ⟨[a],[]⟩:=by
  unfold argsOk
  kernel_rfl
theorem mro_reversed:mroOf (.type "reversed")=pure [.type "reversed",.type "object"]:=by rw [mroOf_type];kernel_rfl
theorem lookup_reversed_new:typeLookup (.type "reversed") "__new__" = pure (some (.builtin "reversed.__new__")):=by rw [typeLookup_type,builtinLookup_eq_fast];kernel_rfl
theorem entry_reversed_new:entryFor table "reversed.__new__" = some Builtin.«reversed.__new__»:=entryFor_of_tree (by kernel_rfl)
theorem typeCall_reversed_1 (a:Value):checkTypeCall "reversed" ⟨[a],[]⟩=pure ():=by kernel_rfl
theorem newCall_reversed_1 (a:Value):checkBuiltinCall "reversed.__new__" ⟨[.type "reversed",a],[]⟩=pure ():=by kernel_rfl
theorem sub_reviter:isSubtype (.type "list_reverseiterator") (.type "reversed")=pure false:=by rw [isSubtype_type];kernel_rfl
theorem madeBy_reversed:Bind.madeBy (.type "reversed")=pure (some "reversed.__new__"):=madeBy_type mro_reversed lookup_reversed_new (by decide +kernel)
theorem plain_reversed:plainId "reversed.__new__" = true:=by decide +kernel
theorem meets_new (l:Addr) (items:Array Value) (n:Nat) :
    Meets (Builtin.«reversed.__new__» ⟨[.type "reversed",.ref l],[]⟩) (fun _ R s=>s.heap.get? l=some { cls:=.type "list",dict:=none,data:=.seq items n,slots:=#[] } ∧
      R (.ok (.ret (.ref s.heap.objs.size))) { s with heap:=s.heap.push { cls:=.type "list_reverseiterator",data:=.fields #[.ref l,rawInt (((items.size:Nat):Int) - 1)] } }) :=
  .of_wp fun prog w A R s h=>by
    obtain ⟨hl,h⟩:=h
    have hsub:isSubtype (.type "reversed") (.type "reversed")=pure true:=by rw [isSubtype_type];kernel_rfl
    have hT:s.TypeIs (.ref l) "list" := ⟨_,hl,rfl⟩
    wp_walk using (wpAny_specialOf hT F.slot_list_reversed.lookup)
    rw [F.slot_list_reversed.bind]
    refine wpAny_pure ?_
    show wpAny _ _ (rule "reversed.__new__.own-method" >>= _) _ _ _
    refine wpAny_bind (wpAny_rule (wpAny_bind ?_))
    show wpAny _ _ (call (.builtin "list.__reversed__") [.ref l]) _ _ _
    refine call_meets F.slot_list_reversed hT F.entry_list_reversed (F.args_list_reversed_1 _) (AutoListH.list___reversed___list_0 l items n) ⟨hl,?_⟩
    exact wpAny_pure ⟨_,rfl,h⟩
section
variable {prog:Program} {w:World} {A:Around} {E:Value→Shared→Prop} {s:Shared}
theorem call_rev {l:Addr} {items:Array Value} {n:Nat} {Q:Value→Shared→Prop} (hl:s.heap.get? l=some { cls:=.type "list",dict:=none,data:=.seq items n,slots:=#[] })
    (h:Q (.ref s.heap.objs.size) { s with heap:=s.heap.push { cls:=.type "list_reverseiterator",data:=.fields #[.ref l,rawInt (((items.size:Nat):Int) - 1)] } }) :
    wpAny (model prog w) A (call (.type "reversed") [.ref l]) Q E s:=by
  have hmro:=mro_reversed
  have hmade:=madeBy_reversed
  have hsub:=sub_reviter
  have hct:=typeCall_reversed_1 (.ref l)
  refine wpAny_call (codeAny_of_tree ?_)
  show wpAny _ _ (callAny (.type "reversed") _) _ _ _
  refine wpAny_pure ⟨Code.quiet_builtin _ (by decide +kernel),codeAny_builtin F.entry_type_call ?_⟩
  rw [Around.under_plain (weight_type_call_type "reversed" [.ref l] []) (units_type_call_type "reversed" [.ref l] [])]
  have h1:(Value.type "reversed" == Value.type "type")=false:=by decide +kernel
  have h2:((Manifest.find? "reversed").bind (·.mro.findSome? fun t=>(Manifest.find? t).bind fun b=>if b.noNew then some true else if b.attrs.any (·.1 == "__new__") then some false else none)).getD false=false:=by decide +kernel
  repeat (any_goals (first | assumption | wp_step))
  refine codeAny_mono (codeAny_call_builtin plain_reversed entry_reversed_new (wpAny_of_eq (newCall_reversed_1 _) (meets_new l items n prog w A.in1 (wants (fun obj s₁=>obj=.ref s.heap.objs.size∧s₁={ s with heap:=s.heap.push { cls:=.type "list_reverseiterator",data:=.fields #[.ref l,rawInt (((items.size:Nat):Int) - 1)] } }) E) s ⟨hl,rfl,rfl⟩))) fun r s₁ hr=>?_
  cases r with
  | error e=>exact hr
  | ok fl =>
    cases fl with
    | ret obj =>
      obtain ⟨rfl,rfl⟩:=hr
      have hT:Shared.TypeIs { s with heap:=s.heap.push { cls:=.type "list_reverseiterator",data:=.fields #[.ref l,rawInt (((items.size:Nat):Int) - 1)] } } (.ref s.heap.objs.size) "list_reverseiterator" := ⟨_,Heap.get?_push_size _ rfl,rfl⟩
      repeat (any_goals (first | assumption | wp_step))
    | _=>exact hr.elim
def IsRev (h:Heap) (a l:Addr) (i:Int):Prop:=∃o,h.get? a=some o∧o.cls=.type "list_reverseiterator" ∧ o.data=.fields #[.ref l,rawInt i]
theorem next_item {it l:Addr} {i:Nat} {items:Array Value} {x:Value} {Q:Option Value→Shared→Prop} (hit:IsRev s.heap it l i)
    (hl:s.heap.IsList l items) (hx:items[i]?=some x)
    (hQ:∀h',IsRev h' it l ((i:Int) - 1)→Heap.SameBut it s.heap h'→Q (some x) { s with heap:=h' }) :
    wpAny (model prog w) A (pyNext (.ref it)) Q E s:=by
  obtain ⟨o,ho,hc,hd⟩:=id hit
  obtain ⟨ol,hol,_,nl,hdl⟩:=hl
  have hT:s.TypeIs (.ref it) "list_reverseiterator" := ⟨o,ho,hc⟩
  unfold pyNext
  refine wpAny_bind (wpAny_attempt (wpAny_callSpecial?_slot (name:=Str.ofString "__next__") hT slot_next
    (wpAny_call_entry slot_next hT entry_next ?_ (args_next _))))
  show wpAny _ _ (field (.ref it) 1 >>= _) _ _ s
  refine wpAny_bind (wpAny_field ho hd (x:=rawInt i) rfl ?_)
  show wpAny _ _ (if (i:Int)<0 then _ else _) _ _ s
  rw [if_neg (by omega)]
  show wpAny _ _ (field (.ref it) 0 >>= _) _ _ s
  refine wpAny_bind (wpAny_field ho hd (x:=.ref l) rfl ?_)
  show wpAny _ _ (seqItems? (.ref l) >>= _) _ _ s
  refine wpAny_bind (wpAny_seqItems hol hdl ?_)
  simp only [Int.toNat_natCast,hx]
  refine wpAny_bind (wpAny_setField ho hd (by simp) (wpAny_pure ⟨x,rfl,wpAny_pure (hQ _ ?_ (Heap.SameBut.update ..))⟩))
  exact ⟨_,Heap.get?_update_self _ ho (Obj.isFreed_of_fields (Obj.data_mapFields hd _)),(Obj.cls_mapFields ..).trans hc,by
    rw [Obj.data_mapFields hd];simp [rawInt]⟩
theorem next_end {it l:Addr} {Q:Option Value→Shared→Prop} (hh:A.handled=none)
    (hit:IsRev s.heap it l (-1)) (hQ:∀h',Heap.ExtBut it s.heap h'→Q none { s with heap:=h' }):wpAny (model prog w) A (pyNext (.ref it)) Q E s:=by
  obtain ⟨o,ho,hc,hd⟩:=id hit
  have hT:s.TypeIs (.ref it) "list_reverseiterator" := ⟨o,ho,hc⟩
  unfold pyNext
  refine wpAny_bind (wpAny_attempt (wpAny_callSpecial?_slot (name:=Str.ofString "__next__") hT slot_next
    (wpAny_call_entry slot_next hT entry_next ?_ (args_next _))))
  show wpAny _ _ (field (.ref it) 1 >>= _) _ _ s
  refine wpAny_bind (wpAny_field ho hd (x:=rawInt (-1)) rfl ?_)
  show wpAny _ _ (if (-1:Int)<0 then _ else _) _ _ s
  rw [if_pos (by omega)]
  refine wpAny_bind (wpAny_rule (wpAny_bind ?_))
  show wpAny _ _ (newExc (.type "StopIteration") [] >>= _) _ _ _
  refine wpAny_bind ?_
  simp only [newExc,newTuple]
  refine wpAny_bind (wpAny_newObj_type ?_ (by size_fits))
  refine wpAny_bind (m:=firstArgMember _ _) (wpAny_of_eq (a:=Value.none) (by first | rfl | (simp only [firstArgMember];rfl)) ?_)
  refine wpAny_newObj_type ?_ (by size_fits)
  simp only [raiseNew]
  refine wpAny_bind (wpAny_handled ?_)
  rw [show A.in1.handled=none from hh]
  refine wpAny_bind (wpAny_pure (wpAny_throw ?_))
  refine wpAny_bind (wpAny_isInstance (T := "StopIteration") (b:=true) ⟨_,Heap.get?_push_size _ rfl,rfl⟩ isSubtype_stop ?_)
  exact wpAny_pure (hQ _ (((show Heap.ExtBut it s.heap s.heap from fun _ _ _ e=>e).push _).push _))
theorem iter_self {it l:Addr} {i:Int} {Q:Value→Shared→Prop} (hit:IsRev s.heap it l i) (h:Q (.ref it) s):wpAny (model prog w) A (pyIter (.ref it)) Q E s:=by
  obtain ⟨o,ho,hc,hd⟩:=id hit
  have hT:s.TypeIs (.ref it) "list_reverseiterator" := ⟨o,ho,hc⟩
  refine wpAny_pyIter_slot hT slot_iter (wpAny_call_entry slot_iter hT entry_iter ?_ (args_iter _))
  show wpAny _ _ (ret (.ref it)) _ _ s
  exact wpAny_pure ⟨_,rfl,"list_reverseiterator",_,hT,slot_next.lookup,h⟩
end
end RV
namespace L2
open PySem PySem.Spec PyProof.Rows
def clOf (env:Env):List (Str×NameKind)→List (Str×Addr)→List (Str×Addr)
  | [],acc=>acc
  | (n,k)::r,acc=>clOf env r (if k == .free then (match env.cells.lookup n with | some c=>(n,c)::acc | none=>acc) else acc)
theorem closureFor_eq {env:Env} {scope:Scope} (h:∀x∈scope.names,x.2=.free→∃c,env.cells.lookup x.1=some c):closureFor scope env=pure (clOf env scope.names []):=by
  have gen:∀(l:List (Str×NameKind)) (acc:List (Str×Addr)),(∀x∈l,x.2=.free→∃c,env.cells.lookup x.1=some c) →
      (forIn l acc (fun x r=>if (x.2 == NameKind.free)=true then (cellOf env x.1 >>= fun c=>pure (ForInStep.yield ((x.1,c)::r))) else pure (ForInStep.yield r)):Sem _)=pure (clOf env l acc):=by
    intro l
    induction l with
    | nil=>intro acc _;rfl
    | cons x r ih =>
      intro acc hx
      obtain ⟨n,k⟩:=x
      rw [List.forIn_cons]
      by_cases hk:k=.free
      · subst hk
        obtain ⟨c,hc⟩:=hx _ List.mem_cons_self rfl
        have hc':cellOf env n=pure c:=by unfold cellOf;simp at hc;rw [hc]
        simp at hc
        simp only [clOf,hc',hc]
        have:=ih ((n,c)::acc) fun y hy=>hx y (List.mem_cons_of_mem _ hy)
        exact this
      · have hb:(k == NameKind.free)=false:=by simpa using hk
        simp only [clOf,hb]
        exact ih acc fun y hy=>hx y (List.mem_cons_of_mem _ hy)
  have:=gen scope.names [] h
  simp only [closureFor]
  rw [this]
  rfl
theorem clOf_sub {env:Env}:∀(l:List (Str×NameKind)) (acc:List (Str×Addr)),(∀p∈acc,env.cells.lookup p.1=some p.2)→∀p∈clOf env l acc,env.cells.lookup p.1=some p.2
  | [],_,h=>h
  | (n,k)::r,acc,h=>by
    unfold clOf
    refine clOf_sub r _ ?_
    split
    · split
      · rename_i c hc
        intro p hp
        rcases List.mem_cons.mp hp with rfl | hp
        · exact hc
        · exact h p hp
      · exact h
    · exact h
theorem clOf_keeps {env:Env}:∀(l:List (Str×NameKind)) (acc:List (Str×Addr)),∀p∈acc,p∈clOf env l acc
  | [],_,_,h=>h
  | (n,k)::r,acc,p,h=>by
    unfold clOf
    refine clOf_keeps r _ p ?_
    split
    · split
      · exact List.mem_cons_of_mem _ h
      · exact h
    · exact h
theorem clOf_has {env:Env} {x:Str} {c:Addr} (hc:env.cells.lookup x=some c):∀(l:List (Str×NameKind)) (acc:List (Str×Addr)),(x,NameKind.free)∈l→(x,c)∈clOf env l acc
  | [],_,h=>nomatch h
  | (n,k)::r,acc,h=>by
    unfold clOf
    rcases List.mem_cons.mp h with e | h
    · cases e
      refine clOf_keeps r _ _ ?_
      rw [hc]
      simp
    · exact clOf_has hc r _ h
theorem lookup_of_mem {κ β:Type} [BEq κ] [LawfulBEq κ] {x:κ} {b:β}:∀{l:List (κ×β)},(x,b)∈l→∃c,l.lookup x=some c
  | [],h=>nomatch h
  | (n,k)::r,h=>by
    rw [List.lookup_cons]
    cases e:x == n with
    | true=>exact ⟨_,rfl⟩
    | false =>
      rcases List.mem_cons.mp h with q | q
      · cases q;simp at e
      · exact lookup_of_mem q
theorem relabel_free {env:Env} {x:Str}:∀{l:List (Str×NameKind)},l.lookup x=some .free →
    (l.map fun (n,k)=>if (k == NameKind.free&&env.scope.kind == .function&&env.kindOf n == some .cell) then (n,NameKind.cell) else (n,k)).lookup x=some .cell ∨
    (l.map fun (n,k)=>if (k == NameKind.free&&env.scope.kind == .function&&env.kindOf n == some .cell) then (n,NameKind.cell) else (n,k)).lookup x=some .free
  | [],h=>by simp at h
  | (n,k)::r,h=>by
    have ih:=@relabel_free env x r
    rw [List.map_cons]
    cases hx:x == n with
    | true =>
      simp only [List.lookup_cons,hx] at h
      cases h
      by_cases hc:(NameKind.free == NameKind.free&&env.scope.kind == .function&&env.kindOf n == some .cell)=true
      · left;simp only [hc,if_true,List.lookup_cons,hx]
      · right;simp only [hc,List.lookup_cons,hx];simp only [Bool.not_eq_true] at hc;simp only [hc,Bool.false_eq_true,if_false,List.lookup_cons,hx]
    | false =>
      simp only [List.lookup_cons,hx] at h
      by_cases hc:(k == NameKind.free&&env.scope.kind == .function&&env.kindOf n == some .cell)=true
      · simp only [hc,if_true,List.lookup_cons,hx];exact ih h
      · simp only [Bool.not_eq_true] at hc;simp only [hc,Bool.false_eq_true,if_false,List.lookup_cons,hx];exact ih h
theorem relabel_back {env:Env} {x:Str}:∀{l:List (Str×NameKind)},(∀y∈l,y.2≠.cell) →
    ((l.map fun (n,k)=>if (k == NameKind.free&&env.scope.kind == .function&&env.kindOf n == some .cell) then (n,NameKind.cell) else (n,k)).lookup x=some .cell ∨
    (l.map fun (n,k)=>if (k == NameKind.free&&env.scope.kind == .function&&env.kindOf n == some .cell) then (n,NameKind.cell) else (n,k)).lookup x=some .free)→(x,NameKind.free)∈l
  | [],_,h=>by simp at h
  | (n,k)::r,hn,h=>by
    have ih:=@relabel_back env x r fun y hy=>hn y (List.mem_cons_of_mem _ hy)
    rw [List.map_cons] at h
    cases hx:x == n with
    | true =>
      have e:x=n:=by simpa using hx
      subst e
      by_cases hk:k=.free
      · subst hk;exact List.mem_cons_self
      · have hb:(k == NameKind.free)=false:=by simpa using hk
        simp only [hb,Bool.false_and,Bool.false_eq_true,if_false,List.lookup_cons,hx] at h
        rcases h with h | h
        · cases h;exact absurd rfl (hn _ List.mem_cons_self)
        · cases h;exact absurd rfl hk
    | false =>
      refine List.mem_cons_of_mem _ (ih ?_)
      by_cases hc:(k == NameKind.free&&env.scope.kind == .function&&env.kindOf n == some .cell)=true
      · simp only [hc,if_true,List.lookup_cons,hx] at h;exact h
      · simp only [Bool.not_eq_true] at hc;simp only [hc,Bool.false_eq_true,if_false,List.lookup_cons,hx] at h;exact h
def cxComp (X:Cx) (scope:Scope) (N:List Str) (C:Addr) (s₀:Shared) (H₀:Hp) (ex:List Addr):Cx where
  prog:=X.prog
  w:=X.w
  K:=X.K
  mg:=X.mg
  base:=X.base
  A:=X.A
  N:=N
  s₀:=s₀
  H₀:=H₀
  env:=compEnvC scope (clOf X.env scope.names []) C X.env
  outer:=X.stack
  stack:=X.stack
  ex:=ex
  fn:=fun _=>false
  calm:=X.calm
  pn:=[]
  xe:=fun _ _=>False
def capσ (σ:St) (cap:List Nat) (k:Nat):St:=cap.map (fun i=>(σ[i]?).join)++List.replicate k none
structure CompScope (X:Cx) (scope:Scope) (N:List Str) (cap:List Nat) (k:Nat):Prop where
  kind:scope.kind=.function
  nocell:∀y∈scope.names,y.2≠.cell
  free:∀y∈scope.names,y.2=.free→X.env.kindOf y.1=some .cell∨X.env.kindOf y.1=some .free
  loc:∀y∈scope.names,y.2=.local→scope.names.lookup y.1=some .local
  caps:∀x∈N.take cap.length,scope.names.lookup x=some .free
  at':cap.map (fun i=>X.N[i]?)=(N.take cap.length).map some
  len:N.length=cap.length+k
theorem inv_comp {X:Cx} {scope:Scope} {N:List Str} {cap:List Nat} {k:Nat} {pins:List (Addr×Obj)} {σ:St} {H:Hp} {s:Shared} {ex:List Addr} {h₁:Heap} {m0:Str→Option Value} {o:Obj} {t:Nat}
    (S:CompScope X scope N cap k) (I:Inv X pins σ H s) (hx:∀b∈ex,FpOk X pins H b∧b<s.heap.objs.size) (hns:h₁.Ns s.heap.objs.size m0) (hsb:Heap.SameBut s.heap.objs.size (s.heap.push o) h₁) :
    Inv (cxComp X scope N s.heap.objs.size s H ex) [] (capσ σ cap k) H { s with heap:=h₁,toks:=t }:=by
  have old:∀b u,s.heap.get? b=some u→h₁.get? b=some u:=fun b u e=>hsb.extBut b u (Nat.ne_of_lt (Heap.lt_size e)) (Heap.get?_push_of_some _ e)
  have sub:∀x c,(clOf X.env scope.names []).lookup x=some c→X.env.cells.lookup x=some c:=fun x c e=>clOf_sub (env:=X.env) scope.names [] (fun _ z=>nomatch z) (x,c) (PySem.mem_of_lookup e)
  have kf:∀x,(x,NameKind.free)∈scope.names→∃c,X.env.cells.lookup x=some c∧(clOf X.env scope.names []).lookup x=some c:=fun x hm=>by
    obtain ⟨c,hc⟩:=I.ok.has x (S.free _ hm rfl)
    obtain ⟨c',hc'⟩:=lookup_of_mem (clOf_has hc scope.names [] hm)
    have:=sub x c' hc'
    rw [hc] at this;cases this
    exact ⟨c,hc,hc'⟩
  refine ⟨⟨I.ok.mod,?_,I.ok.glob,I.ok.blt,Nat.le_refl _,fun x y c h1 h2=>I.ok.inj x y c (sub x c h1) (sub y c h2),fun x hk=>?_,fun x c hf _=>(nomatch hf),I.ok.hd,I.ok.frames,.inl rfl,fun b hb=>⟨Nat.ne_of_lt (hx b hb).2,fun x c e=>(hx b hb).1.2.2.2.2.1 x c (sub x c e)⟩,I.bs,Nat.le_trans I.ok.bsz I.sz,fun b ob e hb=>?_,fun b hb z=>?_,I.stack,I.stkFree⟩,
    rfl,I.bare,Un.kept old,⟨m0,hns,fun i x v e1 e2 e3=>?_⟩,fun x c e=>?_,I.hok.fresh (Nat.le_refl _),fun x c e=>I.freeC x c (sub x c e),fun p hp=>absurd (show p∈([]:List (Addr×Obj)) from hp) (by simp),I.hok.kept old,?_⟩
  · exact S.kind
  · obtain ⟨c,_,h2⟩:=kf x (relabel_back (env:=X.env) S.nocell hk)
    exact ⟨c,h2⟩
  · rcases (hx b hb).1.2.2.2.1 with z | z
    · exact I.ok.noex b ob e z
    · exact absurd (Nat.lt_of_lt_of_le (Heap.lt_size (I.ok.bs b ob e).1) z) (Nat.lt_irrefl _)
  · rcases List.mem_cons.mp (I.stkSub b z) with e | e
    · exact (hx b hb).1.2.1 e
    · exact (hx b hb).1.2.2.1 e
  · -- a name from around
    have hi:i<cap.length:=by
      by_cases hi:i<cap.length
      · exact hi
      · unfold capσ at e2
        rw [List.getElem?_append_right (by simpa using hi),List.getElem?_replicate] at e2
        split at e2 <;> cases e2
    have hv:(σ[cap[i]]?).join=some v:=by
      unfold capσ at e2
      rw [List.getElem?_append_left (by simpa using hi),List.getElem?_map,List.getElem?_eq_getElem hi] at e2
      exact Option.some.inj e2
    have hv':σ[cap[i]]?=some (some v):=by
      cases q:σ[cap[i]]? with
      | none=>rw [q] at hv;cases hv
      | some z=>rw [q] at hv;exact congrArg some hv
    have e1':N[i]?=some x:=e1
    have hN:(N.take cap.length)[i]?=some x:=by rw [List.getElem?_take_of_lt hi];exact e1'
    have hXN:X.N[cap[i]]?=some x:=by
      have q:=congrArg (fun l=>l[i]?) S.at'
      simp only [List.getElem?_map,hN,List.getElem?_eq_getElem hi,Option.map_some] at q
      exact Option.some.inj q
    have hfx:=S.caps x (List.mem_of_getElem? hN)
    have hm:(x,NameKind.free)∈scope.names:=PySem.mem_of_lookup hfx
    have hkx:=S.free _ hm rfl
    obtain ⟨m,hn,hl⟩:=I.loc
    obtain ⟨u,r,l⟩:=hl _ x v hXN hv' (.inr hkx)
    refine ⟨u,r,.inr ⟨relabel_free (env:=X.env) hfx,?_⟩⟩
    obtain ⟨c,hc,hc'⟩:=kf x hm
    rcases l with ⟨z,_⟩ | ⟨_,c2,q,z⟩
    · rcases hkx with y | y <;> (rw [y] at z;cases z)
    · rw [hc] at q;cases q
      obtain ⟨ob,ho,hd⟩:=z
      exact ⟨c,hc',ob,old _ _ ho,hd⟩
  · obtain ⟨v,ob,ho,hd⟩:=I.cell x c (sub x c e)
    exact ⟨v,ob,old _ _ ho,hd⟩
  · show (capσ σ cap k).length=N.length
    unfold capσ
    rw [List.length_append,List.length_map,List.length_replicate,S.len]
theorem Inv.track {X:Cx} {pins:List (Addr×Obj)} {σ:St} {H:Hp} {s:Shared} {D:Addr} {ys:List V} {its:List Value} {n:Nat} (I:Inv X pins σ H s) (hn:H D=none)
    (he:s.heap.get? D=some { cls:=.type "list",data:=.seq its.toArray n }) (hv:Vals ys its) (hz:ys.length≤sizeLine) (h0:X.s₀.heap.objs.size≤D) (hL:D≠X.env.locals)
    (hc:∀x c,X.env.cells.lookup x=some c→c≠D) (hp:∀p∈X.pn++pins,p.1≠D):Inv X pins σ (upd H D (.lst ys)) s:=by
  refine ⟨I.ok,I.os,I.bare,⟨I.base.keep,I.base.slot,fun b o e n hx=>?_,I.base.there,fun b xs e=>?_,fun b o u e=>?_,fun b ps e=>?_⟩,I.loc,I.cell,?_,fun x c e=>?_,fun p hq=>?_,fun b u e=>?_,I.len⟩
  · rw [upd_ne (Nat.ne_of_lt (Nat.lt_of_lt_of_le (Heap.lt_size e) h0))];exact I.base.free b o e n hx
  · have q:=I.base.tups b xs e
    rw [upd_ne (ne_of_none q hn)];exact q
  · have q:=I.base.frzs b o u e
    rw [upd_ne (ne_of_none q hn)];exact q
  · obtain ⟨more,q⟩:=I.base.tbls b ps e
    exact ⟨more,by rw [upd_ne (ne_of_none q hn)];exact q⟩
  · rw [upd_ne (Ne.symm hL)];exact I.free
  · rw [upd_ne (hc x c e)];exact I.freeC x c e
  · obtain ⟨a,b,c,d,e⟩:=I.pin p hq
    exact ⟨a,by rw [upd_ne (hp p hq)];exact b,c,d,e⟩
  · by_cases hb:b=D
    · subst hb
      rw [upd_same] at e;cases e
      exact ⟨hz,its,n,hv,he⟩
    · rw [upd_ne hb] at e
      exact (I.hok b u e).stay (fun _ _ _ q=>q) (fun c q=>by rw [upd_ne (ne_of_none q hn)];exact q) fun c xs q=>by rw [upd_ne (ne_of_none q hn)];exact q
theorem compLoop_any {prog:Program} {w:World} {A:Around} {R:Result→Shared→Prop} {s:Shared} {elt target iter:Expr} {scope:Scope} {pos:Pos} {it acc:Value} {env:Env} (I:Nat→Shared→Prop)
    (turn:∀n s,I n s→wpAny (model prog w) A (pyNext it) (fun r s₁=>match r with
      | none=>R (.ok .next) s₁
      | some v=>wpAny (model prog w) A (letOwnedTupleGo target it v) (fun _ s₂=>wpAny (model prog w) A (assign target env v) (fun _ s₃=>wpAny (model prog w) A (eval elt env) (fun x s₄ =>
          wpAny (model prog w) A (call (.builtin "list.append") [acc,x]) (fun _ s₅=>∃m,m<n∧I m s₅) (fun _ _=>False) s₄)
          (fun _ _=>False) s₃) (fun _ _=>False) s₂) (fun _ _=>False) s₁) (fun _ _=>False) s)
    (n:Nat) (h:I n s) :
    codeAny (model prog w) A (.compLoop (.ListComp elt [⟨target,iter,[],0⟩] scope pos) 0 it acc env) R s:=by
  refine codeAny_loop rfl I (fun n s hI=>?_) n h
  show wpAny _ _ ((compTurn (.ListComp elt [⟨target,iter,[],0⟩] scope pos) 0 it acc env).onRaise (fun x=>do noteFrame x env;theTreesLotGoes x)) _ _ s
  refine wpAny_noted ?_
  rw [compTurn_list1]
  refine wpAny_bind (wpAny_standAt (wpAny_bind (wpAny_mono (turn n s hI) (fun r s₁ h₁=>?_) fun _ _ h'=>h'.elim)))
  cases r with
  | none=>exact wpAny_pure h₁
  | some v =>
    refine wpAny_bind (wpAny_mono h₁ (fun _ s₂ h₂=>?_) fun _ _ h'=>h'.elim)
    exact wpAny_bind (wpAny_mono h₂ (fun _ s₃ h₃=>wpAny_bind (wpAny_bind (wpAny_mono h₃ (fun x s₄ h₄=>wpAny_bind (wpAny_mono h₄
      (fun _ s₅ h₅=>wpAny_pure (wpAny_pure ⟨rfl,h₅⟩)) fun _ _ h'=>h'.elim)) fun _ _ h'=>h'.elim))) fun _ _ h'=>h'.elim)
def CompW (J:It) (cap:List Nat) (k:Nat) (g:TG) (te:TE) (σ:St) (H1:Hp) (Q:VK):Prop :=
  ∃W:Nat→Nat→List V→Hp→Prop,(∃m,W 0 m [] H1)∧∀i m ys H,W i m ys H →
    (J.stop i H∧∀D,H D=none→Q (.ref D) (upd H D (.lst ys))) ∨
    (J.go i H∧ys.length<sizeLine∧∃Nx:VK,(∀y H3,Nx y H3→∃m',m'<m∧W (i+1) m' (ys++[y]) H3)∧∀x H',J.yld i H x H'→g x (capσ σ cap k) H' fun σ2 H2=>σ2.take cap.length=(capσ σ cap k).take cap.length∧te σ2 H2 Nx)
def tComp (wi:TI) (cap:List Nat) (k:Nat) (g:TG) (te:TE):TE:=fun σ H Q=>wi σ H fun J H1=>CompW J cap k g te σ H1 Q
end L2
namespace L2
open PySem PySem.Spec PyProof.Rows
section
variable {X:Cx} {elt tg iter:Expr} {scope:Scope} {pos:Pos} {N:List Str} {cap:List Nat} {k:Nat} {wi:TI} {g:TG} {te:TE}
theorem comp_block (S:CompScope X scope N cap k) (hc:X.calm=true)
    (hg:∀C s₀ H₀ ex,PG (cxComp X scope N C s₀ H₀ ex) tg g) (he:∀C s₀ H₀ ex,PE (cxComp X scope N C s₀ H₀ ex) elt te)
    {pins:List (Addr×Obj)} {σ:St} {H:Hp} {s:Shared} {it:Addr} {fp:List Addr} {tn:Nat→Heap→Prop} {J:It} {Q:VK} {RR:Value→Addr→Result→Shared→Prop} {E:Value→Shared→Prop}
    (I:Inv X pins σ H s) (T:Turn X.prog X.w X.K tg J fp it tn) (st:tn 0 s.heap) (hf:∀b∈fp,FpOk X pins H b)
    (W:Nat→Nat→List V→Hp→Prop) (w0:∃m,W 0 m [] H)
    (turn:∀i m ys H,W i m ys H →
      (J.stop i H∧∀D,H D=none→Q (.ref D) (upd H D (.lst ys))) ∨
      (J.go i H∧ys.length<sizeLine∧∃Nx:VK,(∀y H3,Nx y H3→∃m',m'<m∧W (i+1) m' (ys++[y]) H3)∧∀x H',J.yld i H x H'→g x (capσ σ cap k) H' fun σ2 H2=>σ2.take cap.length=(capσ σ cap k).take cap.length∧te σ2 H2 Nx))
    (hRR:∀D C s' m',(∃H',s'.heap.Ns C m'∧(∀h',Heap.SameBut C s'.heap h'→Inv X pins σ H' { s' with heap:=h' }∧X.env.locals≠C∧(∀x c,X.env.cells.lookup x=some c→c≠C))∧FpOk X pins H' C∧Q (.ref D) H')→RR (.ref D) C (.ok .next) s') :
    wpAny (model X.prog X.w) X.A (newList []) (fun acc s₃=>wpAny (model X.prog X.w) X.A (newFunctionEnv scope X.env.globals (clOf X.env scope.names []) [] X.env.qual none .none (some X.env)) (fun cenv s₄ =>
      codeAny (model X.prog X.w) X.A (.compStart (.ListComp elt [⟨tg,iter,[],0⟩] scope pos) 0 (.ref it) acc { cenv with scope:=relabel scope X.env }) (RR acc cenv.locals) s₄) E s₃) E s:=by
  refine wpAny_newObj_type (wpAny_newFunctionEnv S.nocell (by intro y hy;simp at hy) (fun h₁ hns₁ hsb₁=>?_) S.kind)
  have I3:Inv X pins σ H { s with heap:=s.heap.push { cls:=.type "list",dict:=none,data:=.seq ([]:List Value).toArray } }:=I.kept (t':=s.toks) fun b u e=>Heap.get?_push_of_some _ e
  have hD0:(s.heap.push { cls:=.type "list",dict:=none,data:=.seq ([]:List Value).toArray }).get? s.heap.objs.size=some { cls:=.type "list",data:=.seq ([]:List Value).toArray }:=Heap.get?_push_size _ rfl
  have hfpl:∀b∈fp,b<s.heap.objs.size:=fun b hb=>by
    obtain ⟨o,e,_⟩:=T.obj _ _ st b hb
    exact Heap.lt_size e
  have hDf:s.heap.objs.size∉fp:=fun hm=>Nat.lt_irrefl _ (hfpl _ hm)
  have fD:FpOk X pins H s.heap.objs.size:=I.fpOk (Nat.le_refl _) (I.hok.fresh (Nat.le_refl _))
  dsimp only at hns₁ hsb₁ ⊢
  generalize hH2:s.heap.push { cls:=.type "list",dict:=none,data:=.seq ([]:List Value).toArray }=H2 at hns₁ hsb₁ I3 hD0 ⊢
  have hsz:H2.objs.size=s.heap.objs.size+1:=by rw [←hH2,Heap.size_push]
  have hle:s.heap.objs.size≤H2.objs.size:=by rw [hsz];exact Nat.le_succ _
  have st3:tn 0 H2:=T.keep _ _ _ st fun b _ o e=>by rw [←hH2];exact Heap.get?_push_of_some _ e
  generalize hD:s.heap.objs.size=D at hD0 hDf fD hsz ⊢
  have hCD:H2.objs.size≠D:=by omega
  have IC:=inv_comp (t:=s.toks+([]:List (Str×Value)).length) (ex:=D::fp) S I3 (fun b hb=>by
    rcases List.mem_cons.mp hb with rfl | hb
    · exact ⟨fD,by show _<H2.objs.size;omega⟩
    · exact ⟨hf b hb,Nat.lt_of_lt_of_le (hfpl b hb) hle⟩) hns₁ hsb₁
  have old:∀b u,H2.get? b=some u→h₁.get? b=some u:=fun b u e=>hsb₁.extBut b u (Nat.ne_of_lt (Heap.lt_size e)) (Heap.get?_push_of_some _ e)
  have st4:tn 0 h₁:=T.keep _ _ _ st3 fun b _ o e=>old b o e
  have hD1:=old _ _ hD0
  generalize hXC:cxComp X scope N H2.objs.size { s with heap:=H2 } H (D::fp)=XC at IC
  have fpC:∀{H':Hp} {pl:List (Addr×Obj)},(∀p∈pl,p.1∉fp)→(∀b∈fp,H' b=none)→∀b∈fp,FpOk XC pl H' b:=fun {H' pl} hpl hn b hb=>by
    subst hXC
    obtain ⟨f0,f1,f2,f3,f4,f5⟩:=hf b hb
    refine ⟨hn b hb,Nat.ne_of_lt (Nat.lt_of_lt_of_le (hfpl b hb) hle),fun z=>?_,.inl (List.mem_cons_of_mem _ hb),fun x c e=>?_,fun p hp z=>?_⟩
    · rcases List.mem_cons.mp (I3.stkSub b z) with e | e
      · exact f1 e
      · exact f2 e
    · exact f4 x c (clOf_sub (env:=X.env) scope.names [] (fun _ z=>nomatch z) (x,c) (PySem.mem_of_lookup e))
    · have hp':p∈pl:=by simpa [cxComp] using hp
      exact hpl p hp' (by rw [z];exact hb)
  have fpD:∀{H':Hp},H' D=none→FpOk XC [] H' D:=fun {H'} hn=>by
    subst hXC
    obtain ⟨f0,f1,f2,f3,f4,f5⟩:=fD
    refine ⟨hn,Ne.symm hCD,fun z=>?_,.inl List.mem_cons_self,fun x c e=>?_,fun p hp z=>by simp [cxComp] at hp⟩
    · rcases List.mem_cons.mp (I3.stkSub D z) with e | e
      · exact f1 e
      · exact f2 e
    · exact f4 x c (clOf_sub (env:=X.env) scope.names [] (fun _ z=>nomatch z) (x,c) (PySem.mem_of_lookup e))
  have hgC:PG XC tg g:=by rw [←hXC];exact hg _ _ _ _
  have heC:PE XC elt te:=by rw [←hXC];exact he _ _ _ _
  have e1:XC.prog=X.prog:=by rw [←hXC];rfl
  have e2:XC.w=X.w:=by rw [←hXC];rfl
  have e3:XC.K=X.K:=by rw [←hXC];rfl
  have e4:XC.A=X.A:=by rw [←hXC];rfl
  have e5:XC.calm=true:=by rw [←hXC];exact hc
  have e6:XC.xe=fun _ _=>False:=by rw [←hXC];rfl
  have e7:XC.env=compEnvC scope (clOf X.env scope.names []) H2.objs.size X.env:=by rw [←hXC];rfl
  have fin:∀(ys:List V) (its:List Value) (n:Nat) (H':Hp) (s':Shared),Inv XC [] (capσ σ cap k) H' s'→H' D=none→s'.heap.get? D=some { cls:=.type "list",data:=.seq its.toArray n }→Vals ys its→ys.length≤sizeLine →
      Q (.ref D) (upd H' D (.lst ys))→RR (.ref D) H2.objs.size (.ok .next) s':=fun ys its n H' s' I' hn hd hv hz q=>by
    obtain ⟨m',hm',_⟩:=I'.loc
    have hm'':s'.heap.Ns H2.objs.size m':=by rw [e7] at hm';exact hm'
    have hfree:H' H2.objs.size=none:=by have:=I'.free;rw [e7] at this;exact this
    have hos:s'.os=s.os:=by have:=I'.os;rw [←hXC] at this;exact this
    have hun:Un (frs X.stack) (D::fp) H H' H2 s'.heap:=by have:=I'.base;rw [←hXC] at this;exact this
    have hok:HOk X.prog X.w H' s'.heap:=by have:=I'.hok;rw [e1,e2] at this;exact this
    have IP:Inv X pins σ H' s':=I3.call' (ch:=D::fp) hos hun hok I'.bare (fun b hb=>by
      have hb':FpOk X pins H b:=by
        rcases List.mem_cons.mp hb with rfl | hb
        · exact fD
        · exact hf b hb
      exact ⟨hb'.2.2.2.1,hb'.2.1,hb'.2.2.2.2.1,hb'.2.2.2.2.2⟩)
    have fC:FpOk X pins H' H2.objs.size:=I3.fpOk (Nat.le_refl _) hfree
    refine hRR D H2.objs.size s' m' ⟨upd H' D (.lst ys),hm'',fun h' hs'=>⟨?_,Ne.symm fC.2.1,fC.2.2.2.2.1⟩,⟨by rw [upd_ne hCD];exact fC.1,fC.2⟩,q⟩
    have I4:Inv X pins σ H' { s' with heap:=h' }:=IP.turned (t':=s'.toks) (it:=H2.objs.size) (fun b o hb e=>hs'.extBut b o hb e) hfree (Ne.symm (Ne.symm fC.2.1)) fC.2.2.2.1 fC.2.2.2.2.1 fC.2.2.2.2.2
    refine I4.track hn (hs'.extBut D _ (Ne.symm hCD) hd) hv hz ?_ fD.2.1 fD.2.2.2.2.1 fD.2.2.2.2.2
    have:=I.sz
    omega
  have loop:∀s₄:Shared,s₄={ s with heap:=h₁,toks:=s.toks+([]:List (Str×Value)).length } →
      codeAny (model X.prog X.w) X.A (.compLoop (.ListComp elt [⟨tg,iter,[],0⟩] scope pos) 0 (.ref it) (.ref D) (compEnvC scope (clOf X.env scope.names []) H2.objs.size X.env)) (RR (.ref D) H2.objs.size) s₄:=by
    rintro s₄ rfl
    obtain ⟨m0,w0⟩:=w0
    refine compLoop_any (fun n s'=>∃i ys its n' H',Inv XC [] (capσ σ cap k) H' s'∧tn i s'.heap∧(∀b∈fp,H' b=none)∧H' D=none∧s'.heap.get? D=some { cls:=.type "list",data:=.seq its.toArray n' }∧Vals ys its∧ys.length≤sizeLine∧W i n ys H') ?_ m0
      ⟨0,[],[],_,H,IC,st4,fun b hb=>(hf b hb).1,fD.1,hD1,.nil,Nat.zero_le _,w0⟩
    rintro n s5 ⟨i,ys,its,n',H5,I5,st5,fr5,hn5,hd5,hv5,hz5,w5⟩
    have IP5:Inv XC [(D,{ cls:=.type "list",data:=.seq its.toArray n' })] (capσ σ cap k) H5 s5:=I5.pins_of fun p hp=>by
      have ep:p=(D,{ cls:=.type "list",data:=.seq its.toArray n' }):=by simpa using hp
      subst ep
      obtain ⟨f0,f1,f2,_⟩:=fpD hn5
      exact ⟨hd5,f0,f1,f2,fun v z=>by cases z⟩
    have nofp:∀p∈[(D,({ cls:=.type "list",data:=.seq its.toArray n' }:Obj))],p.1∉fp:=fun p hp=>by
      have ep:p=(D,{ cls:=.type "list",data:=.seq its.toArray n' }):=by simpa using hp
      subst ep
      exact hDf
    rcases turn i n ys H5 w5 with ⟨stop,qn⟩ | ⟨go,hlen,Nx,hNx,step⟩
    · have hd:=T.done XC e1 e2 e3 e5 i _ s5 _ H5 (fun _ _=>False) IP5 (fpC nofp fr5) st5 stop
      rw [e4] at hd
      refine thn hd fun r s6 ⟨hr,I6⟩=>?_
      subst hr
      have p6:=I6.pin (D,{ cls:=.type "list",data:=.seq its.toArray n' }) (List.mem_append_right _ (by simp))
      exact fin ys its n' H5 s6 (I6.pins_of fun p hp=>nomatch hp) hn5 p6.1 hv5 hz5 (qn D hn5)
    · have hi:=T.item XC e1 e2 e3 e5 i _ s5 _ H5 (fun _ _=>False) IP5 (fpC nofp fr5) st5 go
      rw [e4] at hi
      refine thn hi fun r s6 ⟨u,hr,h6⟩=>?_
      subst hr
      refine thn h6 fun _ s7 ⟨x,H7,I7,r7,y7,st7,fr7⟩=>?_
      have p7:=I7.pin (D,{ cls:=.type "list",data:=.seq its.toArray n' }) (List.mem_append_right _ (by simp))
      have IP7:=I7.pinned (fpC nofp fr7) (T.obj _ _ st7)
      have hg7:=hgC _ s7 _ H7 x u _ IP7 r7 (step x H7 y7)
      rw [e1,e2,e4,e6,e7] at hg7
      refine thn hg7 fun _ s8 ⟨σ8,H8,I8,q8⟩=>?_
      have he8:=heC _ s8 σ8 H8 _ I8 q8.2
      rw [e1,e2,e4,e6,e7] at he8
      refine thn he8 fun v s9 ⟨y,H9,I9,r9,q9⟩=>?_
      obtain ⟨m',hm',w9⟩:=hNx y H9 q9
      have p9:=I9.pin (D,{ cls:=.type "list",data:=.seq its.toArray n' }) (List.mem_append_right _ (List.mem_append_left _ (by simp)))
      have st9:tn (i+1) s9.heap:=T.keep _ _ _ st7 fun b hb o e=>(I9.pin (b,o) (List.mem_append_right _ (List.mem_append_right _ (mem_pinsAt hb e)))).1
      have fr9:∀b∈fp,H9 b=none:=fun b hb=>by
        obtain ⟨o,e,d⟩:=T.obj _ _ st7 b hb
        exact (I9.pin (b,o) (List.mem_append_right _ (List.mem_append_right _ (mem_pinsAt hb e)))).2.1
      have hlv:=hv5.length
      refine call_meets F.slot_list_append ⟨_,p9.1,rfl⟩ F.entry_list_append (F.args_list_append_2 _ _) (PySem.list_append D its.toArray n' v (by rw [List.size_toArray];omega)) ⟨p9.1,?_⟩
      have q:=PySem.IsL.update p9.1 (·.push v)
      have eo:(its.toArray.push v)=(its++[v]).toArray:=by simp
      rw [eo] at q
      have I9':Inv XC [] (capσ σ cap k) H9 s9:=(I9.pins_of (pins':=[]) fun p hp=>nomatch hp).weak (by
        have a:=I9.len
        have b:=IC.len
        rw [b,a]) (fun j z hz=>by
          have hj:j<cap.length:=by
            by_cases hj:j<cap.length
            · exact hj
            · unfold capσ at hz
              rw [List.getElem?_append_right (by simpa using hj),List.getElem?_replicate] at hz
              split at hz <;> cases hz
          have q:=congrArg (fun l=>l[j]?) q8.1
          simp only [List.getElem?_take_of_lt hj] at q
          rw [q]
          exact hz)
      refine ⟨m',hm',i+1,ys++[y],its++[v],_,H9,I9'.turned (it:=D) (fun b o hb e=>(Heap.get?_update_other s9.heap _ (Ne.symm hb)).trans e) p9.2.1 p9.2.2.1 (fpD p9.2.1).2.2.2.1 (fpD p9.2.1).2.2.2.2.1 (fun p hp=>by rw [←hXC] at hp;simp [cxComp] at hp),?_,fr9,p9.2.1,q,hv5.append (.cons r9 .nil),?_,w9⟩
      · exact T.keep _ _ _ st9 fun b hb o e=>(Heap.get?_update_other s9.heap _ (by rintro rfl;exact hDf hb)).trans e
      · rw [List.length_append,List.length_singleton];omega
  exact codeAny_compStart_list (loop _ rfl) (T.self _ 0 _ _ _ st4 (loop _ rfl))
theorem pe_comp (S:CompScope X scope N cap k) (hc:X.calm=true) (hi:PI X tg iter wi)
    (hg:∀C s₀ H₀ ex,PG (cxComp X scope N C s₀ H₀ ex) tg g) (he:∀C s₀ H₀ ex,PE (cxComp X scope N C s₀ H₀ ex) elt te)
    (hs:∀x,foldedSetIterable iter X.env x=pure x:=by intro _;rfl):PE X (.ListComp elt [⟨tg,iter,[],0⟩] scope pos) (tComp wi cap k g te):=by
  intro pins s σ H Q I h
  rw [eval_ListComp]
  refine wpAny_comprehension_free (use:=none) rfl hs (closureFor_eq fun x hx hf=>I.ok.has x.1 (S.free x hx hf)) S.kind S.loc (thn (hi pins s σ H _ I h) fun xv s1 h1=>thn h1 fun itv s2 h2=>?_)
  obtain ⟨it,fp,tn,J,H2,e,I2,T,st2,f2,W,w0,turn⟩:=h2
  subst e
  refine comp_block (Q:=Q) (RR:=fun acc C=>compPost (model X.prog X.w) X.A X.xe none (EP X pins σ Q) acc C) S hc hg he I2 T st2 f2 W w0 turn ?_
  rintro D C s' m' ⟨H',hn,hk,_,q⟩
  exact ⟨m',hn,fun h' hs'=>⟨.ref D,H',(hk h' hs').1,rfl,q⟩⟩
theorem ps_setComp {i:Nat} {x:Str} {pos' spos:Pos} (hN:X.N.Nodup) (hi':X.N[i]?=some x) (hx:Loc X.env.scope x) (S:CompScope X scope N cap k) (hc:X.calm=true) (hi:PI X tg iter wi)
    (hg:∀C s₀ H₀ ex,PG (cxComp X scope N C s₀ H₀ ex) tg g) (he:∀C s₀ H₀ ex,PE (cxComp X scope N C s₀ H₀ ex) elt te)
    (hsw:swapsWith (.ListComp elt [⟨tg,iter,[],0⟩] scope pos) (some (.Name x pos')) spos.line X.env=pure true:=by rfl)
    (hs:∀x,foldedSetIterable iter X.env x=pure x:=by intro _;rfl) (hf:X.fn x=true∨X.env.scope.names.lookup x=some .local:=by first | exact .inl rfl | exact .inr rfl | assumption) :
    PS X (.Assign [.Name x pos'] (.ListComp elt [⟨tg,iter,[],0⟩] scope pos) spos) (tAsg (tComp wi cap k g te) (gName i)):=by
  intro pins s σ H D I h
  rw [exec_Assign_Name_used _ _ _ _ hsw]
  refine wpAny_bind (wpAny_standAt (wpAny_bind ?_))
  show wpAny _ X.A (do let _ ←comprehension (.ListComp elt [⟨tg,iter,[],0⟩] scope pos) scope X.env _ (newList []) false (eval iter X.env) (some (assign (.Name x pos') X.env))) _ _ s
  refine wpAny_bind (wpAny_mono (wpAny_comprehension_free (use:=some (assign (.Name x pos') X.env)) (Q:=fun _ s'=>SP X pins D .next s') rfl hs (closureFor_eq fun x hx hf=>I.ok.has x.1 (S.free x hx hf)) S.kind S.loc
    (thn (hi pins s σ H _ I h) fun xv s1 h1=>thn h1 fun itv s2 h2=>?_)) (fun _ s' hq=>wpAny_pure (wpAny_pure hq)) fun _ _ e=>e)
  obtain ⟨it,fp,tn,J,H2,e,I2,T,st2,f2,W,w0,turn⟩:=h2
  subst e
  refine comp_block (Q:=fun v H'=>D.nx (σ.set i (some v)) H') (RR:=fun acc C=>compPost (model X.prog X.w) X.A X.xe (some (assign (.Name x pos') X.env)) (fun _ s'=>SP X pins D .next s') acc C) S hc hg he I2 T st2 f2 W w0 turn ?_
  rintro DD C s' m' ⟨H',hn,hk,fC,q⟩
  obtain ⟨IP,hL,hcl⟩:=hk s'.heap ⟨rfl,fun _ _=>rfl⟩
  show wpAny _ X.A (assign (.Name x pos') X.env (.ref DD)) _ _ s'
  refine wpAny_assign_Name (store_ok2 (v:=.ref DD) IP hN hi' hx rfl (fun s2 I2 ⟨a,hsb,ha⟩=>?_) hf)
  have hCa:C≠a:=by
    rcases ha with z | z
    · rw [z];exact Ne.symm hL
    · exact Ne.symm (hcl x a z)
  refine ⟨m',hn.sameBut hsb hCa,fun h' hs'=>?_⟩
  exact ⟨_,H',I2.turned (t':=s2.toks) (it:=C) (fun b o hb e=>hs'.extBut b o hb e) fC.1 fC.2.1 fC.2.2.2.1 fC.2.2.2.2.1 fC.2.2.2.2.2,q⟩
end
end L2
namespace L2
open PySem PySem.Spec PyProof.Rows
def Itv (K:PySem.W.Frag) (a:Addr) (n:Nat):It :=
  ⟨fun i H=>i<n∧∃xs,SqL K H a xs∧xs.length=n,fun i H x H'=>H'=H∧∀xs,SqL K H a xs→xs[n - 1 - i]?=some x,fun i _=>i=n⟩
theorem turn_rev {P:Program} {w:World} {K:PySem.W.Frag} {tg:Expr} (a it:Addr) (n:Nat):Turn P w K tg (Itv K a n) [it] it (fun i h=>RV.IsRev h it a ((n:Int) - 1 - (i:Nat))) where
  mem:=by simp
  obj:=fun i h st b hb=>by
    have e:b=it:=by simpa using hb
    subst e
    obtain ⟨o,e,c,d⟩:=st
    exact ⟨o,e,fun v z=>by rw [d] at z;cases z⟩
  keep:=fun i h h' st k=>by
    obtain ⟨o,e,r⟩:=st
    exact ⟨o,k it (by simp) o e,r⟩
  item:=by
    intro X hP hw hK hc i pins s σ H E I hf st hg
    subst hP hw hK
    obtain ⟨hi,xs,hq,hn⟩:=hg
    obtain ⟨its,rv,p,hz⟩:=I.list hq
    have hlt:n - 1 - i<xs.length:=by omega
    obtain ⟨u,hu,ru⟩:=rv.get (List.getElem?_eq_getElem hlt)
    obtain ⟨f0,f1,f2,f3,f4,f5⟩:=hf it (by simp)
    have st0:RV.IsRev s.heap it a ((n:Int) - 1 - (i:Nat)):=st
    have ei:(n:Int) - 1 - (i:Nat)=((n - 1 - i:Nat):Int):=by omega
    rw [ei] at st0
    refine RV.next_item st0 p.isList (x:=u) (by simpa using hu) fun h' st' sb=>?_
    have I1:Inv X pins σ H { s with heap:=h' }:=I.turned (t':=s.toks) (fun b o hb e=>(sb.2 b hb).trans e) f0 f1 f3 f4 f5
    obtain ⟨o,e,c,d⟩:=id st'
    have st1:RV.IsRev h' it a ((n:Int) - 1 - ((i+1:Nat):Int)):=by
      have e2:(n:Int) - 1 - ((i+1:Nat):Int)=((n - 1 - i:Nat):Int) - 1:=by omega
      rw [e2];exact st'
    exact ⟨u,rfl,go_of (s:={ s with heap:=h' }) e c d (by decide) ⟨_,H,I1,ru,⟨rfl,fun ys hy=>by rw [I.list_inj hy hq];exact List.getElem?_eq_getElem hlt⟩,st1,fun b hb=>(hf b hb).1⟩⟩
  done:=by
    intro X hP hw hK hc i pins s σ H E I hf st hg
    subst hP hw hK
    have hi:i=n:=hg
    obtain ⟨f0,f1,f2,f3,f4,f5⟩:=hf it (by simp)
    have st0:RV.IsRev s.heap it a ((n:Int) - 1 - (i:Nat)):=st
    have ei:(n:Int) - 1 - (i:Nat)=-1:=by omega
    rw [ei] at st0
    exact RV.next_end (I.ok.hd hc) st0 fun h' eb=>⟨rfl,I.turned (t':=s.toks) (fun b o hb e=>eb b o hb e) f0 f1 f3 f4 f5⟩
  self:=fun _ _ _ _ _ st h=>RV.iter_self st h
section
variable {X:Cx} {tg:Expr}
def iRev (K:PySem.W.Frag) (ta:TA):TI:=fun σ H R=>ta σ H fun vs H1=>∃a xs,vs=[.ref a]∧H1 a=some (.lst xs)∧R (Itv K a xs.length) H1
theorem pi_rev {e:Expr} {ta:TA} {p pos:Pos} (hg:Gl X "reversed") (hm:X.mg "reversed" = none) (ha:PA X [e] ta) (hs:starEach [e] X.env=[(false,eval e X.env)]:=by rfl) :
    PI X tg (.Call (.Name "reversed" p) [e] [] pos) (iRev X.K ta):=by
  intro pins s σ H R I h
  refine Call_ (ld_blt I hg hm PyProof.Rows.boot_reversed (PyProof.Rows.callWith_type1 (thn (ha pos pins s σ H _ I h) fun us s1 ⟨vs,H1,I1,r1,q1⟩=>?_) hs rfl))
  obtain ⟨a,xs,e,hH,q⟩:=q1
  subst e
  cases r1 with
  | cons r rr =>
    cases rr
    cases r
    obtain ⟨z,its,n,rv,el⟩:=I1.hok a _ hH
    have hlen:=rv.length
    refine RV.call_rev el ?_
    refine RV.iter_self (l:=a) (i:=((its.toArray.size:Nat):Int) - 1) ⟨_,Heap.get?_push_size _ rfl,rfl,rfl⟩ ?_
    refine ⟨s1.heap.objs.size,[s1.heap.objs.size],_,_,H1,rfl,I1.kept (t':=s1.toks) fun b o e=>Heap.get?_push_of_some _ e,turn_rev a _ xs.length,⟨_,Heap.get?_push_size _ rfl,rfl,?_⟩,fun b hb=>?_,q⟩
    · have e2:(xs.length:Int) - 1 - ((0:Nat):Int)=((its.toArray.size:Nat):Int) - 1:=by simp;omega
      rw [e2]
    · have e:b=s1.heap.objs.size:=by simpa using hb
      subst e
      exact I1.fpOk (Nat.le_refl _) (I1.hok.fresh (Nat.le_refl _))
end
theorem ne4 {m c n:Nat} (h:m+4<n) (hc:c=m+4∨c=m+2∨c=m+3∨c=m∨c=m+1):c≠n:=by omega
theorem le4 {m c:Nat} (hc:c=m+4∨c=m+2∨c=m+3∨c=m∨c=m+1):m≤c:=by omega
theorem ne1 {m c n:Nat} (h:m+1<n) (hc:c=m+1∨c=m):c≠n:=by omega
theorem le1 {m c:Nat} (hc:c=m+1∨c=m):m≤c:=by omega
def Itz (K:PySem.W.Frag) (a b:Addr):It :=
  ⟨fun i H=>∃xs ys,SqL K H a xs∧SqL K H b ys∧i<xs.length∧i<ys.length,
   fun i H x H'=>∃p u v,x=.ref p∧H p=none∧H'=upd H p (.tup [u,v])∧(∀xs,SqL K H a xs→xs[i]?=some u)∧∀ys,SqL K H b ys→ys[i]?=some v,
   fun i H=>∃xs ys,SqL K H a xs∧SqL K H b ys∧(xs.length≤i∨ys.length≤i)⟩
theorem turn_zip {P:Program} {w:World} {K:PySem.W.Frag} {elts:List Expr} {k:Nat} {tpos:Pos} (a b m:Addr) (ha:a<m) (hb:b<m) :
    Turn P w K (.Tuple elts k tpos) (Itz K a b) [m+4,m+2,m+3,m,m+1] (m+4)
      (fun i h=>IsZip h (m+4) (m+2) (m+3) .none∧IsPair h (m+2) (.ref m) (.ref (m+1))∧(∃u v,IsPair h (m+3) u v)∧h.IsListIter m a i∧h.IsListIter (m+1) b i) where
  mem:=by simp
  obj:=fun i h st c hc=>by
    obtain ⟨s1,s2,⟨u,v,s3⟩,⟨o4,e4,c4,d4⟩,⟨o5,e5,c5,d5⟩⟩:=st
    simp only [List.mem_cons,List.not_mem_nil,or_false] at hc
    rcases hc with rfl | rfl | rfl | rfl | rfl
    · exact ⟨_,s1,fun v z=>by cases z⟩
    · exact ⟨_,s2,fun v z=>by cases z⟩
    · exact ⟨_,s3,fun v z=>by cases z⟩
    · exact ⟨_,e4,fun v z=>by rw [d4] at z;cases z⟩
    · exact ⟨_,e5,fun v z=>by rw [d5] at z;cases z⟩
  keep:=fun i h h' st kk=>by
    obtain ⟨s1,s2,⟨u,v,s3⟩,s4,s5⟩:=st
    exact ⟨kk _ (by simp) _ s1,kk _ (by simp) _ s2,⟨u,v,kk _ (by simp) _ s3⟩,s4.at fun o e=>kk _ (by simp) o e,s5.at fun o e=>kk _ (by simp) o e⟩
  item:=by
    intro X hP hw hK hc i pins s σ H E I hf st hg
    subst hP hw hK
    obtain ⟨xs,ys,hx,hy,hxl,hyl⟩:=hg
    obtain ⟨s1,s2,⟨u0,v0,s3⟩,s4,s5⟩:=st
    obtain ⟨ix,rx,px,_⟩:=I.list hx
    obtain ⟨iy,ry,py,_⟩:=I.list hy
    obtain ⟨u,hu,ru⟩:=rx.get (List.getElem?_eq_getElem hxl)
    obtain ⟨v,hv,rv⟩:=ry.get (List.getElem?_eq_getElem hyl)
    have D:=zipApart_new ha hb
    refine wpAny_pyNext_zip_item D s1 s2 s3 s4 s5 px.isList py.isList (x:=u) (y:=v) (by simpa using hu) (by simpa using hv) fun h' a1 a2 a3 a4 a5 a6 hk=>?_
    refine ⟨_,rfl,wpAny_letOwnedTupleGo_zip a1 fun h2 hz2 hs2=>?_⟩
    replace hs2:Heap.SameBut (m+4) h' h2:=hs2
    have lt4:m+4<s.heap.objs.size:=Heap.lt_size s1
    have keepO:∀c o,c∉[m+4,m+2,m+3,m,m+1]→s.heap.get? c=some o→h2.get? c=some o:=fun c o hc e=>by
      simp only [List.mem_cons,List.not_mem_nil,or_false,not_or] at hc
      exact hs2.extBut c o hc.1 (hk c o hc.1 hc.2.2.1 hc.2.2.2.1 hc.2.2.2.2 e)
    have I1:Inv X pins σ H { s with heap:=h2 }:=by
      refine I.step (g':=s.gens) (d':=s.drawn) (t':=s.toks) (ch:=[m+4,m+2,m+3,m,m+1]) (fun c hc=>?_) (fun c o _ _ hc e _=>keepO c o hc e) (fun c o _ _ hc e _=>⟨o.slots,keepO c o hc e⟩) (fun _ _ _ _ nn=>nn)
        (fun c o hc e=>⟨o,keepO c o hc e⟩) (fun _ _ e=>e) (fun _ _ _ e=>e) (fun c ps e=>⟨#[],by rw [e];simp⟩) (fun mm hm=>?_) (fun c o e=>?_) I.bare
      · obtain ⟨f0,f1,f2,f3,f4,f5⟩:=hf c hc
        exact ⟨f3,f1,f4,f5⟩
      · obtain ⟨o,es,ep,ho,r⟩:=hm
        exact ⟨o,es,ep,keepO _ o (fun z=>(hf _ z).2.1 rfl) ho,r⟩
      · have nin:∀d u',H d=some u'→d∉[m+4,m+2,m+3,m,m+1]:=fun d u' q z=>by have:=(hf d z).1;rw [q] at this;cases this
        refine (I.hok c o e).stay (fun d v' hd q=>keepO d v' ?_ q) (fun _ q=>q) fun _ _ q=>q
        rcases hd with z | z
        · rw [z];exact nin c o e
        · exact nin d _ z
    have hfr:H s.heap.objs.size=none:=I.hok.fresh (Nat.le_refl _)
    have ht2:IsPair h2 s.heap.objs.size u v:=hs2.extBut _ _ (Nat.ne_of_gt lt4) a5
    have I2:Inv X pins σ (upd H s.heap.objs.size (.tup [xs[i],ys[i]])) { s with heap:=h2 }:=by
      have fD:FpOk X pins H s.heap.objs.size:=I.fpOk (Nat.le_refl _) hfr
      refine ⟨I1.ok,I1.os,I1.bare,⟨I1.base.keep,I1.base.slot,fun c o e nn hx=>?_,I1.base.there,fun c zs e=>?_,fun c o u' e=>?_,fun c ps e=>?_⟩,I1.loc,I1.cell,?_,fun y c e=>?_,fun p hq=>?_,fun c u' e=>?_,I1.len⟩
      · rw [upd_ne (Nat.ne_of_lt (Nat.lt_of_lt_of_le (Heap.lt_size e) I.sz))];exact I1.base.free c o e nn hx
      · have q:=I1.base.tups c zs e
        rw [upd_ne (ne_of_none q hfr)];exact q
      · have q:=I1.base.frzs c o u' e
        rw [upd_ne (ne_of_none q hfr)];exact q
      · obtain ⟨more,q⟩:=I1.base.tbls c ps e
        exact ⟨more,by rw [upd_ne (ne_of_none q hfr)];exact q⟩
      · rw [upd_ne (Ne.symm fD.2.1)];exact I1.free
      · rw [upd_ne (fD.2.2.2.2.1 y c e)];exact I1.freeC y c e
      · obtain ⟨q1,q2,q3,q4,q5⟩:=I1.pin p hq
        exact ⟨q1,by rw [upd_ne (fD.2.2.2.2.2 p hq)];exact q2,q3,q4,q5⟩
      · by_cases hc':c=s.heap.objs.size
        · subst hc'
          rw [upd_same] at e;cases e
          exact ⟨by show 2≤sizeLine;decide,[u,v],.cons ru (.cons rv .nil),⟨_,ht2,rfl,_,rfl⟩⟩
        · rw [upd_ne hc'] at e
          exact (I1.hok c u' e).stay (fun _ _ _ q=>q) (fun d q=>by rw [upd_ne (ne_of_none q hfr)];exact q) fun d zs q=>by rw [upd_ne (ne_of_none q hfr)];exact q
    refine ⟨.ref s.heap.objs.size,_,I2,rfl,⟨_,_,_,rfl,hfr,rfl,fun zs hz=>by rw [I.list_inj hz hx];exact List.getElem?_eq_getElem hxl,fun zs hz=>by rw [I.list_inj hz hy];exact List.getElem?_eq_getElem hyl⟩,?_,fun c hc=>?_⟩
    · exact ⟨hz2,hs2.extBut _ _ D.TIz (hk _ _ D.TIz D.TITO D.TIi1 D.TIi2 s2),⟨_,_,hs2.extBut _ _ D.TOz a2⟩,a3.extBut hs2.extBut D.i1z,a4.extBut hs2.extBut D.i2z⟩
    · have hc2:=(hf c hc).1
      have hlt:c≠s.heap.objs.size:=by
        simp only [List.mem_cons,List.not_mem_nil,or_false] at hc
        exact ne4 lt4 hc
      rw [upd_ne hlt];exact hc2
  done:=by
    intro X hP hw hK hc i pins s σ H E I hf st hg
    subst hP hw hK
    obtain ⟨xs,ys,hx,hy,hend⟩:=hg
    obtain ⟨s1,s2,⟨u0,v0,s3⟩,s4,s5⟩:=st
    obtain ⟨ix,rx,px,_⟩:=I.list hx
    obtain ⟨iy,ry,py,_⟩:=I.list hy
    have lx:=rx.length
    have ly:=ry.length
    have D:=zipApart_new ha hb
    refine wpAny_pyNext_zip_end (I.ok.hd hc) D s1 s2 s3 s4 s5 px.isList py.isList (by rcases hend with z | z;exact .inl (by simp;omega);exact .inr (by simp;omega)) fun h' hk=>⟨rfl,?_⟩
    have keepO:∀c o,c∉[m+4,m+2,m+3,m,m+1]→s.heap.get? c=some o→h'.get? c=some o:=fun c o hc e=>by
      simp only [List.mem_cons,List.not_mem_nil,or_false,not_or] at hc
      exact hk c o hc.1 hc.2.2.1 hc.2.2.2.1 hc.2.2.2.2 e
    refine I.step (g':=s.gens) (d':=s.drawn) (t':=s.toks) (ch:=[m+4,m+2,m+3,m,m+1]) (fun c hc=>?_) (fun c o _ _ hc e _=>keepO c o hc e) (fun c o _ _ hc e _=>⟨o.slots,keepO c o hc e⟩) (fun _ _ _ _ nn=>nn)
      (fun c o hc e=>⟨o,keepO c o hc e⟩) (fun _ _ e=>e) (fun _ _ _ e=>e) (fun c ps e=>⟨#[],by rw [e];simp⟩) (fun mm hm=>?_) (fun c o e=>?_) I.bare
    · obtain ⟨f0,f1,f2,f3,f4,f5⟩:=hf c hc
      exact ⟨f3,f1,f4,f5⟩
    · obtain ⟨o,es,ep,ho,r⟩:=hm
      exact ⟨o,es,ep,keepO _ o (fun z=>(hf _ z).2.1 rfl) ho,r⟩
    · have nin:∀d u',H d=some u'→d∉[m+4,m+2,m+3,m,m+1]:=fun d u' q z=>by have:=(hf d z).1;rw [q] at this;cases this
      refine (I.hok c o e).stay (fun d v' hd q=>keepO d v' ?_ q) (fun _ q=>q) fun _ _ q=>q
      rcases hd with z | z
      · rw [z];exact nin c o e
      · exact nin d _ z
  self:=fun _ _ _ _ _ st h=>wpAny_pyIter_zip st.1 h
end L2
namespace L2
open PySem PySem.Spec PyProof.Rows
theorem boot_zipX:bootBuiltins "zip" = some (.type "zip"):=by decide +kernel
theorem boot_enumX:bootBuiltins "enumerate" = some (.type "enumerate"):=by decide +kernel
section
variable {X:Cx} {tg:Expr}
def iZip (K:PySem.W.Frag) (ta:TA):TI:=fun σ H R=>ta σ H fun vs H1=>∃a b xs ys,vs=[.ref a,.ref b]∧SqL K H1 a xs∧SqL K H1 b ys∧R (Itz K a b) H1
theorem pi_zip {e e':Expr} {ta:TA} {p pos tpos:Pos} {elts:List Expr} {k:Nat} (hg:Gl X "zip") (hm:X.mg "zip" = none) (ha:PA X [e,e'] ta) (hs:starEach [e,e'] X.env=[(false,eval e X.env),(false,eval e' X.env)]:=by rfl) (hs2:starEach [e'] X.env=[(false,eval e' X.env)]:=by rfl) :
    PI X (.Tuple elts k tpos) (.Call (.Name "zip" p) [e,e'] [] pos) (iZip X.K ta):=by
  intro pins s σ H R I h
  refine Call_ (ld_blt I hg hm boot_zipX (PyProof.Rows.callWith_type1 (thn (ha pos pins s σ H _ I h) fun us s1 ⟨vs,H1,I1,r1,q1⟩=>?_) (by rw [hs,hs2]) (by rw [hs2];rfl)))
  obtain ⟨a,b,xs,ys,e,hx,hy,q⟩:=q1
  subst e
  cases r1 with
  | cons r rr =>
    cases rr with
    | cons r' rr =>
      cases rr
      cases r
      cases r'
      obtain ⟨ix,rx,px,_⟩:=I1.list hx
      obtain ⟨iy,ry,py,_⟩:=I1.list hy
      have la:a<s1.heap.objs.size:=by obtain ⟨o,ho,_⟩:=px.isList;exact Heap.lt_size ho
      have lb:b<s1.heap.objs.size:=by obtain ⟨o,ho,_⟩:=py.isList;exact Heap.lt_size ho
      refine call_zip_2 px.isList py.isList fun h' hz hTI hTO hi1 hi2 hsz hk=>wpAny_pyIter_zip (s:={ s1 with heap:=h' }) hz ?_
      refine ⟨s1.heap.objs.size+4,[s1.heap.objs.size+4,s1.heap.objs.size+2,s1.heap.objs.size+3,s1.heap.objs.size,s1.heap.objs.size+1],_,_,H1,rfl,I1.kept (t':=s1.toks) hk,turn_zip a b s1.heap.objs.size la lb,⟨hz,hTI,⟨_,_,hTO⟩,hi1,hi2⟩,fun c hc=>?_,q⟩
      have hle:s1.heap.objs.size≤c:=by
        simp only [List.mem_cons,List.not_mem_nil,or_false] at hc
        exact le4 hc
      exact I1.fpOk hle (I1.hok.fresh hle)
end
def Ite (K:PySem.W.Frag) (a:Addr):It :=
  ⟨fun i H=>∃xs,SqL K H a xs∧i<xs.length,
   fun i H x H'=>∃p u,x=.ref p∧H p=none∧H'=upd H p (.tup [.int i,u])∧∀xs,SqL K H a xs→xs[i]?=some u,
   fun i H=>∃xs,SqL K H a xs∧xs.length≤i⟩
theorem turn_enum {P:Program} {w:World} {K:PySem.W.Frag} {elts:List Expr} {k:Nat} {tpos:Pos} (a m:Addr) (ha:a<m) :
    Turn P w K (.Tuple elts k tpos) (Ite K a) [m+1,m] (m+1) (fun i h=>(∃old,IsEnum h (m+1) m (i:Nat) old)∧h.IsListIter m a i) where
  mem:=by simp
  obj:=fun i h st c hc=>by
    obtain ⟨⟨old,s1⟩,⟨o4,e4,c4,d4⟩⟩:=st
    simp only [List.mem_cons,List.not_mem_nil,or_false] at hc
    rcases hc with rfl | rfl
    · exact ⟨_,s1,fun v z=>by cases z⟩
    · exact ⟨_,e4,fun v z=>by rw [d4] at z;cases z⟩
  keep:=fun i h h' st kk=>by
    obtain ⟨⟨old,s1⟩,s4⟩:=st
    exact ⟨⟨old,kk _ (by simp) _ s1⟩,s4.at fun o e=>kk _ (by simp) o e⟩
  item:=by
    intro X hP hw hK hc i pins s σ H E I hf st hg
    subst hP hw hK
    obtain ⟨xs,hx,hxl⟩:=hg
    obtain ⟨⟨old,s1⟩,s4⟩:=st
    obtain ⟨ix,rx,px,_⟩:=I.list hx
    obtain ⟨u,hu,ru⟩:=rx.get (List.getElem?_eq_getElem hxl)
    have hne:m+1≠m:=Nat.succ_ne_self m
    refine wpAny_pyNext_enum_item s1 s4 px.isList (x:=u) (by simpa using hu) hne fun h' a1 a3 a5 a6 hk=>?_
    refine ⟨_,rfl,wpAny_letOwnedTupleGo_enum (s:={ s with heap:=h',toks:=s.toks+1 }) a1 fun h2 hz2 hs2=>?_⟩
    replace hs2:Heap.SameBut (m+1) h' h2:=hs2
    have lt4:m+1<s.heap.objs.size:=Heap.lt_size s1
    have keepO:∀c o,c∉[m+1,m]→s.heap.get? c=some o→h2.get? c=some o:=fun c o hc e=>by
      simp only [List.mem_cons,List.not_mem_nil,or_false,not_or] at hc
      exact hs2.extBut c o hc.1 (hk c o hc.1 hc.2 e)
    have I1:Inv X pins σ H { s with heap:=h2,toks:=s.toks+1 }:=by
      refine I.step (g':=s.gens) (d':=s.drawn) (t':=s.toks+1) (ch:=[m+1,m]) (fun c hc=>?_) (fun c o _ _ hc e _=>keepO c o hc e) (fun c o _ _ hc e _=>⟨o.slots,keepO c o hc e⟩) (fun _ _ _ _ nn=>nn)
        (fun c o hc e=>⟨o,keepO c o hc e⟩) (fun _ _ e=>e) (fun _ _ _ e=>e) (fun c ps e=>⟨#[],by rw [e];simp⟩) (fun mm hm=>?_) (fun c o e=>?_) I.bare
      · obtain ⟨f0,f1,f2,f3,f4,f5⟩:=hf c hc
        exact ⟨f3,f1,f4,f5⟩
      · obtain ⟨o,es,ep,ho,r⟩:=hm
        exact ⟨o,es,ep,keepO _ o (fun z=>(hf _ z).2.1 rfl) ho,r⟩
      · have nin:∀d u',H d=some u'→d∉[m+1,m]:=fun d u' q z=>by have:=(hf d z).1;rw [q] at this;cases this
        refine (I.hok c o e).stay (fun d v' hd q=>keepO d v' ?_ q) (fun _ q=>q) fun _ _ q=>q
        rcases hd with z | z
        · rw [z];exact nin c o e
        · exact nin d _ z
    have hfr:H s.heap.objs.size=none:=I.hok.fresh (Nat.le_refl _)
    have ht2:h2.get? s.heap.objs.size=some { cls:=.type "tuple",data:=.seq #[.int i s.toks,u] }:=hs2.extBut _ _ (Nat.ne_of_gt lt4) a5
    have I2:Inv X pins σ (upd H s.heap.objs.size (.tup [.int i,xs[i]])) { s with heap:=h2,toks:=s.toks+1 }:=by
      have fD:FpOk X pins H s.heap.objs.size:=I.fpOk (Nat.le_refl _) hfr
      refine ⟨I1.ok,I1.os,I1.bare,⟨I1.base.keep,I1.base.slot,fun c o e nn hx=>?_,I1.base.there,fun c zs e=>?_,fun c o u' e=>?_,fun c ps e=>?_⟩,I1.loc,I1.cell,?_,fun y c e=>?_,fun p hq=>?_,fun c u' e=>?_,I1.len⟩
      · rw [upd_ne (Nat.ne_of_lt (Nat.lt_of_lt_of_le (Heap.lt_size e) I.sz))];exact I1.base.free c o e nn hx
      · have q:=I1.base.tups c zs e
        rw [upd_ne (ne_of_none q hfr)];exact q
      · have q:=I1.base.frzs c o u' e
        rw [upd_ne (ne_of_none q hfr)];exact q
      · obtain ⟨more,q⟩:=I1.base.tbls c ps e
        exact ⟨more,by rw [upd_ne (ne_of_none q hfr)];exact q⟩
      · rw [upd_ne (Ne.symm fD.2.1)];exact I1.free
      · rw [upd_ne (fD.2.2.2.2.1 y c e)];exact I1.freeC y c e
      · obtain ⟨q1,q2,q3,q4,q5⟩:=I1.pin p hq
        exact ⟨q1,by rw [upd_ne (fD.2.2.2.2.2 p hq)];exact q2,q3,q4,q5⟩
      · by_cases hc':c=s.heap.objs.size
        · subst hc'
          rw [upd_same] at e;cases e
          exact ⟨by show 2≤sizeLine;decide,[.int i s.toks,u],.cons ⟨_,rfl⟩ (.cons ru .nil),⟨_,ht2,rfl,_,rfl⟩⟩
        · rw [upd_ne hc'] at e
          exact (I1.hok c u' e).stay (fun _ _ _ q=>q) (fun d q=>by rw [upd_ne (ne_of_none q hfr)];exact q) fun d zs q=>by rw [upd_ne (ne_of_none q hfr)];exact q
    refine ⟨.ref s.heap.objs.size,_,I2,rfl,⟨_,_,rfl,hfr,rfl,fun zs hz=>by rw [I.list_inj hz hx];exact List.getElem?_eq_getElem hxl⟩,?_,fun c hc=>?_⟩
    · refine ⟨⟨u,?_⟩,a3.extBut hs2.extBut (Ne.symm hne)⟩
      have e1:((i+1:Nat):Int)=(i:Int)+1:=by push_cast;rfl
      rw [e1];exact hz2
    · have hc2:=(hf c hc).1
      have hlt:c≠s.heap.objs.size:=by
        simp only [List.mem_cons,List.not_mem_nil,or_false] at hc
        exact ne1 lt4 hc
      rw [upd_ne hlt];exact hc2
  done:=by
    intro X hP hw hK hc i pins s σ H E I hf st hg
    subst hP hw hK
    obtain ⟨xs,hx,hend⟩:=hg
    obtain ⟨⟨old,s1⟩,s4⟩:=st
    obtain ⟨ix,rx,px,_⟩:=I.list hx
    have lx:=rx.length
    refine wpAny_pyNext_enum_end (I.ok.hd hc) s1 s4 px.isList (by simp;omega) fun h' hk=>⟨rfl,?_⟩
    have keepO:∀c o,c∉[m+1,m]→s.heap.get? c=some o→h'.get? c=some o:=fun c o hc e=>by
      simp only [List.mem_cons,List.not_mem_nil,or_false,not_or] at hc
      exact hk c o hc.2 e
    refine I.step (g':=s.gens) (d':=s.drawn) (t':=s.toks) (ch:=[m+1,m]) (fun c hc=>?_) (fun c o _ _ hc e _=>keepO c o hc e) (fun c o _ _ hc e _=>⟨o.slots,keepO c o hc e⟩) (fun _ _ _ _ nn=>nn)
      (fun c o hc e=>⟨o,keepO c o hc e⟩) (fun _ _ e=>e) (fun _ _ _ e=>e) (fun c ps e=>⟨#[],by rw [e];simp⟩) (fun mm hm=>?_) (fun c o e=>?_) I.bare
    · obtain ⟨f0,f1,f2,f3,f4,f5⟩:=hf c hc
      exact ⟨f3,f1,f4,f5⟩
    · obtain ⟨o,es,ep,ho,r⟩:=hm
      exact ⟨o,es,ep,keepO _ o (fun z=>(hf _ z).2.1 rfl) ho,r⟩
    · have nin:∀d u',H d=some u'→d∉[m+1,m]:=fun d u' q z=>by have:=(hf d z).1;rw [q] at this;cases this
      refine (I.hok c o e).stay (fun d v' hd q=>keepO d v' ?_ q) (fun _ q=>q) fun _ _ q=>q
      rcases hd with z | z
      · rw [z];exact nin c o e
      · exact nin d _ z
  self:=fun _ _ _ _ _ st h=>let ⟨⟨_,s1⟩,_⟩:=st;wpAny_pyIter_enum s1 h
section
variable {X:Cx} {tg:Expr}
def iEnum (K:PySem.W.Frag) (ta:TA):TI:=fun σ H R=>ta σ H fun vs H1=>∃a xs,vs=[.ref a]∧SqL K H1 a xs∧R (Ite K a) H1
theorem pi_enum {e:Expr} {ta:TA} {p pos tpos:Pos} {elts:List Expr} {k:Nat} (hg:Gl X "enumerate") (hm:X.mg "enumerate" = none) (ha:PA X [e] ta) (hs:starEach [e] X.env=[(false,eval e X.env)]:=by rfl) :
    PI X (.Tuple elts k tpos) (.Call (.Name "enumerate" p) [e] [] pos) (iEnum X.K ta):=by
  intro pins s σ H R I h
  refine Call_ (ld_blt I hg hm boot_enumX (PyProof.Rows.callWith_type1 (thn (ha pos pins s σ H _ I h) fun us s1 ⟨vs,H1,I1,r1,q1⟩=>?_) hs rfl))
  obtain ⟨a,xs,e,hx,q⟩:=q1
  subst e
  cases r1 with
  | cons r rr =>
    cases rr
    cases r
    obtain ⟨ix,rx,px,_⟩:=I1.list hx
    have la:a<s1.heap.objs.size:=by obtain ⟨o,ho,_⟩:=px.isList;exact Heap.lt_size ho
    refine call_enumerate_list px.isList fun h' he hit hsz hk=>wpAny_pyIter_enum (s:={ s1 with heap:=h' }) he ?_
    refine ⟨s1.heap.objs.size+1,[s1.heap.objs.size+1,s1.heap.objs.size],_,_,H1,rfl,I1.kept (t':=s1.toks) hk,turn_enum a s1.heap.objs.size la,⟨⟨_,he⟩,hit⟩,fun c hc=>?_,q⟩
    have hle:s1.heap.objs.size≤c:=by
      simp only [List.mem_cons,List.not_mem_nil,or_false] at hc
      exact le1 hc
    exact I1.fpOk hle (I1.hok.fresh hle)
end
def Itd (hi:Int) (n:Nat):It:=⟨fun i _=>i<n,fun i H x H'=>H'=H∧x=.int (hi - i),fun i _=>n≤i⟩
theorem turn_down {P:Program} {w:World} {K:PySem.W.Frag} {tg:Expr} (it:Addr) (hi:Int) (n:Nat):Turn P w K tg (Itd hi n) [it] it (fun i h=>IsRangeIter h it (hi+(i:Nat)*(-1)) ((n:Int) - (i:Nat)) (-1)) where
  mem:=by simp
  obj:=fun i h st b hb=>by
    have e:b=it:=by simpa using hb
    subst e
    exact ⟨_,st,fun v z=>by
      have z':Data.fields _=Data.cell v:=z
      cases z'⟩
  keep:=fun i h h' st k=>k it (by simp) _ st
  item:=by
    intro X hP hw hK hc i pins s σ H E I hf st hg
    subst hP hw hK
    obtain ⟨f0,f1,f2,f3,f4,f5⟩:=hf it (by simp)
    have W:=Walks.range (prog:=X.prog) (w:=X.w) (I.ok.hd hc) it hi (-1) n
    refine W.item i s _ _ hg st fun v h' tk hv st' kk=>?_
    obtain ⟨t,rfl⟩:=hv
    have I1:Inv X pins σ H { s with heap:=h',toks:=tk }:=I.turned (fun b o hb e=>kk b o (by simpa using hb) e) f0 f1 f3 f4 f5
    refine ⟨_,rfl,go_of (s:={ s with heap:=h',toks:=tk }) (n := "range_iterator") st' rfl rfl (by decide) ⟨.int (hi - i),H,I1,⟨t,?_⟩,⟨rfl,rfl⟩,st',fun b hb=>(hf b hb).1⟩⟩
    have e:hi+(i:Int)*(-1)=hi - i:=by omega
    rw [e]
  done:=by
    intro X hP hw hK hc i pins s σ H E I hf st hg
    subst hP hw hK
    obtain ⟨f0,f1,f2,f3,f4,f5⟩:=hf it (by simp)
    exact wpAny_pyNext_range_end (I.ok.hd hc) st (by have:n≤i:=hg;omega) fun h' eb=>⟨rfl,I.turned (t':=s.toks) (fun b o hb e=>eb b o hb e) f0 f1 f3 f4 f5⟩
  self:=fun _ _ _ _ _ st h=>wpAny_pyIter_rangeiter st h
theorem size_down {a b:Int}:Builtin.Range.rangeSize a b (-1)=(((a - b).toNat:Nat):Int):=by
  unfold Builtin.Range.rangeSize
  rw [if_neg (by decide)]
  split
  · have:(a - b - 1) / (- -1)=a - b - 1:=by simp
    rw [this];omega
  · omega
theorem small_down {a b:Int} (ha:-(2^62)≤a) (ha':a<2^62) (hb:-(2^62)≤b) (hb':b<2^62):Builtin.Range.small a b (-1)=true:=by
  unfold Builtin.Range.small
  rw [size_down]
  have e:(((a - b).toNat:Nat):Int)≤2^63 - 1:=by omega
  simp only [Builtin.Range.rangeFitsLong,Bool.and_eq_true,Bool.or_eq_true,decide_eq_true_eq,beq_iff_eq]
  refine ⟨⟨⟨⟨⟨by omega,by omega⟩,by omega,by omega⟩,by omega,by omega⟩,by omega,by omega⟩,.inr ?_⟩
  rw [if_neg (by decide)]
  simp only [Bool.and_eq_true,decide_eq_true_eq]
  omega
section
variable {X:Cx} {tg:Expr}
def iRngD (ta:TA):TI:=fun σ H R=>ta σ H fun vs H1=>∃i j:Int,vs=[.int i,.int j,.int (-1)]∧(-(2^62)≤i∧i<2^62∧-(2^62)≤j∧j<2^62)∧R (Itd i (i - j).toNat) H1
theorem pi_rangeD {a b c:Expr} {ta:TA} {p pos:Pos} (hg:Gl X "range") (hm:X.mg "range" = none) (ha:PA X [a,b,c] ta) (hs:starEach [a,b,c] X.env=[(false,eval a X.env),(false,eval b X.env),(false,eval c X.env)]:=by rfl) (hs2:starEach [b,c] X.env=[(false,eval b X.env),(false,eval c X.env)]:=by rfl) :
    PI X tg (.Call (.Name "range" p) [a,b,c] [] pos) (iRngD ta):=by
  intro pins s σ H R I h
  refine Call_ (ld_blt I hg hm boot_range (PyProof.Rows.callWith_type1 (thn (ha pos pins s σ H _ I h) fun us s1 ⟨vs,H1,I1,r1,q1⟩=>?_) (by rw [hs,hs2]) (by rw [hs2];rfl)))
  obtain ⟨i,j,e,⟨q1,q2,q3,q4⟩,q⟩:=q1
  subst e
  cases r1 with
  | cons r rr =>
    cases rr with
    | cons r' rr =>
      cases rr with
      | cons r'' rr =>
        cases rr
        obtain ⟨t,rfl⟩:=r
        obtain ⟨t',rfl⟩:=r'
        obtain ⟨t'',rfl⟩:=r''
        refine call_range_3 (by decide) ?_ (Or.inl (PyProof.noPylong_small (by decide)))
        refine wpAny_pyIter_range (IsRange.new ..) (small_down q1 q2 q3 q4) ?_
        have I2:Inv X pins σ H1 { s1 with heap:=s1.heap.push { cls:=.type "range",data:=.fields #[.int i t,.int j t',.int (-1) t''] },toks:=s1.toks }:=I1.kept fun b o e=>Heap.get?_push_of_some _ e
        refine ⟨(s1.heap.push { cls:=.type "range",data:=.fields #[.int i t,.int j t',.int (-1) t''] }).objs.size,[(s1.heap.push { cls:=.type "range",data:=.fields #[.int i t,.int j t',.int (-1) t''] }).objs.size],_,_,H1,rfl,
          I2.kept (t':=s1.toks) fun b o e=>Heap.get?_push_of_some _ e,turn_down _ i (i - j).toNat,?_,fun b hb=>?_,q⟩
        · have e1:i+((0:Nat):Int)*(-1)=i:=by simp
          have e2:(((i - j).toNat:Nat):Int) - ((0:Nat):Int)=Builtin.Range.rangeSize i j (-1):=by rw [size_down];simp
          show IsRangeIter _ _ (i+((0:Nat):Int)*(-1)) ((((i - j).toNat:Nat):Int) - ((0:Nat):Int)) (-1)
          rw [e1,e2]
          exact Heap.get?_push_size _ rfl
        · have e:b=(s1.heap.push { cls:=.type "range",data:=.fields #[.int i t,.int j t',.int (-1) t''] }).objs.size:=by simpa using hb
          subst e
          exact I2.fpOk (Nat.le_refl _) (I2.hok.fresh (Nat.le_refl _))
end
theorem for_down {hi:Int} {n:Nat} {g:TG} {tb:TS} {D:Ends} {σ:St} {H:Hp} (Pv:Nat→St→Hp→Prop) (h0:Pv 0 σ H)
    (hs:∀i σ H,i<n→Pv i σ H→g (.int (hi - i)) σ H fun σ2 H2=>tb { D with nx:=Pv (i+1),ct:=Pv (i+1),bk:=D.nx } σ2 H2) (hd:∀σ H,Pv n σ H→D.nx σ H) :
    ∃W:Nat→Nat→St→Hp→Prop,(∃m,W 0 m σ H)∧∀i m σ H,W i m σ H →
      ((Itd hi n).stop i H∧D.nx σ H)∨((Itd hi n).go i H∧∃N:St→Hp→Prop,(∀σ' H',N σ' H'→∃m',m'<m∧W (i+1) m' σ' H')∧∀x H',(Itd hi n).yld i H x H'→g x σ H' fun σ2 H2=>tb { D with nx:=N,ct:=N,bk:=D.nx } σ2 H2):=by
  refine ⟨fun i m σ H=>m=n - i∧i≤n∧Pv i σ H,⟨n,by simp,Nat.zero_le _,h0⟩,?_⟩
  rintro i m σ H ⟨rfl,hi,p⟩
  by_cases hlt:i<n
  · refine .inr ⟨hlt,Pv (i+1),fun σ' H' p'=>⟨n - (i+1),by omega,rfl,hlt,p'⟩,fun x H' y=>?_⟩
    obtain ⟨e,y⟩:=y
    subst e y
    exact hs i σ _ hlt p
  · have e:i=n:=by omega
    subst e
    exact .inl ⟨Nat.le_refl _,hd σ H p⟩
inductive TyN (H:Hp):V→String→Prop where
  | non:TyN H .non "NoneType"
  | bl (x:Bool):TyN H (.bl x) "bool"
  | int (i:Int):TyN H (.int i) "int"
  | str (x:Str):TyN H (.str x) "str"
  | lst {a:Addr} {xs:List V} (e:H a=some (.lst xs)):TyN H (.ref a) "list"
  | tup {a:Addr} {xs:List V} (e:H a=some (.tup xs)):TyN H (.ref a) "tuple"
theorem TyN.of {H:Hp} {x:V} {n:String} (K:PySem.W.Frag) (t:TyN H x n):TyOf K H x (.type n):=by
  cases t with
  | non=>exact .non
  | bl x=>exact .bl x
  | int i=>exact .int i
  | str x=>exact .str x
  | lst e=>exact .lst e
  | tup e=>exact .tup e
theorem TyN.mem {H:Hp} {x:V} {n:String} (t:TyN H x n):n∈["NoneType","bool","int","str","list","tuple"]:=by
  cases t <;> simp
section
variable {X:Cx}
end
theorem CompScope.mk' {X:Cx} {scope:Scope} {N:List Str} {cap:List Nat} {k:Nat} (fs:Scope) (XN:List Str) (hfs:X.env.scope=fs) (hXN:X.N=XN)
    (h:(scope.kind=.function∧(∀y∈scope.names,y.2≠.cell)∧(∀y∈scope.names,y.2=.free→fs.names.lookup y.1=some .cell∨fs.names.lookup y.1=some .free)∧(∀y∈scope.names,y.2=.local→scope.names.lookup y.1=some .local) ∧
      (∀x∈N.take cap.length,scope.names.lookup x=some .free)∧cap.map (fun i=>XN[i]?)=(N.take cap.length).map some∧N.length=cap.length+k)):CompScope X scope N cap k:=by
  subst hfs hXN
  exact ⟨h.1,h.2.1,h.2.2.1,h.2.2.2.1,h.2.2.2.2.1,h.2.2.2.2.2.1,h.2.2.2.2.2.2⟩
def IsRow (H:Hp) (r:Addr) (row:List Int):Prop:=H r=some (.lst (row.map V.int))
def IsRows (H:Hp):List Addr→List (List Int)→Prop:=Paired (IsRow H)
def IsTab (H:Hp) (a:Addr) (rs:List Addr) (T:List (List Int)):Prop:=H a=some (.lst (rs.map V.ref))∧IsRows H rs T
def datT (T:List (List Int)):PyData:=.list (T.map fun r=>.list (r.map .int))
theorem shaped_T (T:List (List Int)):SeqAt.shaped (datT T)=true:=by
  have h1:∀T:List (List Int),PyData.canLayAll0 (T.map fun r=>PyData.list (r.map .int))=true:=fun T=>by
    induction T with
    | nil=>rfl
    | cons r T ih=>simp [PyData.canLayAll0,PyData.canLay0,PySem.W.ke_canLayAll0,ih]
  have h2:∀T:List (List Int),PyData.depthAll (T.map fun r=>PyData.list (r.map .int))≤1:=fun T=>by
    induction T with
    | nil=>exact Nat.zero_le _
    | cons r T ih=>simp [PyData.depthAll,PyData.depth,PySem.W.ke_depthAll];omega
  have:=h2 T
  simp [SeqAt.shaped,datT,PyData.canLay0,PyData.depth,h1]
  omega
theorem eqv_T:∀T U:List (List Int),PyData.eqvAll (T.map fun r=>PyData.list (r.map .int)) (U.map fun r=>PyData.list (r.map .int))=decide (T=U)
  | [],[]=>by simp [PyData.eqvAll]
  | [],_::_=>by simp [PyData.eqvAll]
  | _::_,[]=>by simp [PyData.eqvAll]
  | a::r,b::t=>by
    simp only [List.map_cons,PyData.eqvAll,PyData.eqv,PySem.W.ked_eqvAll,eqv_T r t]
    by_cases h:a=b <;> by_cases h':r=t <;> simp [h,h']
section
variable {X:Cx} {pins:List (Addr×Obj)} {σ:St} {H:Hp} {s:Shared}
theorem reads_row (I:Inv X pins σ H s) {r:Addr} {row:List Int} (h:IsRow H r row):Reads s.heap (.ref r) (.list (row.map .int)) [r]:=by
  obtain ⟨_,its,n,rv,e⟩:=(show ObjOk X.prog X.w H s.heap r (.lst (row.map V.int)) from I.hok r _ h)
  have hi:=intsAre_of rv
  have all:∀{vs:List Value} {ns:List Int},IntsAre vs ns→ReadsAll s.heap vs (ns.map .int) []:=fun {vs ns} hi=>by
    induction hi with
    | nil=>exact .nil
    | cons i t _ ih=>exact .cons (.int _ _) ih
  exact .list e rfl rfl (all hi)
theorem reads_rows (I:Inv X pins σ H s):∀{rs:List Addr} {T:List (List Int)},IsRows H rs T→ReadsAll s.heap (rs.map Value.ref) (T.map fun r=>.list (r.map .int)) rs
  | _,_,.nil=>.nil
  | _,_,.cons h t=>.cons (reads_row I h) (reads_rows I t)
theorem vals_ref:∀{rs:List Addr} {us:List Value},Vals (rs.map V.ref) us→us=rs.map Value.ref
  | [],_,.nil=>rfl
  | _::_,_,.cons r t=>by rw [vals_ref t];cases r;rfl
theorem reads_tab (I:Inv X pins σ H s) {a:Addr} {rs:List Addr} {T:List (List Int)} (h:IsTab H a rs T):Reads s.heap (.ref a) (datT T) (a::rs):=by
  obtain ⟨_,its,n,rv,e⟩:=(show ObjOk X.prog X.w H s.heap a (.lst (rs.map V.ref)) from I.hok a _ h.1)
  have:=vals_ref rv
  subst this
  exact .list e rfl rfl (reads_rows I h.2)
def rEqT:R2:=fun x y H Q=>∃a b rs qs T U,x=.ref a∧y=.ref b∧IsTab H a rs T∧IsTab H b qs U∧Q (.bl (decide (T=U))) H
def rNeT:R2:=fun x y H Q=>∃a b rs qs T U,x=.ref a∧y=.ref b∧IsTab H a rs T∧IsTab H b qs U∧Q (.bl (!decide (T=U))) H
theorem op_eqT (hu:X.A.units+64<cLine):OpR X (compareOp .Eq) rEqT:=by
  intro pins s σ H x y v u Q I rx ry h
  obtain ⟨a,b,rs,qs,T,U,rfl,rfl,ha,hb,q⟩:=h
  cases rx
  cases ry
  refine eq_dataH (reads_tab I ha) (reads_tab I hb) (shaped_T T) (shaped_T U) hu ?_
  refine ⟨.bl (decide (T=U)),H,I,?_,q⟩
  show Value.bool (PyData.eqvAll _ _)=_
  rw [eqv_T]
theorem op_neT (hu:X.A.units+64<cLine):OpR X (compareOp .NotEq) rNeT:=by
  intro pins s σ H x y v u Q I rx ry h
  obtain ⟨a,b,rs,qs,T,U,rfl,rfl,ha,hb,q⟩:=h
  cases rx
  cases ry
  refine ne_dataH (reads_tab I ha) (reads_tab I hb) (shaped_T T) (shaped_T U) hu ?_
  refine ⟨.bl (!decide (T=U)),H,I,?_,q⟩
  show Value.bool (!(PyData.eqvAll _ _))=_
  rw [eqv_T]
end
end L2
namespace L2
open PySem PySem.Spec PyProof.Rows
structure Callee (P:Program) (w:World) (K:PySem.W.Frag) (mg:Str→Option Value) (base:Heap) (k:Nat) (x:Str) (ps:List Str) (sp:Sp):Prop where
  ex:∃(f:Addr) (fd:FuncData),FnOk P w K mg base CX0 k f fd ps sp∧mg x=some (.ref f)∧PySem.W.keepIn K (.ref f)=true∧Binds K fd ps []∧∃(oc:Value) (od:Option Addr) (osl:Array (Option Value)),K.lookup f=some ⟨oc,od,.func fd,osl⟩
theorem pe_callC {X:Cx} {k:Nat} {x:Str} {ps:List Str} {sp:Sp} {p pos:Pos} {e:Expr} {es:List Expr} {t:TA} (C:Callee X.prog X.w X.K X.mg X.base k x ps sp) (hr:Room k X.A) (hg:Gl X x) (ha:PA X (e::es) t)
    (hdb:(x == ("__debug__" : Str))=false:=by decide) (he:starEach (e::es) X.env=(false,eval e X.env)::starEach es X.env:=by rfl) (hpl:(backTo pos (starEach es X.env)).any (·.1)=false:=by rfl) :
    PE X (.Call (.Name x p) (e::es) [] pos) (tCall sp [] E0 t):=by
  obtain ⟨f,fd,F,hm,hk,hb,_⟩:=C.ex
  exact pe_call F hr hg hm hk hb .nil pass0 ha hdb he hpl
structure DefAt (K:PySem.W.Frag) (mg:Str→Option Value) (x:Str) (st:Stmt) (ps:List Str):Prop where
  ex:∃(f:Addr) (fd:FuncData),Fun K x x st f fd∧mg x=some (.ref f)∧Binds K fd ps []
theorem DefAt.ok {P:Program} {w:World} {K:PySem.W.Frag} {mg:Str→Option Value} {base:Heap} {x:Str} {st:Stmt} {N ps:List Str} {k:Nat} {sp:Sp} (D:DefAt K mg x st ps) (S:FnScope N ps (defScope st)) (len:∀vs H Q E,sp vs H Q E→vs.length=ps.length)
    (hbody:∀(f:Addr) (cdv:Value) (A:Around) (outer:List Env) (s:Shared) (H:Hp) (vs:List V) (Q:VK) (E:XK),Room k (A.deeper (envOfC x (defScope st) s.heap.objs.size f cdv))→sp vs H Q E →
      ∃t,PSs (cxOf CX0 P w K mg base N x (defScope st) f cdv A outer s H E).nox (defBody st) t∧t { nx:=fun _ H'=>Q .non H',rt:=Q } (start N vs) H):Callee P w K mg base (k+1) x ps sp:=by
  obtain ⟨f,fd,F,hm,hb⟩:=D.ex
  obtain ⟨oc,od,_,_,_,_,_,_,osl,_,lk,_⟩:=F.ex
  exact ⟨f,fd,F.ok S len (hbody f),hm,F.kp,hb,oc,od,osl,lk⟩
theorem def_mk {K:PySem.W.Frag} {h:Heap} {mg:Str→Option Value} (X:K.In h) (G:h.Ns mainGlobals mg) {x:Str} {st:Stmt} {ps:List Str} {f:Addr} {oc:Value} {od an:Option Addr} {osl:Array (Option Value)} {kV doc pm cdv ct:Value}
    (a:PySem.W.nsIn K mainGlobals x=some (some (.ref f))) (l:K.lookup f=some ⟨oc,od,.func (PySem.W.fnOf x x (defArgs st) (defBody st) (defScope st) .none kV doc pm an cdv ct),osl⟩)
    (c:PySem.W.codeIn K cdv x=true) (k:PySem.W.keepIn K (.ref f)=true)
    (hb:∀(kV doc pm:Value) (an:Option Addr) (cdv ct:Value) (us:List Value),us.length=ps.length→bindArgs (PySem.W.fnOf x x (defArgs st) (defBody st) (defScope st) .none kV doc pm an cdv ct) ⟨us,[]⟩=pure (ps.zip us)):DefAt K mg x st ps :=
  ⟨f,_,fun_mk l c k,PySem.W.mg_of X G a,(fun_mk l c k).binds hb⟩
structure Bt (mg:Str→Option Value):Prop where
  len:mg "len" = none
  list:mg "list" = none
  tuple:mg "tuple" = none
  int:mg "int" = none
  bool:mg "bool" = none
  str:mg "str" = none
  range:mg "range" = none
  zip:mg "zip" = none
  enumerate:mg "enumerate" = none
  reversed:mg "reversed" = none
  isinstance:mg "isinstance" = none
  min:mg "min" = none
theorem bt_len:bootBuiltins "len" = some (.builtin "len"):=by decide +kernel
theorem bt_list:bootBuiltins "list" = some (.type "list"):=by decide +kernel
theorem bt_isinstance:bootBuiltins "isinstance" = some (.builtin "isinstance"):=by decide +kernel
theorem bt_min:bootBuiltins "min" = some (.builtin "min"):=by decide +kernel
theorem ix_listK {X:Cx} {K:PySem.W.Frag} (h:X.K=K):IxR X (rIxL K):=h▸ix_list
theorem call_len_seqK {X:Cx} {K:PySem.W.Frag} (h:X.K=K):CallR X (.builtin "len") (fun xs H Q=>∃p ys,xs=[.ref p]∧(SqL K H p ys∨SqT K H p ys)∧Q (.int ys.length) H):=h▸call_len_seq
theorem call_list_ofK {X:Cx} {K:PySem.W.Frag} (h:X.K=K):CallR X (.type "list") (fun xs H Q=>∃p ys,xs=[.ref p]∧(SqL K H p ys∨SqT K H p ys)∧∀l,H l=none→Q (.ref l) (upd H l (.lst ys))):=h▸call_list_of
theorem pg_tupK {X:Cx} {K:PySem.W.Frag} {pos:Pos} {es:List Expr} {k:Nat} {t:TGs} {n:Nat} (hK:X.K=K) (hc:X.calm=true) (h:PGs X es t)
    (hn:(assignEach es X.env).length=n:=by rfl) (hst:(assignEach es X.env).findIdx? (·.1)=none:=by rfl):PG X (.Tuple es k pos) (gTup K n t):=hK▸pg_tup hc h hn hst
theorem comp_it {J:It} {n:Nat} {g:TG} {te:TE} {σ:St} {cap:List Nat} {k:Nat} {H:Hp} {Q:VK} (Pv:Nat→List V→Hp→Prop) (hz:n≤sizeLine) (h0:Pv 0 [] H) (hlen:∀i ys H,Pv i ys H→ys.length=i)
    (hgo:∀i ys H,i<n→Pv i ys H→J.go i H) (hstop:∀ys H,Pv n ys H→J.stop n H)
    (hs:∀i x ys H H',i<n→Pv i ys H→J.yld i H x H'→g x (capσ σ cap k) H' fun σ2 H2=>σ2.take cap.length=(capσ σ cap k).take cap.length∧te σ2 H2 fun y H3=>Pv (i+1) (ys++[y]) H3)
    (hd:∀ys H,Pv n ys H→∀D,H D=none→Q (.ref D) (upd H D (.lst ys))) :
    CompW J cap k g te σ H Q:=by
  refine ⟨fun i m ys H=>m=n - i∧i≤n∧Pv i ys H,⟨n,by simp,Nat.zero_le _,h0⟩,?_⟩
  rintro i m ys H ⟨rfl,hi,p⟩
  by_cases hlt:i<n
  · refine .inr ⟨hgo i ys H hlt p,by rw [hlen i ys H p];omega,fun y H3=>Pv (i+1) (ys++[y]) H3,fun y H3 p'=>⟨n - (i+1),by omega,rfl,hlt,p'⟩,fun x H' y=>hs i x ys H H' hlt p y⟩
  · have e:i=n:=by omega
    subst e
    exact .inl ⟨hstop ys H p,hd ys H p⟩
theorem comp_list {K:PySem.W.Frag} {a:Addr} {xs:List V} {g:TG} {te:TE} {σ:St} {cap:List Nat} {k:Nat} {H:Hp} {Q:VK} (Pv:Nat→List V→Hp→Prop) (hz:xs.length≤sizeLine) (h0:Pv 0 [] H) (hlen:∀i ys H,Pv i ys H→ys.length=i)
    (hl:∀i ys H,i≤xs.length→Pv i ys H→SqL K H a xs)
    (hs:∀i x ys H,xs[i]?=some x→Pv i ys H→g x (capσ σ cap k) H fun σ2 H2=>σ2.take cap.length=(capσ σ cap k).take cap.length∧te σ2 H2 fun y H3=>Pv (i+1) (ys++[y]) H3)
    (hd:∀ys H,Pv xs.length ys H→∀D,H D=none→Q (.ref D) (upd H D (.lst ys))) :
    CompW (Itl K a) cap k g te σ H Q:=by
  refine comp_it Pv hz h0 hlen (fun i ys H hi p=>⟨xs,xs[i],hl i ys H (Nat.le_of_lt hi) p,by simp [hi]⟩) (fun ys H p=>⟨xs,hl _ ys H (Nat.le_refl _) p,Nat.le_refl _⟩) (fun i x ys H H' hi p y=>?_) hd
  obtain ⟨e,y⟩:=y
  subst e
  exact hs i x ys _ (y xs (hl i ys _ (Nat.le_of_lt hi) p)) p
theorem iteN {c A B:Prop} [Decidable c] (hc:¬ c) (h:B):if decide c=true then A else B:=by
  rw [decide_eq_false hc];exact iteF h
theorem iteP {c A B:Prop} [Decidable c] (hc:c) (h:A):if decide c=true then A else B:=by
  rw [decide_eq_true hc];exact iteT h
theorem iteNN {c A B:Prop} [Decidable c] (hc:¬ c) (h:A):if (!decide c)=true then A else B:=by
  rw [decide_eq_false hc];exact iteT h
theorem v_ne {i j:Int} (h:i≠j):¬ V.int i=V.int j:=fun z=>h (V.int.inj z)
def Stay (H H':Hp) (F:List Addr):Prop:=∀b o,H b=some o→b∉F→H' b=some o
theorem Same.stay {H H':Hp} (h:Same H H') (F:List Addr):Stay H H' F:=fun b o e _=>h b o e
theorem Stay.same {H H':Hp} (h:Stay H H' []):Same H H':=fun b o e=>h b o e (by simp)
theorem Same.laid {H H1:Hp} {p:Addr} {o:HO} (h:Same H H1) (hn:H1 p=none):Same H (upd H1 p o):=fun b u e=>by
  have q:=h b u e
  rw [upd_ne (ne_of_none q hn)];exact q
theorem same_upd {H:Hp} {p:Addr} {o:HO} (hn:H p=none):Same H (upd H p o):=(Same.refl H).laid hn
structure TabAt (H:Hp) (a:Addr) (rs:List Addr) (T:List (List Int)):Prop where
  tab:IsTab H a rs T
  nd:(a::rs).Nodup
theorem IsRows.imp {H H':Hp}:∀{rs:List Addr} {T:List (List Int)},IsRows H rs T→(∀r∈rs,∀o,H r=some o→H' r=some o)→IsRows H' rs T
  | _,_,.nil,_=>.nil
  | _,_,.cons h t,f=>.cons (f _ List.mem_cons_self _ h) (IsRows.imp t fun r hr=>f r (List.mem_cons_of_mem _ hr))
theorem TabAt.stay {H H':Hp} {a:Addr} {rs:List Addr} {T:List (List Int)} {F:List Addr} (t:TabAt H a rs T) (s:Stay H H' F) (d:∀b∈a::rs,b∉F):TabAt H' a rs T :=
  ⟨⟨s _ _ t.tab.1 (d a List.mem_cons_self),t.tab.2.imp fun r hr o e=>s r o e (d r (List.mem_cons_of_mem _ hr))⟩,t.nd⟩
theorem TabAt.same {H H':Hp} {a:Addr} {rs:List Addr} {T:List (List Int)} (t:TabAt H a rs T) (s:Same H H'):TabAt H' a rs T:=t.stay (s.stay []) (by simp)
theorem IsRows.length {H:Hp} {rs:List Addr} {T:List (List Int)} (h:IsRows H rs T):rs.length=T.length:=Paired.length h
theorem IsRows.get {H:Hp}:∀{rs:List Addr} {T:List (List Int)} {i:Nat} {row:List Int},IsRows H rs T→T[i]?=some row→∃r,rs[i]?=some r∧IsRow H r row
  | _,_,_,_,.nil,e=>by simp at e
  | _,_,0,_,.cons h _,e=>by simp at e;subst e;exact ⟨_,rfl,h⟩
  | _,_,i+1,row,.cons _ t,e=>by
    obtain ⟨r,h1,h2⟩:=IsRows.get (i:=i) (row:=row) t (by simpa using e)
    exact ⟨r,by simpa using h1,h2⟩
theorem IsRows.tracked {H:Hp}:∀{rs:List Addr} {T:List (List Int)},IsRows H rs T→∀r∈rs,∃row,IsRow H r row
  | _,_,.nil,_,h=>nomatch h
  | _,_,.cons h t,r,hr=>by
    rcases List.mem_cons.mp hr with rfl | hr
    · exact ⟨_,h⟩
    · exact IsRows.tracked t r hr
theorem TabAt.tracked {H:Hp} {a:Addr} {rs:List Addr} {T:List (List Int)} (t:TabAt H a rs T):∀b∈a::rs,∃o,H b=some o:=fun b hb=>by
  rcases List.mem_cons.mp hb with rfl | hb
  · exact ⟨_,t.tab.1⟩
  · obtain ⟨row,h⟩:=t.tab.2.tracked b hb
    exact ⟨_,h⟩
theorem IsRows.set {H:Hp}:∀{rs:List Addr} {T:List (List Int)} {i:Nat} {r:Addr} {row:List Int},IsRows H rs T→rs.Nodup→rs[i]?=some r→IsRows (upd H r (.lst (row.map V.int))) rs (T.set i row)
  | _,_,_,_,_,.nil,_,e=>by simp at e
  | q::rs,t::T,0,r,row,.cons h l,nd,e=>by
    simp at e;subst e
    refine .cons upd_same (IsRows.imp l fun b hb o eo=>?_)
    rw [upd_ne (by rintro rfl;exact (List.nodup_cons.mp nd).1 hb)];exact eo
  | q::rs,t::T,i+1,r,row,.cons h l,nd,e=>by
    have e':rs[i]?=some r:=by simpa using e
    have hr:r∈rs:=List.mem_of_getElem? e'
    refine .cons ?_ (IsRows.set l (List.nodup_cons.mp nd).2 e')
    have hne:q≠r:=by rintro rfl;exact (List.nodup_cons.mp nd).1 hr
    show upd H r _ q=_
    rw [upd_ne hne];exact h
theorem TabAt.cell {H:Hp} {a:Addr} {rs:List Addr} {T:List (List Int)} {i:Nat} {r:Addr} {row:List Int} (t:TabAt H a rs T) (e:rs[i]?=some r):TabAt (upd H r (.lst (row.map V.int))) a rs (T.set i row):=by
  have nd:=List.nodup_cons.mp t.nd
  refine ⟨⟨?_,t.tab.2.set nd.2 e⟩,t.nd⟩
  have hne:a≠r:=by rintro rfl;exact nd.1 (List.mem_of_getElem? e)
  rw [upd_ne hne];exact t.tab.1
theorem IsRows.put {H:Hp}:∀{rs:List Addr} {T:List (List Int)} {i:Nat} {p:Addr} {row:List Int},IsRows H rs T→IsRow H p row→IsRows H (rs.set i p) (T.set i row)
  | _,_,_,_,_,.nil,_=>.nil
  | _,_,0,_,_,.cons _ l,hp=>.cons hp l
  | _,_,i+1,_,_,.cons h l,hp=>.cons h (IsRows.put l hp)
end L2
namespace X1
open PySem L2
abbrev Tb:=List (List Int)
inductive Ch where
  | add (s:Bool) (i j:Nat) (q:Int) | swap (s:Bool) (i j:Nat) | turn (s:Bool) (i:Nat)
def sd (s:Bool):Str:=if s then "row" else "column"
def chV:Ch→List V
  | .add s i j q=>[.str "add",.str (sd s),.int i,.int j,.int q]
  | .swap s i j=>[.str "swap",.str (sd s),.int i,.int j]
  | .turn s i=>[.str "turn",.str (sd s),.int i]
def Ch.side:Ch→Bool
  | .add s _ _ _=>s
  | .swap s _ _=>s
  | .turn s _=>s
def dim (s:Bool) (m n:Nat):Nat:=if s then m else n
def Ch.ok (m n:Nat):Ch→Prop
  | .add s i j _=>i<dim s m n∧j<dim s m n∧i≠j
  | .swap s i j=>i<dim s m n∧j<dim s m n∧i≠j
  | .turn s i=>i<dim s m n
def Ch.small:Ch→Prop
  | .add _ _ _ q=>-(2^64)<q∧q<2^64
  | _=>True
def Ch.app:Ch→Tb→Tb
  | .add true i j q,T=>T.set i (List.zipWith (fun x y=>x+q*y) (T.getD i []) (T.getD j []))
  | .add false i j q,T=>T.map fun r=>r.set i (r.getD i 0+q*r.getD j 0)
  | .swap true i j,T=>(T.set i (T.getD j [])).set j (T.getD i [])
  | .swap false i j,T=>T.map fun r=>(r.set i (r.getD j 0)).set j (r.getD i 0)
  | .turn true i,T=>T.set i ((T.getD i []).map fun x=>-x)
  | .turn false i,T=>T.map fun r=>r.set i (-(r.getD i 0))
def Ch.back:Ch→Ch
  | .add s i j q=>.add s i j (-q)
  | c=>c
def backs (cs:List Ch):List Ch:=cs.reverse.map Ch.back
def Rect (m n:Nat) (T:Tb):Prop:=T.length=m∧∀r∈T,r.length=n
def ent (T:Tb) (i j:Nat):Int:=(T.getD i []).getD j 0
section
variable {m n:Nat} {T U:Tb}
theorem Rect.row (h:Rect m n T) {i:Nat} (hi:i<m):(T.getD i []).length=n:=by
  have hi':i<T.length:=by rw [h.1];exact hi
  have e:T.getD i []=T[i]:=by simp [hi']
  rw [e]
  exact h.2 _ (List.getElem_mem hi')
theorem Rect.set (h:Rect m n T) {i:Nat} {r:List Int} (hr:r.length=n):Rect m n (T.set i r):=by
  refine ⟨by rw [List.length_set];exact h.1,fun q hq=>?_⟩
  rcases List.mem_or_eq_of_mem_set hq with z | z
  · exact h.2 q z
  · rw [z];exact hr
theorem Rect.map (h:Rect m n T) {f:List Int→List Int} (hf:∀r,r.length=n→(f r).length=n):Rect m n (T.map f):=by
  refine ⟨by rw [List.length_map];exact h.1,fun q hq=>?_⟩
  obtain ⟨r,hr,rfl⟩:=List.mem_map.mp hq
  exact hf r (h.2 r hr)
theorem ent_set {i:Nat} {r:List Int} (hi:i<T.length) (x y:Nat):ent (T.set i r) x y=if x=i then r.getD y 0 else ent T x y:=by
  unfold ent
  by_cases hx:x=i
  · subst hx
    simp [hi]
  · rw [if_neg hx]
    simp only [List.getD_eq_getElem?_getD,List.getElem?_set_ne (Ne.symm hx)]
theorem getD_set {r:List Int} {i:Nat} {v:Int} (hi:i<r.length) (y:Nat):(r.set i v).getD y 0=if y=i then v else r.getD y 0:=by
  by_cases hy:y=i
  · subst hy;simp [hi]
  · rw [if_neg hy];simp only [List.getD_eq_getElem?_getD,List.getElem?_set_ne (Ne.symm hy)]
theorem ent_map {f:List Int→List Int} {x y:Nat} (hx:x<T.length):ent (T.map f) x y=(f (T.getD x [])).getD y 0:=by
  unfold ent
  simp [hx]
theorem tb_ext (h:Rect m n T) (h':Rect m n U) (e:∀i j,i<m→j<n→ent T i j=ent U i j):T=U:=by
  refine List.ext_getElem (by rw [h.1,h'.1]) fun i h1 h2=>?_
  have l1:=h.2 _ (List.getElem_mem h1)
  have l2:=h'.2 _ (List.getElem_mem h2)
  refine List.ext_getElem (by rw [l1,l2]) fun j g1 g2=>?_
  have q:=e i j (by rw [←h.1];exact h1) (by rw [←l1];exact g1)
  unfold ent at q
  simpa [h1,h2,g1,g2] using q
theorem Ch.app_rect (h:Rect m n T) {c:Ch} (hc:c.ok m n):Rect m n (c.app T):=by
  cases c with
  | add s i j q =>
    cases s with
    | true =>
      obtain ⟨h1,h2,h3⟩:=hc
      refine h.set ?_
      rw [List.length_zipWith,h.row h1,h.row h2,Nat.min_self]
    | false=>exact h.map fun r hr=>by rw [List.length_set];exact hr
  | swap s i j =>
    cases s with
    | true =>
      obtain ⟨h1,h2,h3⟩:=hc
      exact (h.set (h.row h2)).set (h.row h1)
    | false=>exact h.map fun r hr=>by rw [List.length_set,List.length_set];exact hr
  | turn s i =>
    cases s with
    | true=>exact h.set (by rw [List.length_map];exact h.row hc)
    | false=>exact h.map fun r hr=>by rw [List.length_set];exact hr
theorem getD_zip {f:Int→Int→Int} {a b:List Int} {y:Nat} (ha:y<a.length) (hb:y<b.length):(List.zipWith f a b).getD y 0=f (a.getD y 0) (b.getD y 0):=by
  simp [List.getElem?_zipWith,ha,hb]
theorem ent_add_row (h:Rect m n T) {i j:Nat} {q:Int} (h1:i<m) (h2:j<m) {x y:Nat} (hy:y<n):ent ((Ch.add true i j q).app T) x y=if x=i then ent T i y+q*ent T j y else ent T x y:=by
  show ent (T.set i _) x y=_
  rw [ent_set (by rw [h.1];exact h1)]
  by_cases hx:x=i
  · rw [if_pos hx,if_pos hx,getD_zip (by rw [h.row h1];exact hy) (by rw [h.row h2];exact hy)]
    rfl
  · rw [if_neg hx,if_neg hx]
theorem ent_swap_row (h:Rect m n T) {i j:Nat} (h1:i<m) (h2:j<m) {x y:Nat}:ent ((Ch.swap true i j).app T) x y=if x=j then ent T i y else if x=i then ent T j y else ent T x y:=by
  show ent ((T.set i _).set j _) x y=_
  rw [ent_set (by rw [List.length_set,h.1];exact h2),ent_set (by rw [h.1];exact h1)]
  rfl
theorem ent_turn_row (h:Rect m n T) {i:Nat} (h1:i<m) {x y:Nat}:ent ((Ch.turn true i).app T) x y=if x=i then -(ent T i y) else ent T x y:=by
  show ent (T.set i _) x y=_
  rw [ent_set (by rw [h.1];exact h1)]
  by_cases hx:x=i
  · rw [if_pos hx,if_pos hx]
    unfold ent
    generalize T.getD i []=r
    by_cases hy:y<r.length
    · simp [hy]
    · simp [Nat.not_lt.mp hy]
  · rw [if_neg hx,if_neg hx]
theorem ent_add_col (h:Rect m n T) {i j:Nat} {q:Int} (h1:i<n) {x y:Nat} (hx:x<m):ent ((Ch.add false i j q).app T) x y=if y=i then ent T x i+q*ent T x j else ent T x y:=by
  show ent (T.map _) x y=_
  rw [ent_map (by rw [h.1];exact hx),getD_set (by rw [h.row hx];exact h1)]
  rfl
theorem ent_swap_col (h:Rect m n T) {i j:Nat} (h1:i<n) (h2:j<n) {x y:Nat} (hx:x<m):ent ((Ch.swap false i j).app T) x y=if y=j then ent T x i else if y=i then ent T x j else ent T x y:=by
  show ent (T.map _) x y=_
  rw [ent_map (by rw [h.1];exact hx),getD_set (by rw [List.length_set,h.row hx];exact h2),getD_set (by rw [h.row hx];exact h1)]
  rfl
theorem ent_turn_col (h:Rect m n T) {i:Nat} (h1:i<n) {x y:Nat} (hx:x<m):ent ((Ch.turn false i).app T) x y=if y=i then -(ent T x i) else ent T x y:=by
  show ent (T.map _) x y=_
  rw [ent_map (by rw [h.1];exact hx),getD_set (by rw [h.row hx];exact h1)]
  rfl
end
end X1
namespace L2
open PySem PySem.Spec PyProof.Rows
section
variable {X:Cx}
theorem le_pow_bits {c:Nat} {i:Int} (h:i.natAbs≤2^c):Builtin.Int.intBits i≤c+1 :=
  PySem.intBits_le_iff.mpr (Nat.lt_of_le_of_lt h (Nat.pow_lt_pow_succ (by decide)))
theorem mulOkB {i j:Int} {c:Nat} (hc:c≤33554432) (hi:i.natAbs≤2^c) (hj:j.natAbs≤2^c):IntMulOk i j:=PySem.IntMulOk.of_le (le_pow_bits hi) (le_pow_bits hj) (by omega)
theorem op_mulB (c:Nat) (hc:c≤33554432):OpR X (binaryOp .Mult) (rI (fun i j=>i.natAbs≤2^c∧j.natAbs≤2^c) fun i j=>.int (i*j)):=opI fun _ _ _ _ _ _ _ h q=>mul_int q (mulOkB hc h.1 h.2)
theorem op_fdivB {k:Nat} (hs:X.base.NoSeer) (ht:X.prog.given.tree=none) (hr:Room k X.A) (hk:32≤k) (hgen:X.env.scope.isGenerator=false) (hco:X.env.scope.isCoroutine=false) (hst:∃l,X.stack=X.env::l) :
    OpR X (binaryOp .FloorDiv) (rI (fun _ j=>j≠0) fun i j=>.int (i.fdiv j)):=by
  intro pins s σ H x y v u Q I rx ry h
  obtain ⟨i,j,rfl,rfl,hj,q⟩:=h
  obtain ⟨t,rfl⟩:=rx
  obtain ⟨t',rfl⟩:=ry
  obtain ⟨l,hl⟩:=hst
  refine floordiv_int hj ⟨.int (i.fdiv j),H,I.tok _,⟨_,rfl⟩,q⟩ (.inr (PylongRoom.of I.nolimit ?_ (SeerAt.of (env:=X.env) (l:=l) (hs.keeps I.bk) ht (by rw [I.env0.frames,hl]) hgen hco I.ok.blt I.ok.glob)))
  have:=hr.dp
  show X.A.depth+100<recursionLimit
  omega
def rInsert:V→List V→Hp→VK→Prop:=fun x vs H Q=>∃l xs i y,x=.ref l∧vs=[.int (i:Nat),y]∧H l=some (.lst xs)∧i≤xs.length∧xs.length<sizeLine∧Q .non (upd H l (.lst (xs.take i++y::xs.drop i)))
theorem vals_take:∀{vs:List V} {us:List Value} (i:Nat),Vals vs us→Vals (vs.take i) (us.take i)
  | _,_,0,_=>.nil
  | _,_,_+1,.nil=>.nil
  | _,_,i+1,.cons h t=>.cons h (vals_take i t)
theorem vals_drop:∀{vs:List V} {us:List Value} (i:Nat),Vals vs us→Vals (vs.drop i) (us.drop i)
  | _,_,0,h=>h
  | _,_,_+1,.nil=>.nil
  | _,_,i+1,.cons _ t=>vals_drop i t
theorem mt_insert:MtM X "list.insert" rInsert:=by
  intro pins s σ H x vs v us Q I rx rv h
  obtain ⟨l,xs,i,y,rfl,rfl,hH,hi,hz,q⟩:=h
  cases rx
  cases rv with
  | cons r1 r2 =>
  cases r2 with
  | cons r2 r3 =>
  cases r3
  rename_i u1 u2
  obtain ⟨tk,rfl⟩:=(show ∃t,u1=Value.int (i:Nat) t from r1)
  obtain ⟨z,its,n,r,hl,e⟩:=I.lstM hH
  obtain ⟨x,hx⟩:∃x:Int,x=((i:Nat):Int):=⟨_,rfl⟩
  rw [←hx]
  have hsz:=PySem.sizeLine_eq
  have hf:Builtin.List.listFitsIndex x=true:=by
    unfold Builtin.List.listFitsIndex
    simp
    omega
  refine call_meets PySem.F.slot_list_insert ⟨_,e,rfl⟩ PySem.F.entry_list_insert (PySem.F.args_list_insert_3 _ _ _) (PySem.AutoSeq1.list_insert_list_int_val_1 l its.toArray n x tk u2 (by simp [hf]) (by rw [List.size_toArray];omega)) ⟨e,?_⟩
  refine ⟨.non,_,I.lset (its':=its.take i++u2::its.drop i) hH e ?_ ((vals_take i r).append (.cons r2 (vals_drop i r))) ?_,rfl,q⟩
  · have hk:(if x<0 then (x+((its.toArray.size:Nat):Int)).toNat else min x.toNat its.toArray.size)=i:=by
      rw [if_neg (by omega),List.size_toArray]
      omega
    show (its.toArray.extract 0 (if x<0 then (x+((its.toArray.size:Nat):Int)).toNat else min x.toNat its.toArray.size)).push u2++its.toArray.extract (if x<0 then (x+((its.toArray.size:Nat):Int)).toNat else min x.toNat its.toArray.size)=_
    rw [hk]
    exact PySem.W.kl_ins_eq its i u2
  · rw [List.length_append,List.length_cons,List.length_take,List.length_drop]
    omega
structure MCallee (P:Program) (w:World) (K:PySem.W.Frag) (mg:Str→Option Value) (base:Heap) (C:Addr) (k:Nat) (m:Str) (ps:List Str) (sp:Sp):Prop where
  cl:Cls K C
  ex:∃(f:Addr) (fd:FuncData),FnOk P w K mg base CX0 k f fd ps sp∧Meth K C m f∧Binds K fd ps []
theorem pe_methC {k:Nat} {m:Str} {ps:List Str} {sp:Sp} {C:Addr} {pos apos:Pos} {e o:Expr} {es:List Expr} {ta:TE} {t:TA} (M:MCallee X.prog X.w X.K X.mg X.base C k m ps sp) (he:PE X o ta) (hr:Room k X.A) (ha:PA X (e::es) t) {pl:Sem Bool}
    (hst:starEach (e::es) X.env=(false,eval e X.env)::starEach es X.env:=by rfl) (hpl:(backTo pos (starEach es X.env)).any (·.1)=false:=by rfl)
    (ht:eval (.Call (.Attribute o m apos) (e::es) [] pos) X.env=(do
      let ov ←eval o X.env
      standAt apos.atName
      let (f,first) ←holding [ov] (getMethod ov m pl)
      callWith pos f first (backTo pos (starEach (e::es) X.env)) (backToKw pos (keywordEach [] X.env))):=by rfl) :
    PE X (.Call (.Attribute o m apos) (e::es) [] pos) (tMeth C m sp [] E0 ta t):=by
  obtain ⟨f,fd,F,hm,hb⟩:=M.ex
  exact pe_meth he M.cl hm F hr hb .nil pass0 ha hst hpl ht
theorem pe_methC0 {k:Nat} {m:Str} {ps:List Str} {sp:Sp} {C:Addr} {pos apos:Pos} {o:Expr} {ta:TE} (M:MCallee X.prog X.w X.K X.mg X.base C k m ps sp) (he:PE X o ta) (hr:Room k X.A) {pl:Sem Bool}
    (ht:eval (.Call (.Attribute o m apos) [] [] pos) X.env=(do
      let ov ←eval o X.env
      standAt apos.atName
      let (f,first) ←holding [ov] (getMethod ov m pl)
      callWith pos f first (backTo pos (starEach [] X.env)) (backToKw pos (keywordEach [] X.env))):=by rfl) :
    PE X (.Call (.Attribute o m apos) [] [] pos) (tMeth C m sp [] E0 ta tNil):=by
  obtain ⟨f,fd,F,hm,hb⟩:=M.ex
  exact pe_meth0 he M.cl hm F hr hb .nil pass0 ht
structure Maker (P:Program) (w:World) (K:PySem.W.Frag) (mg:Str→Option Value) (base:Heap) (C:Addr) (k:Nat) (x:Str) (ps:List Str) (sp:Sp):Prop where
  ex:∃(f:Addr) (fd:FuncData),FnOk P w K mg base CX0 k f fd ps sp∧Mk K C f∧mg x=some (.ref C)∧Binds K fd ps []
theorem pe_makeC {k:Nat} {x:Str} {ps:List Str} {sp:Sp} {C:Addr} {p pos:Pos} {e:Expr} {es:List Expr} {t:TA} (M:Maker X.prog X.w X.K X.mg X.base C k x ps sp) (hr:Room (k+1) X.A) (hg:Gl X x) (ha:PA X (e::es) t)
    (hdb:(x == ("__debug__" : Str))=false:=by decide) (he:starEach (e::es) X.env=(false,eval e X.env)::starEach es X.env:=by rfl) (hpl:(backTo pos (starEach es X.env)).any (·.1)=false:=by rfl) :
    PE X (.Call (.Name x p) (e::es) [] pos) (tMake C sp [] E0 t):=by
  obtain ⟨f,fd,F,M,hm,hb⟩:=M.ex
  exact pe_make M F hr hg hm hb .nil pass0 ha hdb he hpl
end
end L2
namespace L2
open PySem PySem.Spec PyProof.Rows
section
variable {X:Cx}
end
end L2
namespace L2
open PySem PySem.Spec PyProof.Rows
theorem pe_fldK {X:Cx} {K:PySem.W.Frag} {e:Expr} {ta:TE} {f:Str} {pos:Pos} (h:X.K=K) (he:PE X e ta) (hb:attributeBase e f X.env (eval e X.env)=eval e X.env):PE X (.Attribute e f pos) (tFld K ta f):=h▸pe_fld he hb
structure MDefAt (K:PySem.W.Frag) (C:Addr) (m qual:Str) (st:Stmt) (ps:List Str):Prop where
  ex:∃(f:Addr) (fd:FuncData),Fun K m qual st f fd∧Meth K C m f∧Binds K fd ps []
theorem MDefAt.ok {P:Program} {w:World} {K:PySem.W.Frag} {mg:Str→Option Value} {base:Heap} {C:Addr} {m qual:Str} {st:Stmt} {N ps:List Str} {k:Nat} {sp:Sp} (D:MDefAt K C m qual st ps) (cl:Cls K C) (S:FnScope N ps (defScope st)) (len:∀vs H Q E,sp vs H Q E→vs.length=ps.length)
    (hbody:∀(f:Addr) (cdv:Value) (A:Around) (outer:List Env) (s:Shared) (H:Hp) (vs:List V) (Q:VK) (E:XK),Room k (A.deeper (envOfC qual (defScope st) s.heap.objs.size f cdv))→sp vs H Q E →
      ∃t,PSs (cxOf CX0 P w K mg base N qual (defScope st) f cdv A outer s H E).nox (defBody st) t∧t { nx:=fun _ H'=>Q .non H',rt:=Q } (start N vs) H):MCallee P w K mg base C (k+1) m ps sp:=by
  obtain ⟨f,fd,F,hm,hb⟩:=D.ex
  exact ⟨cl,f,fd,F.ok S len (hbody f),hm,hb⟩
structure MkAt (K:PySem.W.Frag) (mg:Str→Option Value) (C:Addr) (x qual:Str) (st:Stmt) (ps:List Str):Prop where
  ex:∃(f:Addr) (fd:FuncData),Fun K "__init__" qual st f fd∧Mk K C f∧mg x=some (.ref C)∧Binds K fd ps []
theorem MkAt.ok {P:Program} {w:World} {K:PySem.W.Frag} {mg:Str→Option Value} {base:Heap} {C:Addr} {x qual:Str} {st:Stmt} {N ps:List Str} {k:Nat} {sp:Sp} (D:MkAt K mg C x qual st ps) (S:FnScope N ps (defScope st)) (len:∀vs H Q E,sp vs H Q E→vs.length=ps.length)
    (hbody:∀(f:Addr) (cdv:Value) (A:Around) (outer:List Env) (s:Shared) (H:Hp) (vs:List V) (Q:VK) (E:XK),Room k (A.deeper (envOfC qual (defScope st) s.heap.objs.size f cdv))→sp vs H Q E →
      ∃t,PSs (cxOf CX0 P w K mg base N qual (defScope st) f cdv A outer s H E).nox (defBody st) t∧t { nx:=fun _ H'=>Q .non H',rt:=Q } (start N vs) H):Maker P w K mg base C (k+1) x ps sp:=by
  obtain ⟨f,fd,F,hm,hg,hb⟩:=D.ex
  exact ⟨f,fd,F.ok S len (hbody f),hm,hg,hb⟩
theorem for_it {J:It} {n:Nat} {g:TG} {tb:TS} {D:Ends} {σ:St} {H:Hp} (Pv:Nat→St→Hp→Prop) (h0:Pv 0 σ H) (hgo:∀i σ H,i<n→Pv i σ H→J.go i H) (hstop:∀σ H,Pv n σ H→J.stop n H)
    (hs:∀i x σ H H',i<n→Pv i σ H→J.yld i H x H'→g x σ H' fun σ2 H2=>tb { D with nx:=Pv (i+1),ct:=Pv (i+1),bk:=D.nx } σ2 H2) (hd:∀σ H,Pv n σ H→D.nx σ H) :
    ∃W:Nat→Nat→St→Hp→Prop,(∃m,W 0 m σ H)∧∀i m σ H,W i m σ H →
      (J.stop i H∧D.nx σ H)∨(J.go i H∧∃N:St→Hp→Prop,(∀σ' H',N σ' H'→∃m',m'<m∧W (i+1) m' σ' H')∧∀x H',J.yld i H x H'→g x σ H' fun σ2 H2=>tb { D with nx:=N,ct:=N,bk:=D.nx } σ2 H2):=by
  refine ⟨fun i m σ H=>m=n - i∧i≤n∧Pv i σ H,⟨n,by simp,Nat.zero_le _,h0⟩,?_⟩
  rintro i m σ H ⟨rfl,hi,p⟩
  by_cases hlt:i<n
  · exact .inr ⟨hgo i σ H hlt p,Pv (i+1),fun σ' H' p'=>⟨n - (i+1),by omega,rfl,hlt,p'⟩,fun x H' y=>hs i x σ H H' hlt p y⟩
  · have e:i=n:=by omega
    subst e
    exact .inl ⟨hstop σ H p,hd σ H p⟩
def tSeqX (t u:TS):TS:=fun D σ H=>∃R:St→Hp→Prop,t { D with nx:=R } σ H∧∀σ' H',R σ' H'→u D σ' H'
theorem pss_consX {X:Cx} {st:Stmt} {rest:List Stmt} {t u:TS} (h1:PS X st t) (h2:PSs X rest u):PSs X (st::rest) (tSeqX t u):=by
  intro pins s σ H D I h
  obtain ⟨R,h,hR⟩:=h
  refine pss_cons (u:=fun D' σ' H'=>D'=D∧R σ' H') h1 (fun pins s σ H D' I q=>?_) pins s σ H D I ?_
  · obtain ⟨rfl,q⟩:=q
    exact h2 pins s σ H _ I (hR _ _ q)
  · have e:(fun σ' H'=>D=D∧R σ' H')=R:=by
      funext σ' H'
      exact propext ⟨fun z=>z.2,fun z=>⟨rfl,z⟩⟩
    show t { D with nx:=fun σ' H'=>D=D∧R σ' H' } σ H
    rw [e]
    exact h
end L2
namespace L2
open PySem PySem.Spec PyProof.Rows
theorem for_range0 {n:Nat} {g:TG} {tb:TS} {D:Ends} {σ:St} {H:Hp} (Pv:Nat→St→Hp→Prop) (h0:Pv 0 σ H)
    (hs:∀i σ H,i<n→Pv i σ H→g (.int (i:Nat)) σ H fun σ2 H2=>tb { D with nx:=Pv (i+1),ct:=Pv (i+1),bk:=D.nx } σ2 H2) (hd:∀σ H,Pv n σ H→D.nx σ H) :
    ∃W:Nat→Nat→St→Hp→Prop,(∃m,W 0 m σ H)∧∀i m σ H,W i m σ H →
      ((Itr 0 n).stop i H∧D.nx σ H)∨((Itr 0 n).go i H∧∃N:St→Hp→Prop,(∀σ' H',N σ' H'→∃m',m'<m∧W (i+1) m' σ' H')∧∀x H',(Itr 0 n).yld i H x H'→g x σ H' fun σ2 H2=>tb { D with nx:=N,ct:=N,bk:=D.nx } σ2 H2) :=
  for_range (lo:=0) Pv h0 (fun i σ H hi p=>by rw [Int.zero_add];exact hs i σ H hi p) hd
theorem z0 {x:V} {i:Nat} (h:x=.int (0+(i:Int))):x=.int (i:Nat):=by rw [h,Int.zero_add]
end L2
namespace L2
open PySem PySem.Spec PyProof.Rows
theorem law_callS {P:Program} {w:World} {K:PySem.W.Frag} {mg mb:Str→Option Value} {CX:CXT} {k:Nat} {fa a:Addr} {fd:FuncData} {x:Str} {sp:Sp} {s₁:Shared} {vs:List Value} {ns:List Int}
    (KX:K.In s₁.heap) (hns:s₁.heap.Ns mainGlobals mg) (hb:s₁.heap.Ns builtinsNs mb) (hbb:∀x:Str,x ≠ "__name__" → mb x=bootBuiltins x) (hlim:s₁.heap.NoLimit) (hg:s₁.gens=#[])
    (ha:s₁.heap.get? a=some { cls:=.type "list",data:=.seq vs.toArray }) (hi:IntsAre vs ns) (hl:ns.length≤sizeLine) (hr:Room k callerA)
    (hse:s₁.heap.NoSeer) (F:∀base:Heap,K.In base→base.Ns mainGlobals mg→base.NoSeer→FnOk P w K mg base CX k fa fd [x] sp) (hbind:∀(s:Shared) (u:Value),BindsTo s fd ⟨[u],[]⟩ [(x,u)])
    (hsp:∀H:Hp,Only H→SqL K H a (ns.map V.int)→sp [.ref a] H (fun v _=>v=.bl true) fun _ _ _=>False)
    (hCX:∀H e s',CX [] H s₁ (fun _ _ _=>False) e s'→False) :
    codeAny (model P w) callerA (.call (.ref fa) ⟨[.ref a],[]⟩) (fun r s'=>r=.ok (.ret (.bool true))∧OldK s₁.heap s'.heap∧s'.os=s₁.os∧AllBare s'.gens) s₁:=by
  have rv:=vals_ints hi
  have lenV:=hi.length
  have core:∀H:Hp,Only H→SqL K H a (ns.map V.int)→HOk P w H s₁.heap→(∀b,H b≠none→b=a)→(H a≠none→K.lookup a=none) →
      codeAny (model P w) callerA (.call (.ref fa) ⟨[.ref a],[]⟩) (fun r s'=>r=.ok (.ret (.bool true))∧OldK s₁.heap s'.heap∧s'.os=s₁.os∧AllBare s'.gens) s₁:=by
    intro H hO hS hok hA hK
    have base_of:∀{b:Addr} {o:Obj},s₁.heap.get? b=some o→H b=none→(hidT s₁.heap H).get? b=some o:=fun e n=>hidT_get e n
    have noA:∀{b:Addr} {o:Obj} {es:Array DictEntry} {ep:Nat},s₁.heap.get? b=some o→o.data=.dict es ep→H b=none:=fun {b o es ep} e d=>by
      cases q:H b with
      | none=>rfl
      | some u =>
        have e':b=a:=hA b (by rw [q];simp)
        subst e'
        rw [ha] at e;cases e
        have d':Data.seq vs.toArray _=Data.dict es ep:=d
        cases d'
    have nsK:∀{b:Addr} {m:Str→Option Value},s₁.heap.Ns b m→(hidT s₁.heap H).Ns b m:=fun {b m} ⟨o,es,ep,e,d,r⟩=>⟨o,es,ep,base_of e (noA e d),d,r⟩
    have hKb:K.In (hidT s₁.heap H):=fun b o e=>base_of (KX b o e) (by
      cases q:H b with
      | none=>rfl
      | some u =>
        have e':b=a:=hA b (by rw [q];simp)
        subst e'
        rw [hK (by rw [q];simp)] at e;cases e)
    have hM:Mod K mg (hidT s₁.heap H):=⟨hKb,nsK hns,⟨mb,nsK hb,hbb⟩,let ⟨mc,h1,h2⟩:=hlim;⟨mc,nsK h1,h2⟩⟩
    have e0:Env0 P w K mg (hidT s₁.heap H) callerA [] s₁ H:=⟨rfl,hM,fun b o e=>of_hidT e,Nat.le_of_eq (hidT_size _ _),trivial,fun b hb=>absurd (show b∈([]:List Addr) from hb) (by simp),hok,.of_eq hg⟩
    have hsb:(hidT s₁.heap H).NoSeer:=by
      obtain ⟨⟨mc,c1,c2⟩,⟨mm,m1,m2⟩,⟨mi,i1,i2⟩,⟨mq,bm,ob,q1,q2,q3,q4,q5⟩⟩:=hse
      refine ⟨⟨mc,nsK c1,c2⟩,⟨mm,nsK m1,m2⟩,⟨mi,nsK i1,i2⟩,⟨mq,bm,ob,nsK q1,q2,base_of q3 ?_,q4,q5⟩⟩
      cases q:H bm with
      | none=>rfl
      | some u =>
        have e':bm=a:=hA bm (by rw [q];simp)
        rw [e',ha] at q3
        cases q3
        exact absurd (Value.type.inj q4) (by decide)
    refine codeAny_mono ((F _ hKb (nsK hns) hsb).run callerA [] s₁ H ⟨[.ref a],[]⟩ [.ref a] [.ref a] _ _ hr e0 (hbind s₁ (.ref a)) (.cons rfl .nil) (hsp H hO hS)) fun r s' h=>?_
    cases r with
    | error e=>exact (hCX H e s' h).elim
    | ok fl =>
      cases fl with
      | next=>exact False.elim h
      | brk=>exact False.elim h
      | cont=>exact False.elim h
      | ret u =>
        obtain ⟨v,H',os,bare,un,hok',r',q⟩:=h
        have q':v=.bl true:=q
        subst q'
        obtain rfl:u=Value.bool true:=r'
        refine ⟨rfl,OldK.of_keep fun b o e=>?_,os,bare⟩
        cases q:H b with
        | none=>exact un.keep b o e q (by intro z;exact absurd (show b∈([]:List Addr) from z) (by simp)) (by simp)
        | some u =>
          rcases hO b with z | ⟨ob,xs,z⟩
          · rw [q] at z;cases z
          · have z2:=un.frzs b ob _ z
            obtain ⟨e1,_⟩:=hok b _ z
            obtain ⟨e2,_⟩:=hok' b _ z2
            rw [e] at e1;cases e1
            exact e2
  cases hk:K.lookup a with
  | some o =>
    have e:=KX a o hk
    rw [ha] at e
    cases e
    refine core (fun _=>none) (fun _=>.inl rfl) (.inr ⟨_,vs.toArray,_,hk,rfl,rfl,rfl,by rw [List.size_toArray,lenV];exact hl,by simpa using rv⟩) (fun b u z=>by have z':(none:Option HO)=some u:=z;cases z') (fun b z=>absurd rfl z) fun z=>absurd rfl z
  | none =>
    refine core (fun b=>if b=a then some (.frz { cls:=.type "list",data:=.seq vs.toArray } (.lst (ns.map V.int))) else none) (fun b=>?_) (.inl (.inr ⟨{ cls:=.type "list",data:=.seq vs.toArray },if_pos rfl⟩)) (fun b u z=>?_) (fun b z=>?_) fun _=>hk
    · by_cases hb:b=a
      · exact .inr ⟨_,_,if_pos hb⟩
      · exact .inl (if_neg hb)
    · by_cases hb:b=a
      · have z':=(if_pos hb).symm.trans z
        cases z'
        subst hb
        exact ⟨ha,by rw [List.length_map];exact hl,vs,_,rv,ha⟩
      · have z':=(if_neg hb).symm.trans z
        cases z'
    · by_cases hb:b=a
      · exact hb
      · exact absurd (if_neg hb) z
theorem walk_ofS {l:PySem.W.OpenLaw} {n k:Nat} {q:Program} {loose:List Str} {XP:(Str→Option Value)→Heap→Prop} {YP:World→Heap→Prop} {d:DefRec} {K:Params→PySem.W.Frag} {CX:World→CXT} {sp:World→Sp} {x:Str}
    (hn:l.most=some n) (hn2:n≤sizeLine) (hdf:d.params.defaults=[]) (hr:Room k callerA) (hin:importsNone q=true)
    (hY:∀(w:World) (h:Heap),YP w h→(K w.params).In h)
    (F:∀(w:World) (mg:Str→Option Value) (fa:Addr) (h:Heap),(K w.params).In h→h.Ns mainGlobals mg→mg d.name=some (.ref fa) →
      ∃fd:FuncData,(∀(s:Shared) (u:Value),BindsTo s fd ⟨[u],[]⟩ [(x,u)]) ∧
        ∀base:Heap,(K w.params).In base→base.Ns mainGlobals mg→base.NoSeer→FnOk l.prog w (K w.params) mg base (CX w) k fa fd [x] (sp w))
    (hsp:∀(w:World) (H:Hp) (a:Addr) (ns:List Int),ns.length≤n→Only H→SqL (K w.params) H a (ns.map V.int)→sp w [.ref a] H (fun v _=>v=.bl true) fun _ _ _=>False)
    (hCX:∀(w:World) (H:Hp) (s:Shared) (e:Value) (s':Shared),CX w [] H s (fun _ _ _=>False) e s'→False) :
    PySem.W.WalkO q loose XP YP l.row.toRowW d [] (fun f vs=>PySem.call f vs):=by
  refine Att.attach_call hn hdf fun w s₀ s₁ mg mb fa o pm cd doc a vs ns G Y ho hd hcd hmg hobj hints hlen hg=>?_
  have KX:=hY w _ Y
  obtain ⟨fd,hb,hF⟩:=F w mg fa _ KX G.T.g hmg
  exact law_callS KX G.T.g G.T.b G.T.builtins G.T.nolimit hg hobj hints (Nat.le_trans hlen hn2) hr (G.T.seer hin) hF hb (fun H hO hS=>hsp w H a ns hlen hO hS) fun H e s'=>hCX w H s₁ e s'
end L2
namespace L2
open PySem PySem.Spec PyProof.Rows
section
variable {X:Cx} {elt tg iter ct:Expr} {scope:Scope} {pos:Pos} {N:List Str} {cap:List Nat} {k:Nat} {wi:TI} {g:TG} {tt:TT} {te:TE}
end
end L2
namespace L2
open PySem PySem.Spec PyProof.Rows
theorem op_fdivC {X:Cx} {k:Nat} (hs:X.base.NoSeer) (ht:X.prog.given.tree=none) (hr:Room k X.A) (hk:32≤k) (hst:∃e l,X.stack=e::l∧e.scope.isGenerator=false∧e.scope.isCoroutine=false∧e.builtins=builtinsNs∧e.globals=mainGlobals) :
    OpR X (binaryOp .FloorDiv) (rI (fun _ j=>j≠0) fun i j=>.int (i.fdiv j)):=by
  intro pins s σ H x y v u Q I rx ry h
  obtain ⟨i,j,rfl,rfl,hj,q⟩:=h
  obtain ⟨t,rfl⟩:=rx
  obtain ⟨t',rfl⟩:=ry
  obtain ⟨e,l,hl,hgen,hco,hb,hg⟩:=hst
  refine floordiv_int hj ⟨.int (i.fdiv j),H,I.tok _,⟨_,rfl⟩,q⟩ (.inr (PylongRoom.of I.nolimit ?_ (SeerAt.of (env:=e) (l:=l) (hs.keeps I.bk) ht (by rw [I.env0.frames,hl]) hgen hco hb hg)))
  have:=hr.dp
  show X.A.depth+100<recursionLimit
  omega
end L2
namespace L2
open PySem PySem.Spec PyProof.Rows
section
variable {X:Cx}
end
end L2
namespace L2
open PySem PySem.Spec PyProof.Rows
inductive Fly (l:List Env) (old:Heap) (H:Hp) (ea C:Addr) (h:Heap):Prop
  | mk (B:Heap) (a0:Value) (fly:Heap.FlyingW B l ea (.ref C) a0 h) (cov:∀b o,(∃u,old.get? b=some u)→b∉frs l→h.get? b=some o→B.get? b=some o)
      (trk:∀b u o,H b=some u→h.get? b=some o→B.get? b=some o) (new:old.get? ea=none) (free:H ea=none):Fly l old H ea C h
def CXE (P:Program) (w:World):CXT:=fun outer H s E e s'=>∃(ea C:Addr) (H':Hp),e=.ref ea∧s'.os=s.os∧AllBare s'.gens∧Un (frs outer) [] H H' s.heap s'.heap∧HOk P w H' s'.heap∧Fly outer s.heap H' ea C s'.heap∧E (.ref C) none H'
theorem HOk.tracked {P:Program} {w:World} {H:Hp} {h h':Heap} (x:HOk P w H h) (k:∀b u o,H b=some u→h.get? b=some o→h'.get? b=some o):HOk P w H h':=fun a o e =>
  (x a o e).stay (fun b u hb q=>by
    rcases hb with rfl | hb
    · exact k _ _ _ e q
    · exact k _ _ _ hb q) (fun _ q=>q) fun _ _ q=>q
theorem ObjOk.somed {P:Program} {w:World} {H:Hp} {h:Heap} {a:Addr} {o:HO} (x:ObjOk P w H h a o):∃u,h.get? a=some u:=by
  cases o with
  | lst xs=>obtain ⟨_,_,_,_,e⟩:=x;exact ⟨_,e⟩
  | tup xs=>obtain ⟨_,_,_,_,e,_⟩:=x;exact ⟨_,e⟩
  | dK kvs=>obtain ⟨_,_,_,_,o,_,_,e,_⟩:=x;exact ⟨_,e⟩
  | dT kvs=>obtain ⟨_,_,_,_,o,_,_,e,_⟩:=x;exact ⟨_,e⟩
  | set S n=>obtain ⟨o,_,_,_,e,_⟩:=x;exact ⟨_,e⟩
  | ins C dx fs=>obtain ⟨_,_,_,e,_⟩:=x;exact ⟨_,e⟩
  | own y=>obtain ⟨_,e⟩:=x;exact ⟨_,e⟩
  | xd fs=>obtain ⟨_,⟨_,_,_,e,_⟩,_⟩:=x;exact ⟨_,e⟩
  | rng lo hi=>obtain ⟨_,_,_,e⟩:=x;exact ⟨_,e⟩
  | frz ob u=>obtain ⟨e,_⟩:=x;exact ⟨_,e⟩
  | tbl ps=>exact ⟨_,(show h.get? a=some _ from x)⟩
  | met f y=>exact ⟨_,(show h.get? a=some _ from x)⟩
  | ext φ=>obtain ⟨_,⟨_,e⟩,_⟩:=x;exact ⟨_,e⟩
theorem mem_frs {env:Env} {l:List Env} {L b:Addr} (hf:env.frame=some L) (hb:b∈frs (env::l)):b=L∨b∈frs l:=by
  unfold frs at hb ⊢
  rw [List.filterMap_cons,hf] at hb
  exact List.mem_cons.mp hb
theorem frs_mem {env:Env} {l:List Env} {L b:Addr} (hf:env.frame=some L) (hb:b∈frs l):b∈frs (env::l):=by
  unfold frs at hb ⊢
  rw [List.filterMap_cons,hf]
  exact List.mem_cons_of_mem _ hb
structure Own (X:Cx):Prop where
  stk:X.stack=X.env::X.outer
  fr:X.env.frame=some X.env.locals
  ex:X.ex=[]
section
variable {X:Cx} {pins:List (Addr×Obj)} {σ:St} {H:Hp} {s:Shared}
theorem Inv.frames (I:Inv X pins σ H s) (O:Own X):X.A.frames=some (X.env::X.outer):=by rw [←O.stk];exact I.ok.frames
theorem Inv.old (I:Inv X pins σ H s) (O:Own X) {b:Addr} {o:Obj} (e:X.s₀.heap.get? b=some o) (hb:b∉X.fs):b∉frs X.stack:=fun z=>by
  rw [O.stk] at z
  rcases mem_frs O.fr z with z | z
  · have:=I.ok.above
    rw [←z] at this
    exact absurd (Nat.lt_of_lt_of_le (Heap.lt_size e) this) (Nat.lt_irrefl _)
  · exact hb z
theorem Inv.there (I:Inv X pins σ H s) (O:Own X) {b:Addr} {o:Obj} (e:X.s₀.heap.get? b=some o):∃o',s.heap.get? b=some o':=I.base.there b o e (by rw [O.ex];simp)
theorem first_leaves {E':Value→Shared→Prop} {P:Program} {w:World} (I:Inv X pins σ H s) (O:Own X) (hP:X.prog=P) (hw:X.w=w) {h':Heap} {e C:Addr} {vs:List Value} {E:XK} (hx:Heap.MadeExcOf s.heap h' e (.ref C) vs) (hE:E (.ref C) none H) :
    wpAny (model P w) X.A (leaving X.env (.ref e)) (fun _ s''=>CXE P w X.outer X.H₀ X.s₀ E (.ref e) s'') E' { s with heap:=h' }:=by
  subst hP hw
  have hB:∀b o,s.heap.get? b=some o→b∉frs X.stack→(PySem.W.hideAll s.heap (frs X.stack)).get? b=some o:=fun b o q n=>PySem.W.hideAll_get _ q n
  have hff:s.heap.FunFrames (PySem.W.hideAll s.heap (frs X.stack)) (X.env::X.outer):=by
    rw [←O.stk]
    exact PySem.W.funFrames_hide I.stack fun env he a ha=>List.mem_filterMap.mpr ⟨env,he,ha⟩
  refine wpAny_leaves_madeW (s:={ s with heap:=h' }) (I.frames O) O.fr (fun b o q=>PySem.W.of_hideAll _ q) hff hx fun h2 t fl _ _ up=>?_
  have keep:∀b o,s.heap.get? b=some o→b∉frs X.stack→h2.get? b=some o:=fun b o q n=>fl.1 _ _ (hB b o q n)
  have hfr:∀b o,s.heap.get? b=some o→b∈frs X.stack→∃sl,h2.get? b=some { o with slots:=sl }:=fun b o q hb=>by
    obtain ⟨_,o',ho',hd⟩:=I.stack.mem hb
    rw [q] at ho';cases ho'
    exact up b o (hx.keeps _ _ q) hd
  have tk:∀b u o,H b=some u→s.heap.get? b=some o→(PySem.W.hideAll s.heap (frs X.stack)).get? b=some o:=fun b u o hu q=>hB b o q fun z=>by rw [I.stkFree b z] at hu;cases hu
  refine ⟨e,C,H,rfl,I.os,I.bare,⟨fun b o q n hb _=>?_,fun b o q n hb _=>?_,fun b o q n _=>I.base.free b o q n (by rw [O.ex];simp),fun b o q _=>?_,I.base.tups,I.base.frzs,I.base.tbls⟩,I.hok.tracked fun b u o hu q=>fl.1 _ _ (tk b u o hu q),⟨_,_,fl,fun b o hb hn q=>?_,fun b u o hu q=>?_,?_,?_⟩,hE⟩
  · exact keep b o (I.base.keep b o q n hb (by rw [O.ex];simp)) (I.old O q hb)
  · obtain ⟨sl,e1⟩:=I.base.slot b o q n hb (by rw [O.ex];simp)
    obtain ⟨sl',e2⟩:=hfr b _ e1 (by rw [O.stk];exact frs_mem O.fr hb)
    exact ⟨sl',e2⟩
  · obtain ⟨o',e1⟩:=I.there O q
    by_cases hb:b∈frs X.stack
    · obtain ⟨sl,e2⟩:=hfr b _ e1 hb
      exact ⟨_,e2⟩
    · exact ⟨o',keep b o' e1 hb⟩
  · obtain ⟨u,hu⟩:=hb
    obtain ⟨o',e1⟩:=I.there O hu
    have e2:=hB b o' e1 (I.old O hu hn)
    have e3:=fl.1 _ _ e2
    have q':h2.get? b=some o:=q
    rw [q'] at e3;cases e3
    exact e2
  · obtain ⟨o',e1⟩:=(I.hok b u hu).somed
    have e2:=tk b u o' hu e1
    have e3:=fl.1 _ _ e2
    have q':h2.get? b=some o:=q
    rw [q'] at e3;cases e3
    exact e2
  · cases q:X.s₀.heap.get? e with
    | none=>rfl
    | some o =>
      obtain ⟨o',e1⟩:=I.there O q
      rw [hx.new] at e1;cases e1
  · cases q:H e with
    | none=>rfl
    | some u =>
      obtain ⟨o',e1⟩:=(I.hok e u q).somed
      rw [hx.new] at e1;cases e1
theorem on_leaves {E':Value→Shared→Prop} {P:Program} {w:World} (I:Inv X pins σ H s) (O:Own X) (hP:X.prog=P) (hw:X.w=w) {e:Value} {s':Shared} {E:XK} (hc:CXE P w X.stack H s E e s') :
    wpAny (model P w) X.A (leaving X.env e) (fun _ s''=>CXE P w X.outer X.H₀ X.s₀ E e s'') E' s':=by
  obtain ⟨ea,C,H',rfl,os,bare,un,hok,⟨B,a0,fly,cov,trk,new,free⟩,hE⟩:=hc
  have nx:∀b:Addr,b∉X.ex:=fun b=>by rw [O.ex];simp
  rw [O.stk] at fly
  refine wpAny_leaves_onW (I.frames O) O.fr fly fun h2 fl up=>?_
  have keep:∀b o,(∃u,s.heap.get? b=some u)→s'.heap.get? b=some o→b∉frs X.stack→h2.get? b=some o:=fun b o hu q n=>fl.1 _ _ (cov b o hu n q)
  have hfr:∀b o,s'.heap.get? b=some o→b∈frs X.stack→∃sl,h2.get? b=some { o with slots:=sl }:=fun b o q hb=>by
    rw [O.stk] at hb
    obtain ⟨_,o',ho',hd⟩:=fly.2.2.1.mem hb
    rw [q] at ho';cases ho'
    exact up b o q hd
  have sub:∀b,b∈X.fs→b∈frs X.stack:=fun b hb=>by rw [O.stk];exact frs_mem O.fr hb
  refine ⟨ea,C,H',rfl,os.trans I.os,bare,⟨fun b o q n hb _=>?_,fun b o q n hb _=>?_,fun b o q n _=>?_,fun b o q _=>?_,fun b xs q=>un.tups b xs (I.base.tups b xs q),fun b o xs q=>un.frzs b o xs (I.base.frzs b o xs q),fun b ps q=>?_⟩,hok.tracked fun b u o hu q=>fl.1 _ _ (trk b u o hu q),⟨B,a0,fl,fun b o hb hn q=>?_,fun b u o hu q=>?_,?_,free⟩,hE⟩
  · have e1:=I.base.keep b o q n hb (nx b)
    exact keep b o ⟨_,e1⟩ (un.keep b o e1 (I.base.free b o q n (nx b)) (I.old O q hb) (by simp)) (I.old O q hb)
  · obtain ⟨sl,e1⟩:=I.base.slot b o q n hb (nx b)
    obtain ⟨sl',e2⟩:=un.any e1 (I.base.free b o q n (nx b)) (by simp)
    obtain ⟨sl2,e3⟩:=hfr b _ e2 (sub b hb)
    exact ⟨sl2,e3⟩
  · obtain ⟨o',e1⟩:=I.there O q
    exact un.free b o' e1 (I.base.free b o q n (nx b)) (by simp)
  · obtain ⟨o',e1⟩:=I.there O q
    obtain ⟨o2,e2⟩:=un.there b o' e1 (by simp)
    by_cases hb:b∈frs X.stack
    · obtain ⟨sl,e3⟩:=hfr b _ e2 hb
      exact ⟨_,e3⟩
    · exact ⟨o2,keep b o2 ⟨_,e1⟩ e2 hb⟩
  · obtain ⟨m1,e1⟩:=I.base.tbls b ps q
    obtain ⟨m2,e2⟩:=un.tbls b _ e1
    exact ⟨m1++m2,by rw [e2,Array.append_assoc]⟩
  · obtain ⟨u,hu⟩:=hb
    obtain ⟨o',e1⟩:=I.there O hu
    obtain ⟨o2,e2⟩:=un.there b o' e1 (by simp)
    have e3:=cov b o2 ⟨_,e1⟩ (I.old O hu hn) e2
    have e4:=fl.1 _ _ e3
    have q':h2.get? b=some o:=q
    rw [q'] at e4;cases e4
    exact e3
  · obtain ⟨o',e1⟩:=(hok b u hu).somed
    have e2:=trk b u o' hu e1
    have e3:=fl.1 _ _ e2
    have q':h2.get? b=some o:=q
    rw [q'] at e3;cases e3
    exact e2
  · cases q:X.s₀.heap.get? ea with
    | none=>rfl
    | some o =>
      obtain ⟨o',e1⟩:=I.there O q
      rw [new] at e1;cases e1
end
theorem own_cx {CX:CXT} {P:Program} {w:World} {K:PySem.W.Frag} {mg:Str→Option Value} {base:Heap} {N:List Str} {qual:Str} {scope:Scope} {f:Addr} {cd:Value} {A:Around} {outer:List Env} {s:Shared} {H:Hp} {E:XK}:Own (cxOf CX P w K mg base N qual scope f cd A outer s H E):=⟨rfl,rfl,rfl⟩
structure RaiseTo (X:Cx) (E:XK):Prop where
  made:∀(pins:List (Addr×Obj)) (σ:St) (H:Hp) (s:Shared) (h':Heap) (e C:Addr) (vs:List Value),Inv X pins σ H s→Heap.MadeExcOf s.heap h' e (.ref C) vs→E (.ref C) none H→X.xe (.ref e) { s with heap:=h' }
  pass:Passes (CXE X.prog X.w) X E
  own:PassesOwn (model X.prog X.w) X.A X.env X.xe
theorem raise_cx {P:Program} {w:World} {K:PySem.W.Frag} {mg:Str→Option Value} {base:Heap} {N:List Str} {qual:Str} {scope:Scope} {f:Addr} {cd:Value} {A:Around} {outer:List Env} {s:Shared} {H:Hp} {E:XK} :
    RaiseTo (cxOf (CXE P w) P w K mg base N qual scope f cd A outer s H E) E :=
  ⟨fun pins σ H s h' e C vs I hx hE=>first_leaves I own_cx rfl rfl hx hE,fun pins σ H s e s' I hc=>on_leaves I own_cx rfl rfl hc,PassesOwn.leaving⟩
end L2
namespace L2
open PySem PySem.Spec PyProof.Rows
abbrev Cx.caught (X:Cx) (e:Value):Cx:={ X with A:=X.A.mark (some e),calm:=false }
section
variable {X:Cx} {pins:List (Addr×Obj)} {σ:St} {H:Hp} {s:Shared}
theorem Cx.Ok.caught (ok:X.Ok) (e:Value):(X.caught e).Ok :=
  ⟨ok.mod,ok.kind,ok.glob,ok.blt,ok.above,ok.inj,ok.has,ok.cab,(fun z=>nomatch z),ok.frames,ok.stk,ok.exf,ok.bs,ok.bsz,ok.noex,ok.exfs,ok.funs,ok.frf⟩
theorem Inv.caught (I:Inv X pins σ H s) (e:Value):Inv (X.caught e) pins σ H s:=⟨I.ok.caught e,I.os,I.bare,I.base,I.loc,I.cell,I.free,I.freeC,I.pin,I.hok,I.len⟩
theorem Inv.uncaught {e:Value} (I:Inv (X.caught e) pins σ H s) (ok:X.Ok):Inv X pins σ H s:=⟨ok,I.os,I.bare,I.base,I.loc,I.cell,I.free,I.freeC,I.pin,I.hok,I.len⟩
end
def ExcO (ea C:Addr) (h:Heap):Prop:=∃o,h.get? ea=some o∧o.cls=.ref C∧∃vs,o.data=.fields vs
theorem ExcO.stable {ea C:Addr} (h1 h2:Heap) (x:ExcO ea C h1) (k:∀o,h1.get? ea=some o→h2.get? ea=some o):ExcO ea C h2:=by
  obtain ⟨o,e,c,d⟩:=x
  exact ⟨o,k o e,c,d⟩
structure Land (X:Cx) (pins:List (Addr×Obj)) (σ:St) (H:Hp) (s:Shared) (H':Hp) (ea C:Addr) (s3:Shared):Prop where
  at0:Inv X pins σ H s
  os:s3.os=s.os
  bare:AllBare s3.gens
  un:Un (frs X.stack) [] H H' s.heap s3.heap
  hok:HOk X.prog X.w H' s3.heap
  fly:Fly X.stack s.heap H' ea C s3.heap
section
variable {X:Cx} {pins:List (Addr×Obj)} {σ:St} {H H':Hp} {s s3:Shared} {ea C:Addr}
theorem Land.inv (L:Land X pins σ H s H' ea C s3):Inv X pins σ H' s3:=L.at0.call' (ch:=[]) L.os L.un L.hok L.bare fun b z=>absurd z (by simp)
theorem Land.ty {M:Model} (L:Land X pins σ H s H' ea C s3):PySem.W.Looks M s3.heap (typeOf (.ref ea)) (.ref C):=by
  obtain ⟨B,a0,fly,_⟩:=L.fly
  obtain ⟨ob,e,c⟩:=fly.there
  exact c▸(PySem.W.Looks.ld e).andThen .now
theorem Land.step (L:Land X pins σ H s H' ea C s3) {B:Heap} {a0:Value} {h2:Heap} (fly:Heap.FlyingW B X.stack ea (.ref C) a0 s3.heap) (cov:∀b o,(∃u,s.heap.get? b=some u)→b∉frs X.stack→s3.heap.get? b=some o→B.get? b=some o)
    (trk:∀b u o,H' b=some u→s3.heap.get? b=some o→B.get? b=some o) (new:s.heap.get? ea=none) (free:H' ea=none) (fl:Heap.FlyingW B X.stack ea (.ref C) a0 h2) (up:s3.heap.UpToSlots h2):Land X pins σ H s H' ea C { s3 with heap:=h2 }:=by
  have keep:∀b o,(∃u,s.heap.get? b=some u)→s3.heap.get? b=some o→b∉frs X.stack→h2.get? b=some o:=fun b o hu q n=>fl.1 _ _ (cov b o hu n q)
  have hfr:∀b o,s3.heap.get? b=some o→b∈frs X.stack→∃sl,h2.get? b=some { o with slots:=sl }:=fun b o q hb=>by
    obtain ⟨_,o',ho',hd⟩:=fly.2.2.1.mem hb
    rw [q] at ho';cases ho'
    exact up b o q hd
  refine ⟨L.at0,L.os,L.bare,⟨fun b o q n hb hx=>?_,fun b o q n hb hx=>?_,L.un.free,fun b o q hx=>?_,L.un.tups,L.un.frzs,L.un.tbls⟩,L.hok.tracked fun b u o hu q=>fl.1 _ _ (trk b u o hu q),⟨B,a0,fl,fun b o hb hn q=>?_,fun b u o hu q=>?_,new,free⟩⟩
  · exact keep b o ⟨_,q⟩ (L.un.keep b o q n hb hx) hb
  · obtain ⟨sl,e1⟩:=L.un.slot b o q n hb hx
    obtain ⟨sl',e2⟩:=hfr b _ e1 hb
    exact ⟨sl',e2⟩
  · obtain ⟨o',e1⟩:=L.un.there b o q hx
    by_cases hb:b∈frs X.stack
    · obtain ⟨sl,e2⟩:=hfr b _ e1 hb
      exact ⟨_,e2⟩
    · exact ⟨o',keep b o' ⟨_,q⟩ e1 hb⟩
  · obtain ⟨u,hu⟩:=hb
    obtain ⟨o',e1⟩:=L.un.there b u hu (by simp)
    have e2:=cov b o' ⟨_,hu⟩ hn e1
    have e3:=fl.1 _ _ e2
    have q':h2.get? b=some o:=q
    rw [q'] at e3;cases e3
    exact e2
  · obtain ⟨o',e1⟩:=(L.hok b u hu).somed
    have e2:=trk b u o' hu e1
    have e3:=fl.1 _ _ e2
    have q':h2.get? b=some o:=q
    rw [q'] at e3;cases e3
    exact e2
theorem lands {E':Value→Shared→Prop} {Q:Shared→Prop} (O:Own X) (L:Land X pins σ H s H' ea C s3) (k:∀s4,Land X pins σ H s H' ea C s4→Q s4) :
    wpAny (model X.prog X.w) X.A (noteFrame (.ref ea) X.env) (fun _ s₂=>wpAny (model X.prog X.w) X.A (setFlight (.ref ea) none) (fun _ s₃=>Q s₃) E' s₂) E' s3:=by
  obtain ⟨B,a0,fly,cov,trk,new,free⟩:=L.fly
  refine wpAny_looks_onW (L.at0.frames O) O.fr (O.stk▸fly) fun h1 held up1=>?_
  refine wpAny_landsW held fun h2 fl up2=>k _ (L.step fly cov trk new free (O.stk▸fl) (up1.trans up2))
theorem again {M:Model} {A:Around} {E':Value→Shared→Prop} {Q:Unit→Shared→Prop} (L:Land X pins σ H s H' ea C s3) (k:∀s4,Land X pins σ H s H' ea C s4→Q () s4) :
    wpAny M A (setFlight (.ref ea) none) Q E' s3:=by
  obtain ⟨B,a0,fly,cov,trk,new,free⟩:=L.fly
  exact lands_againW fly fun h2 fl up=>k _ (L.step fly cov trk new free fl up)
theorem Land.track (L:Land X pins σ H s H' ea C s3):Inv X pins σ (upd H' ea (.ext (ExcO ea C))) s3∧H' ea=none:=by
  obtain ⟨B,a0,fly,cov,trk,new,free⟩:=L.fly
  have ne:∀b u,H' b=some u→b≠ea:=fun b u e z=>by rw [z,free] at e;cases e
  have ne0:∀b o,s.heap.get? b=some o→b≠ea:=fun b o e z=>by rw [z,new] at e;cases e
  refine ⟨L.at0.call' (ch:=[]) L.os ⟨L.un.keep,L.un.slot,fun b o q n hx=>?_,L.un.there,fun b xs q=>?_,fun b o u q=>?_,fun b ps q=>?_⟩ (fun b u q=>?_) L.bare fun b z=>absurd z (by simp),free⟩
  · rw [upd_ne (ne0 b o q)];exact L.un.free b o q n hx
  · have:=L.un.tups b xs q
    rw [upd_ne (ne b _ this)];exact this
  · have:=L.un.frzs b o u q
    rw [upd_ne (ne b _ this)];exact this
  · obtain ⟨more,e⟩:=L.un.tbls b ps q
    exact ⟨more,by rw [upd_ne (ne b _ e)];exact e⟩
  · by_cases hb:b=ea
    · subst hb
      rw [upd_same] at q;cases q
      obtain ⟨oe,vs,he,hc,hd,_⟩:=fly.first
      exact ⟨⟨oe,he,hc,vs,hd⟩,⟨oe,he⟩,fun h1 h2 p k=>p.stable h1 h2 k⟩
    · rw [upd_ne hb] at q
      exact (L.hok b u q).stay (fun _ _ _ z=>z) (fun c z=>by rw [upd_ne (ne c _ z)];exact z) fun c xs z=>by rw [upd_ne (ne c _ z)];exact z
end
abbrev TH:=Addr→Ends→St→Hp→Prop
def PH (X:Cx) (hs:List ExceptHandler) (t:TH):Prop :=
  ∀(pins:List (Addr×Obj)) (σ:St) (H:Hp) (s:Shared) (H':Hp) (ea C:Addr) (s3:Shared) (D:Ends) (E:Value→Shared→Prop),Land X pins σ H s H' ea C s3→t C D σ H' →
    wpAny (model X.prog X.w) X.A (handleBy (.ref ea) X.env hs) (SP X pins D) E s3
def tH0 (K:PySem.W.Frag) (Cx:Addr) (ts:TS) (tr:TH):TH:=fun C D σ H=>∃b,PySem.W.exmOne K (.ref C) (.ref Cx)=some b∧if b=true then ∀ea,H ea=none→ts D σ (upd H ea (.ext (ExcO ea C))) else tr C D σ H
def Ends.fgt (D:Ends) (i:Nat):Ends:={ nx:=fun σ H=>D.nx (σ.set i none) H,rt:=D.rt,bk:=fun σ H=>D.bk (σ.set i none) H,ct:=fun σ H=>D.ct (σ.set i none) H }
def tHN (K:PySem.W.Frag) (Cx:Addr) (i:Nat) (ts:TS) (tr:TH):TH:=fun C D σ H=>∃b,PySem.W.exmOne K (.ref C) (.ref Cx)=some b∧if b=true then ∀ea,H ea=none→ts (D.fgt i) (σ.set i (some (.ref ea))) (upd H ea (.ext (ExcO ea C))) else tr C D σ H
section
variable {X:Cx}
theorem ph_nil:PH X [] (fun _ _ _ _=>False):=fun _ _ _ _ _ _ _ _ _ _ _ h=>h.elim
theorem SP.uncaught {pins:List (Addr×Obj)} {D:Ends} {e:Value} {f:Flow} {s':Shared} (h:SP (X.caught e).nox pins D f s') (ok:X.Ok):SP X pins D f s':=by
  cases f with
  | next=>obtain ⟨σ',H',I,q⟩:=h;exact ⟨σ',H',I.unwish.uncaught ok,q⟩
  | brk=>obtain ⟨σ',H',I,q⟩:=h;exact ⟨σ',H',I.unwish.uncaught ok,q⟩
  | cont=>obtain ⟨σ',H',I,q⟩:=h;exact ⟨σ',H',I.unwish.uncaught ok,q⟩
  | ret u=>obtain ⟨v,σ',H',I,r,q⟩:=h;exact ⟨v,σ',H',I.unwish.uncaught ok,r,q⟩
theorem ph_cons0 {x:Str} {Cx:Addr} {np pos:Pos} {b0:Stmt} {suite:List Stmt} {rest:List ExceptHandler} {ts:TS} {tr:TH} (hg:Gl X x) (hm:X.mg x=some (.ref Cx)) (hs:∀e,PSs (X.caught e).nox (b0::suite) ts) (hr:PH X rest tr)
    (hd:(x == ("__debug__" : Str))=false:=by decide):PH X (.ExceptHandler (some (.Name x np)) none (b0::suite) pos::rest) (tH0 X.K Cx ts tr):=by
  intro pins σ H s H' ea C s3 D E L h
  obtain ⟨b,hb,h⟩:=h
  refine wpAny_handleBy_cons (codeAny_handlers_test (ld_glob (L.inv.caught (.ref ea)) hg hm ?_ hd)) (by intro q;cases q)
  refine PySem.W.exm_one L.inv.kIn L.ty hb _ _ _ _ (fun _ _ q=>q) ?_
  cases b with
  | false=>exact hr pins σ H s H' ea C s3 D E L h
  | true =>
    refine codeAny_handlers_suite (again L fun s4 L4=>?_)
    obtain ⟨I4,hf⟩:=L4.track
    exact wpAny_mono (hs (.ref ea) pins s4 σ _ D ((I4.caught _).wish _) (h ea hf)) (fun f s5 q=>q.uncaught L.at0.ok) fun _ _ z=>False.elim z
theorem Inv.forget {pins:List (Addr×Obj)} {σ:St} {H:Hp} {s:Shared} {i:Nat} {n:Str} {m:Str→Option Value} {v:Option Value} {h':Heap} {t':Nat} (I:Inv X pins σ H s) (hN:X.N.Nodup) (hi:X.N[i]?=some n)
    (hl:∀(i:Nat) (x:Str) (v:V),X.N[i]?=some x→σ[i]?=some (some v)→Vis X.env.scope x→∃u,RelV v u∧Look X.env s.heap m x u)
    (hn':h'.Ns X.env.locals (fun x=>if x=n then v else m x)) (hs:Heap.SameBut X.env.locals s.heap h'):Inv X pins (σ.set i none) H { s with heap:=h',toks:=t' }:=by
  obtain ⟨m0,⟨oL,_,_,hoL,_⟩,_⟩:=id I.loc
  have hiσ:i<σ.length:=by rw [I.len];exact (List.getElem?_eq_some_iff.mp hi).1
  have nb:∀b o,X.s₀.heap.get? b=some o→b≠X.env.locals:=fun b o e=>Nat.ne_of_lt (Nat.lt_of_lt_of_le (Heap.lt_size e) I.ok.above)
  refine ⟨I.ok,I.os,I.bare,⟨fun b o e n hb hx=>?_,fun b o e n hb hx=>?_,I.base.free,fun b o e hx=>?_,I.base.tups,I.base.frzs,I.base.tbls⟩,⟨_,hn',fun j y v' e1 e2 e3=>?_⟩,fun y c e=>?_,I.free,I.freeC,fun p hp=>?_,fun b ob e=>?_,by simpa using I.len⟩
  · exact (hs.2 b (nb b o e)).trans (I.base.keep b o e n hb hx)
  · obtain ⟨sl,e1⟩:=I.base.slot b o e n hb hx
    exact ⟨sl,(hs.2 b (nb b o e)).trans e1⟩
  · obtain ⟨o',e1⟩:=I.base.there b o e hx
    exact ⟨o',(hs.2 b (nb b o e)).trans e1⟩
  · by_cases hj:j=i
    · subst hj
      rw [List.getElem?_set_self hiσ] at e2
      cases e2
    · rw [List.getElem?_set_ne (Ne.symm hj)] at e2
      obtain ⟨u',r',q⟩:=hl j y v' e1 e2 e3
      have hy:y≠n:=fun e=>hj (nodup_ix hN e1 (e▸hi))
      refine ⟨u',r',?_⟩
      rcases q with ⟨k,e⟩ | ⟨k,c,e,z⟩
      · exact .inl ⟨k,by simp [hy,e]⟩
      · exact .inr ⟨k,c,e,z.sameBut hs (I.cne y c e)⟩
  · obtain ⟨w',z⟩:=I.cell y c e
    exact ⟨w',z.sameBut hs (I.cne y c e)⟩
  · obtain ⟨e,n,ne,nf,d⟩:=I.pin p hp
    exact ⟨(hs.2 p.1 ne).trans e,n,ne,nf,d⟩
  · refine (I.hok b ob e).stay (fun c w' hc q=>(hs.2 c ?_).trans q) (fun _ q=>q) fun _ _ q=>q
    rintro rfl
    have hfree:=I.free
    rcases hc with hc | hc
    · rw [←hc,hfree] at e;cases e
    · rw [hfree] at hc;cases hc
theorem ph_consN {x n:Str} {Cx:Addr} {i:Nat} {np pos:Pos} {b0:Stmt} {suite:List Stmt} {rest:List ExceptHandler} {ts:TS} {tr:TH} (hg:Gl X x) (hm:X.mg x=some (.ref Cx)) (hN:X.N.Nodup) (hi:X.N[i]?=some n) (hlo:X.env.scope.names.lookup n=some .local)
    (hs:∀e,PSs (X.caught e).nox (b0::suite) ts) (hr:PH X rest tr) (hd:(x == ("__debug__" : Str))=false:=by decide):PH X (.ExceptHandler (some (.Name x np)) (some n) (b0::suite) pos::rest) (tHN X.K Cx i ts tr):=by
  intro pins σ H s H' ea C s3 D E L h
  obtain ⟨b,hb,h⟩:=h
  refine wpAny_handleBy_cons (codeAny_handlers_test (ld_glob (L.inv.caught (.ref ea)) hg hm ?_ hd)) (by intro q;cases q)
  refine PySem.W.exm_one L.inv.kIn L.ty hb _ _ _ _ (fun _ _ q=>q) ?_
  cases b with
  | false=>exact hr pins σ H s H' ea C s3 D E L h
  | true =>
    refine codeAny_handlers_suite_as (again L fun s4 L4=>?_)
    obtain ⟨I4,hf⟩:=L4.track
    refine store_ok (X:=X.caught (.ref ea)) (v:=.ref ea) (I4.caught _) hN hi (.inl hlo) rfl (fun s5 I5=>?_) (.inr hlo)
    refine wpAny_mono (hs (.ref ea) pins s5 _ _ (D.fgt i) (I5.wish _) (h ea hf)) (fun f s6 q=>?_) fun _ _ z=>False.elim z
    have ok:=L.at0.ok
    have go:∀{σ':St} {H2:Hp},Inv X pins σ' H2 s6→(∀s7,Inv X pins (σ'.set i none) H2 s7→SP X pins D f s7)→wpAny (model X.prog X.w) X.A (do bindName X.env n .none;unbindBehindTheSuite X.env n pos) (fun _ s₅=>SP X pins D f s₅) E s6:=fun {σ' H2} I6 k=>by
      obtain ⟨m,hn,hl⟩:=id I6.loc
      exact wpAny_nameGoes_keeps hlo hn (by rw [ok.kind];rfl) fun h' v hn' hsb=>k _ (I6.forget hN hi hl hn' hsb)
    cases f with
    | next=>obtain ⟨σ',H2,I6,q⟩:=q;exact go (I6.unwish.uncaught ok) fun s7 I7=>⟨_,H2,I7,q⟩
    | brk=>obtain ⟨σ',H2,I6,q⟩:=q;exact go (I6.unwish.uncaught ok) fun s7 I7=>⟨_,H2,I7,q⟩
    | cont=>obtain ⟨σ',H2,I6,q⟩:=q;exact go (I6.unwish.uncaught ok) fun s7 I7=>⟨_,H2,I7,q⟩
    | ret u=>obtain ⟨v,σ',H2,I6,r,q⟩:=q;exact go (I6.unwish.uncaught ok) fun s7 I7=>⟨v,_,H2,I7,r,q⟩
end
end L2
namespace L2
open PySem PySem.Spec PyProof.Rows
structure CalleeX (P:Program) (w:World) (K:PySem.W.Frag) (mg:Str→Option Value) (base:Heap) (k:Nat) (x:Str) (ps:List Str) (sp:Sp):Prop where
  ex:∃(f:Addr) (fd:FuncData),FnOk P w K mg base (CXE P w) k f fd ps sp∧mg x=some (.ref f)∧PySem.W.keepIn K (.ref f)=true∧Binds K fd ps []
theorem DefAt.okX {P:Program} {w:World} {K:PySem.W.Frag} {mg:Str→Option Value} {base:Heap} {x:Str} {st:Stmt} {N ps:List Str} {k:Nat} {sp:Sp} (D:DefAt K mg x st ps) (S:FnScope N ps (defScope st)) (len:∀vs H Q E,sp vs H Q E→vs.length=ps.length)
    (hbody:∀(f:Addr) (cdv:Value) (A:Around) (outer:List Env) (s:Shared) (H:Hp) (vs:List V) (Q:VK) (E:XK),Room k (A.deeper (envOfC x (defScope st) s.heap.objs.size f cdv))→sp vs H Q E →
      ∃t,PSs (cxOf (CXE P w) P w K mg base N x (defScope st) f cdv A outer s H E) (defBody st) t∧t { nx:=fun _ H'=>Q .non H',rt:=Q } (start N vs) H):CalleeX P w K mg base (k+1) x ps sp:=by
  obtain ⟨f,fd,F,hm,hb⟩:=D.ex
  obtain ⟨oc,od,kV,doc,pm,an,cdv,ct,osl,rfl,lk,hcd⟩:=F.ex
  exact ⟨f,_,fn_of lk hcd S len fun A outer s H vs Q E hr hsp=>hbody f cdv A outer s H vs Q E hr hsp,hm,F.kp,hb⟩
section
variable {X:Cx} {k:Nat} {x:Str} {ps:List Str} {sp:Sp} {p pos:Pos} {e:Expr} {es:List Expr} {t:TA} {E:XK}
theorem pe_callX (R:RaiseTo X E) (C:CalleeX X.prog X.w X.K X.mg X.base k x ps sp) (hr:Room k X.A) (hg:Gl X x) (ha:PA X (e::es) t)
    (hdb:(x == ("__debug__" : Str))=false:=by decide) (he:starEach (e::es) X.env=(false,eval e X.env)::starEach es X.env:=by rfl) (hpl:(backTo pos (starEach es X.env)).any (·.1)=false:=by rfl) :
    PE X (.Call (.Name x p) (e::es) [] pos) (tCall sp [] E t):=by
  obtain ⟨f,fd,F,hm,hk,hb⟩:=C.ex
  exact pe_call F hr hg hm hk hb .nil R.pass ha hdb he hpl
theorem call_at {pins:List (Addr×Obj)} {s:Shared} {σ:St} {H:Hp} {Q:VK} (C:CalleeX X.prog X.w X.K X.mg X.base k x ps sp) (hr:Room k X.A) (hg:Gl X x) (ha:PA X (e::es) t)
    (hx:∀H1 s1 v s',Inv X pins σ H1 s1→CXE X.prog X.w X.stack H1 s1 E v s'→X.xe v s') (I:Inv X pins σ H s) (h:tCall sp [] E t σ H Q)
    (hdb:(x == ("__debug__" : Str))=false) (he:starEach (e::es) X.env=(false,eval e X.env)::starEach es X.env) (hpl:(backTo pos (starEach es X.env)).any (·.1)=false) :
    wpAny (model X.prog X.w) X.A (eval (.Call (.Name x p) (e::es) [] pos) X.env) (EP X pins σ Q) X.xe s:=by
  obtain ⟨f,fd,F,hm,hk,hb⟩:=C.ex
  refine wpAny_Call_Name_kw (ld_glob I hg hm (PySem.W.callWith_K (h₀:=X.base) I.ok.mod.kin hk (thn (ha pos pins s σ H _ I h) fun us s1 ⟨vs,H1,I1,r,q⟩=>⟨I1.kIn,?_⟩) he hpl) hdb)
  have q:sp (vs++[]) H1 Q E:=q
  rw [List.append_nil] at q
  have hl:us.length=ps.length:=by rw [←r.length];exact F.len _ _ _ _ q
  have hb1:=hb s1 us I1.kIn (by rw [List.append_nil];exact hl)
  rw [List.append_nil] at hb1
  refine wpAny_call (codeAny_mono (F.run X.A X.stack s1 H1 ⟨us,[]⟩ us vs Q E hr I1.env0 hb1 r q) fun r s' hq=>?_)
  cases r with
  | error v=>exact hx H1 s1 v s' I1 hq
  | ok fl =>
    cases fl with
    | ret u=>exact I1.after hq
    | next=>exact False.elim hq
    | brk=>exact False.elim hq
    | cont=>exact False.elim hq
def tTry (sp:Sp) (t:TA) (nx:V→Ends→St→Hp→Prop) (th:TH):TS:=fun D σ H=>t σ H fun vs H1=>sp vs H1 (fun v H2=>nx v D σ H2) (fun c _ H2=>∃C,c=.ref C∧th C D σ H2)
theorem land_of (O:Own X) {pins:List (Addr×Obj)} {σ:St} {H1:Hp} {s1:Shared} {v:Value} {s':Shared} {D:Ends} {hs:List ExceptHandler} {th:TH} {E0:Value→Shared→Prop} (hh:PH X hs th)
    (I:Inv X pins σ H1 s1) (hc:CXE X.prog X.w X.stack H1 s1 (fun c _ H2=>∃C,c=.ref C∧th C D σ H2) v s') :
    wpAny (model X.prog X.w) X.A (noteFrame v X.env) (fun _ s₂=>wpAny (model X.prog X.w) X.A (setFlight v none) (fun _ s₃=>wpAny (model X.prog X.w) X.A (handleBy v X.env hs) (SP X pins D) E0 s₃) E0 s₂) E0 s':=by
  obtain ⟨ea,C,H',rfl,os,bare,un,hok,fl,C',hC,ht⟩:=hc
  cases hC
  exact lands O ⟨I,os,bare,un,hok,fl⟩ fun s4 L4=>hh pins σ H1 s1 H' ea C s4 D E0 L4 ht
theorem ps_tryE {h0:ExceptHandler} {hs:List ExceptHandler} {th:TH} {pos1 pos2:Pos} (O:Own X) (C:CalleeX X.prog X.w X.K X.mg X.base k x ps sp) (hr:Room k X.A) (hg:Gl X x) (ha:∀E,PA (X.wish E) (e::es) t) (hh:PH X (h0::hs) th)
    (hsw:swapsWith (.Call (.Name x p) (e::es) [] pos) none pos1.line X.env=pure false:=by rfl)
    (hdb:(x == ("__debug__" : Str))=false:=by decide) (he:starEach (e::es) X.env=(false,eval e X.env)::starEach es X.env:=by rfl) (hpl:(backTo pos (starEach es X.env)).any (·.1)=false:=by rfl) :
    PS X (.Try [.Expr (.Call (.Name x p) (e::es) [] pos) pos1] (h0::hs) [] [] pos2) (tTry sp t (fun _ D σ H=>D.nx σ H) th):=by
  intro pins s σ H D I h
  let E2:Value→Shared→Prop:=fun v s₁=>wpAny (model X.prog X.w) X.A (noteFrame v X.env) (fun _ s₂=>wpAny (model X.prog X.w) X.A (setFlight v none) (fun _ s₃=>wpAny (model X.prog X.w) X.A (handleBy v X.env (h0::hs)) (SP X pins D) X.xe s₃) X.xe s₂) X.xe s₁
  refine wpAny_Try_except ?_
  refine wpAny_execs_cons ?_
  have hd:tCall sp [] (fun c _ H2=>∃C,c=.ref C∧th C D σ H2) t σ H (fun _ H2=>D.nx σ H2):=by
    show t σ H fun vs H1=>sp (vs++[]) H1 _ _
    have e:(fun vs H1=>sp (vs++[]) H1 (fun _ H2=>D.nx σ H2) (fun c _ H2=>∃C,c=.ref C∧th C D σ H2))=(fun vs H1=>sp vs H1 (fun _ H2=>D.nx σ H2) (fun c _ H2=>∃C,c=.ref C∧th C D σ H2)):=by
      funext vs H1;rw [List.append_nil]
    rw [e];exact h
  refine wpAny_Expr_any (thn (call_at (X:=X.wish E2) (p:=p) C hr hg (ha E2) (fun H1 s1 v s' I1 hc=>land_of O hh I1.unwish hc) (I.wish _) hd hdb he hpl) fun v s1 ⟨y,H1,I1,r1,q1⟩=>?_) I.quiet hsw
  exact wpAny_execs_nil (wpAny_execs_nil ⟨σ,H1,I1.unwish,q1⟩)
end
abbrev veB:List Value:=[.type "ValueError",.type "Exception",.type "BaseException",.type "object"]
theorem exc_obj {K:PySem.W.Frag} {C:Addr} (q:PySem.W.excIn K C veB "ValueError.__new__" = true) :
    ∃bm N nm qn bs hd sn sub ab col dd k0 k1 k2 k3 k5,∀h:Heap,K.In h→∃mN,h.get? C=some (excClassObj nm qn C N bs bm hd sn sub ab col dd k0 k1 k2 k3 k5 "ValueError.__new__")∧h.Ns N mN∧mN "__init__" = none∧OwnTail h veB bm:=by
  unfold PySem.W.excIn at q
  split at q
  case h_2=>cases q
  rename_i dd cd sl ho
  split at q
  case h_2=>cases q
  rename_i C' bm k0 k1 k2 k3 n k5 hm hs
  simp only [Bool.and_eq_true,beq_iff_eq,Bool.not_eq_true'] at q
  obtain ⟨⟨⟨⟨⟨rfl,rfl⟩,hdel⟩,ht⟩,hok⟩,hni⟩:=q
  obtain ⟨nm,bs,mro,ns,qn,hd,sn,sub,ab,col,del⟩:=cd
  have hm':mro=.ref C'::bm:=hm
  have hdel':del=false:=hdel
  subst hm' hdel'
  obtain ⟨l⟩:=sl
  have hl:l=[k0,k1,k2,k3,some (.builtin "ValueError.__new__"),k5]:=hs
  subst hl
  exact ⟨bm,ns,nm,qn,bs,hd,sn,sub,ab,col,dd,k0,k1,k2,k3,k5,fun h X=>⟨_,X _ _ ho,.of_isNs (PySem.W.isNs_of_in X hok),PySem.W.nsMap_none_of_in X hok hni,PySem.W.tail_of_in X ht⟩⟩
def tRaise (C:Addr) (E:XK) (ta:TA):TS:=fun _ σ H=>ta σ H fun vs H1=>vs.length≤1000∧E (.ref C) none H1
theorem ps_raise {X:Cx} {E:XK} {x:Str} {C:Addr} {np cpos pos:Pos} {e:Expr} {es:List Expr} {ta:TA} (R:RaiseTo X E) (hc:X.calm=true) (hg:Gl X x) (hm:X.mg x=some (.ref C)) (hq:PySem.W.excIn X.K C veB "ValueError.__new__" = true) (ha:PA X (e::es) ta)
    (hd:(x == ("__debug__" : Str))=false:=by decide) (he:starEach (e::es) X.env=(false,eval e X.env)::starEach es X.env:=by rfl) (hpl:(backTo cpos (starEach es X.env)).any (·.1)=false:=by rfl) :
    PS X (.Raise (some (.Call (.Name x np) (e::es) [] cpos)) none pos) (tRaise C E ta):=by
  intro pins s σ H D I h
  obtain ⟨bm,N,nm,qn,bs,hdct,sn,sub,ab,col,dd,k0,k1,k2,k3,k5,obj⟩:=exc_obj hq
  obtain ⟨mN,_,_,hni,TL⟩:=obj s.heap I.kIn
  have hp:(backTo cpos (starEach (e::es) X.env)).any (·.1)=false:=by rw [he];show (false||(backTo cpos (starEach es X.env)).any (·.1))=false;rw [hpl];rfl
  have keepNs:∀h',(∀b o,X.base.get? b=some o→h'.get? b=some o)→∃mN,h'.get? C=some (excClassObj nm qn C N bs bm hdct sn sub ab col dd k0 k1 k2 k3 k5 "ValueError.__new__")∧h'.Ns N mN∧mN "__init__" = none∧OwnTail h' veB bm:=fun h' k=>obj h' (I.ok.mod.kin.keeps k)
  obtain ⟨mB,hB⟩:=obj X.base I.ok.mod.kin
  refine wpAny_Raise_call_subT (env:=X.env) (mN:=mB) (nm:=nm) (q:=qn) (N:=N) (bs:=bs) (hdct:=hdct) (sn:=sn) (sub:=sub) (ab:=ab) (col:=col) (dd:=dd) (k0:=k0) (k1:=k1) (k2:=k2) (k3:=k3) (k5:=k5) PySem.F.excBase_ValueError (TL.hasType rfl) (I.ok.hd hc) hp hB.2.2.1 (ld_glob I hg hm ⟨rfl,?_⟩ hd)
  have:=ha cpos pins s σ H _ I h
  rw [he] at this ⊢
  refine Calls.evalArgs_plain (wpAny_mono this (fun us s2 ⟨vs,H2,I2,rv,hl,hE⟩=>?_) fun _ _ y=>y)
  refine ⟨rfl,?_,I2.bk _ _ hB.1,hB.2.1.keeps I2.bk,hB.2.2.2.keeps I2.bk,fun h' ea hx=>R.made pins σ H2 s2 h' ea C us I2 hx hE⟩
  show us.length≤sizeLine
  rw [←rv.length]
  exact Nat.le_trans hl (by decide)
theorem pe_gref {X:Cx} {x:Str} {C:Addr} {pos:Pos} (hg:Gl X x) (hm:X.mg x=some (.ref C)) (hd:(x == ("__debug__" : Str))=false:=by decide):PE X (.Name x pos) (tC (.ref C)):=fun pins s σ H Q I h=>ld_glob I hg hm ⟨.ref C,H,I,rfl,h⟩ hd
end L2
namespace L2
open PySem PySem.Spec PyProof.Rows
structure KEx (K:PySem.W.Frag) (C:Addr):Prop where
  cl:(PySem.W.clsIn K C).isSome=true
  ga:PySem.W.findIn K (.ref C) "__getattribute__" = some (some (.builtin "BaseException.__getattribute__"))
  gn:PySem.W.findIn K (.ref C) "__getattr__" = some none
  mb:PySem.W.mroIn K C (.type "BaseException")=some true
  a:PySem.W.findIn K (.ref C) "__class__" = some (some (.builtin "object.__class__"))
  n:PySem.W.specialIn K (.builtin "object.__class__") "__get__" = some (some (.builtin "getset_descriptor.__get__"))
  tk:PySem.W.takesIn K (.builtin "object.__class__")=some true
  m:PySem.W.mroIn K C (.type "object")=some true
section
variable {prog:Program} {w:World} {A:Around} {E:Value→Shared→Prop} {s:Shared} {K:PySem.W.Frag} {x C:Addr}
open PySem.W Builtin Builtin.ObjectAttr Builtin.Getset_descriptor
theorem exc_find {M:Model} {h:Heap} (k:KEx K C) (X:K.In h):Looks M h (find (.ref x) (.ref C) "__class__") (.bind (.builtin "getset_descriptor.__get__") (.builtin "object.__class__")) :=
  (looks_findIn (M:=M) X k.a).andThen ((show Looks M h (getOf (some (.builtin "object.__class__"))) _ from looks_specialIn X k.n).andThen
    ((show Looks M h (dataDescriptor? (some (.builtin "object.__class__")) (some (.builtin "getset_descriptor.__get__"))) (some (.builtin "getset_descriptor.__get__",.builtin "object.__class__")) from (looks_takesIn (M:=M) X k.tk).andThen .now).andThen (Looks.tag .now)))
theorem exc_get {R:Result→Shared→Prop} {tp:Value} (k:KEx K C) (X:K.In s.heap) (L0:Looks (model prog w) s.heap (typeOf (.ref x)) (.ref C)) (h:R (.ok (.ret (.ref C))) s) :
    codeAny (model prog w) A (.call (.builtin "getset_descriptor.__get__") ⟨[.builtin "object.__class__",.ref x,tp],[]⟩) R s:=by
  obtain ⟨hp,gs,dr,tt,oo⟩:=s
  have LM:=looks_mroIn (M:=model prog w) X k.m
  refine codeAny_call_builtin KF.slot_gs.plain KF.entry_gs <| KF.slot_gs.check _ _ _ _ _ _ _ _ KF.type_class (KF.args_gs _ _ _) ?_
  unfold «getset_descriptor.__get__» descrGet;rw [dga_obj];refine wpAny_bind (wpAny_pure ?_)
  unfold descrGetter descrCheckInstance descrNameAndClass isInstance;simp only [KF.owner_class];(repeat lk)
  refine ⟨Code.quiet_builtin _ (by decide +kernel),codeAny_builtin KF.entry_class ?_⟩
  unfold «object.__class__» shownTypeOf;(repeat lk);exact h
theorem exc_entry {Q:Fin→Shared→Prop} {tk:Tok} (k:KEx K C) (X:K.In s.heap) (L0:∀M,Looks M s.heap (typeOf (.ref x)) (.ref C)) (h:Q (.done (.ret (.ref C))) s) :
    wpAny (model prog w) A («object.__getattribute__» ⟨[.ref x,.str "__class__" tk],[]⟩) Q E s:=by
  have N0:=exc_get (prog:=prog) (w:=w) (A:=A) (tp:=.ref C) (R:=fun r s'=>match r with | .ok (.ret v)=>Q (.done (.ret v)) s' | _=>False) k X (L0 _) h
  obtain ⟨hp,gs,dr,tt,oo⟩:=s
  have M0:=L0 (model prog w)
  have M3:=exc_find (M:=model prog w) (x:=x) k X
  unfold «object.__getattribute__»
  refine wpAny_bind (wpAny_pure (wpAny_bind (wpAny_pure (wpAny_bind (M0.at (wpAny_bind (M3.at ?_)))))))
  show wpAny _ _ (holding [Value.builtin "object.__class__"] (call (.builtin "getset_descriptor.__get__") [.builtin "object.__class__",.ref x,.ref C]) >>= ret) _ _ _
  refine wpAny_bind (wpAny_holding (wpAny_call (codeAny_mono N0 fun r s' q=>?_)))
  cases r with
  | error e=>exact q.elim
  | ok f=>cases f with
    | ret v=>exact wpAny_pure q
    | next=>exact q.elim
    | brk=>exact q.elim
    | cont=>exact q.elim
theorem exc_check {M:Model} {nameV:Value} {Q:Unit→Shared→Prop} (k:KEx K C) (X:K.In s.heap) (L0:∀M,Looks M s.heap (typeOf (.ref x)) (.ref C)) (h:Q () s) :
    wpAny M A (checkBuiltinCall "BaseException.__getattribute__" ⟨[.ref x,nameV],[]⟩) Q E s:=by
  have e1:builtinKind "BaseException.__getattribute__" = some .slot:=by decide +kernel
  have e2:splitId "BaseException.__getattribute__" = some ("BaseException","__getattribute__"):=by decide +kernel
  have L1:Looks M s.heap (isInstance (.ref x) (.type "BaseException")) true:=(L0 M).andThen (looks_mroIn X k.mb)
  have ha:=F.args_bexc_ga (.ref x) nameV
  simp only [checkBuiltinCall,e1,e2]
  refine wpAny_bind (L1.here ?_)
  rw [if_neg (by decide)]
  unfold argsOk at ha
  revert ha
  cases Manifest.signature? "BaseException.__getattribute__" with
  | none=>exact fun _=>wpAny_pure h
  | some sig=>exact fun ha=>wpAny_of_eq ha h
theorem exc_cls {Q:Option Value→Shared→Prop} (k:KEx K C) (X:K.In s.heap) (L0:∀M,Looks M s.heap (typeOf (.ref x)) (.ref C)) (h:Q (some (.ref C)) { s with toks:=s.toks+1 }) :
    wpAny (model prog w) A (getAttr? (.ref x) "__class__") Q E s:=by
  have N0:∀(A:Around) (tk:Tok) (R:Result→Shared→Prop) (s':Shared),s'.heap=s.heap→R (.ok (.ret (.ref C))) s'→codeAny (model prog w) A (.call (.builtin "BaseException.__getattribute__") ⟨[.ref x,.str "__class__" tk],[]⟩) R s':=fun A tk R s' e q =>
    codeAny_call_builtin F.attr_ValueError.ga.plain F.entry_bexc_ga (exc_check k (e▸X) (fun M=>e▸L0 M) (exc_entry k (e▸X) (fun M=>e▸L0 M) q))
  obtain ⟨hp,gs,dr,tt,oo⟩:=s
  have M0:=L0 (model prog w)
  have M1:=looks_findIn (M:=model prog w) X k.ga
  have M2:=looks_findIn (M:=model prog w) X k.gn
  have B0:=F.attr_ValueError.ga.bind (.ref x)
  unfold getAttr? getAttrBy? getAttrBy;refine wpAny_bind (wpAny_mkText (wpAny_bind (wpAny_attempt (wpAny_holding (wpAny_bind (M0.at (wpAny_bind (M1.at ?_))))))))
  show wpAny _ _ (getAttrByItsOwn (.ref x) (.str "__class__" tt) (.ref C) (.builtin "BaseException.__getattribute__") false false) _ _ _
  unfold getAttrByItsOwn hookBefore
  refine wpAny_bind (M2.at (wpAny_bind (wpAny_attempt (wpAny_holding ?_))))
  show wpAny _ _ (boundAndCalled (.builtin "BaseException.__getattribute__") (.ref x) (.str "__class__" tt)) _ _ _
  unfold boundAndCalled
  rw [B0]
  refine wpAny_bind (wpAny_pure (wpAny_call (N0 A tt _ _ rfl ?_)))
  exact handed_on rfl (wpAny_pure h)
theorem kitx_exc (k:KEx K C):KitX K (.ref x) (.ref C) (ExcO x C) where
  ty:=fun M h _ ⟨o,e,c,_⟩=>c▸(Looks.ld e).andThen .now
  it:=fun M h X _=>by
    obtain ⟨cd,hc⟩:=Option.isSome_iff_exists.mp k.cl
    unfold clsIn at hc
    split at hc
    case h_2=>cases hc
    rename_i ho
    intro A' Q' E' s' kk q;unfold isType loadHead;exact wpAny_bind (wpAny_loadPart (kk _ _ (X _ _ ho)) (wpAny_pure q))
  ne:=fun h tp dd its n sl X htp=>by
    obtain ⟨cd,hc⟩:=Option.isSome_iff_exists.mp k.cl
    cases q:(Value.ref C == Value.ref tp) with
    | false=>rfl
    | true =>
      have e:C=tp:=Value.ref.inj (beq_iff_eq.mp q)
      subst e
      unfold clsIn at hc
      split at hc
      case h_2=>cases hc
      rename_i ho
      have z:=(X _ _ ho).symm.trans htp
      cases z
  ca:=fun X p h=>by
    obtain ⟨o,e,c,_⟩:=p
    exact exc_cls k X (fun M=>c▸(Looks.ld e).andThen .now) h
end
section
variable {X:Cx}
theorem call_isE:CallR X (.builtin "isinstance") (fun xs H Q=>∃ea C c b,xs=[.ref ea,.ref c]∧PySem.W.kitOne X.K (.ref C) (.ref c)=some b∧H ea=some (.ext (ExcO ea C))∧KEx X.K C∧Q (.bl b) H):=by
  intro pins s σ H xs us Q I rv h
  obtain ⟨ea,C,c,b,rfl,hk,he,k,q⟩:=h
  obtain ⟨u,v,rfl,ru,rw'⟩:=vals2 rv
  cases (show u=Value.ref ea from ru)
  cases (show v=Value.ref c from rw')
  obtain ⟨p,_⟩:=(show ObjOk X.prog X.w H s.heap ea (.ext (ExcO ea C)) from I.hok ea _ he)
  exact PySem.W.kia_one (kitx_exc k) I.kIn p hk (fun z=>nomatch z) fun tk=>⟨.bl _,H,I.tok tk,rfl,q⟩
theorem call_isB:CallR X (.builtin "isinstance") (fun xs H Q=>∃ea C T b,xs=[.ref ea,.ty T]∧PySem.W.kitOne X.K (.ref C) (.type T)=some b∧H ea=some (.ext (ExcO ea C))∧KEx X.K C∧Q (.bl b) H):=by
  intro pins s σ H xs us Q I rv h
  obtain ⟨ea,C,T,b,rfl,hk,he,k,q⟩:=h
  obtain ⟨u,v,rfl,ru,rw'⟩:=vals2 rv
  cases (show u=Value.ref ea from ru)
  cases (show v=Value.type T from rw')
  obtain ⟨p,_⟩:=(show ObjOk X.prog X.w H s.heap ea (.ext (ExcO ea C)) from I.hok ea _ he)
  exact PySem.W.kia_one (kitx_exc k) I.kIn p hk (fun z=>nomatch z) fun tk=>⟨.bl _,H,I.tok tk,rfl,q⟩
end
structure ECls (K:PySem.W.Frag) (mg:Str→Option Value) (x:Str) (C:Addr):Prop where
  m:mg x=some (.ref C)
  q:PySem.W.excIn K C veB "ValueError.__new__" = true
  k:KEx K C
theorem bt_ValueError:bootBuiltins "ValueError" = some (.type "ValueError"):=by decide +kernel
theorem call_isEK {X:Cx} {K:PySem.W.Frag} (h:X.K=K):CallR X (.builtin "isinstance") (fun xs H Q=>∃ea C c b,xs=[.ref ea,.ref c]∧PySem.W.kitOne K (.ref C) (.ref c)=some b∧H ea=some (.ext (ExcO ea C))∧KEx K C∧Q (.bl b) H):=h▸call_isE
theorem call_isBK {X:Cx} {K:PySem.W.Frag} (h:X.K=K):CallR X (.builtin "isinstance") (fun xs H Q=>∃ea C T b,xs=[.ref ea,.ty T]∧PySem.W.kitOne K (.ref C) (.type T)=some b∧H ea=some (.ext (ExcO ea C))∧KEx K C∧Q (.bl b) H):=h▸call_isB
end L2
namespace L2
open PySem PySem.Spec PyProof.Rows
theorem DefAt.also {P:Program} {w:World} {K:PySem.W.Frag} {mg:Str→Option Value} {base:Heap} {x:Str} {st:Stmt} {N ps:List Str} {k:Nat} {sp sp':Sp} (D:DefAt K mg x st ps) (C:Callee P w K mg base (k+1) x ps sp) (S:FnScope N ps (defScope st)) (len:∀vs H Q E,sp' vs H Q E→vs.length=ps.length)
    (hbody:∀(f:Addr) (cdv:Value) (A:Around) (outer:List Env) (s:Shared) (H:Hp) (vs:List V) (Q:VK) (E:XK),Room k (A.deeper (envOfC x (defScope st) s.heap.objs.size f cdv))→sp' vs H Q E →
      ∃t,PSs (cxOf (CXE P w) P w K mg base N x (defScope st) f cdv A outer s H E) (defBody st) t∧t { nx:=fun _ H'=>Q .non H',rt:=Q } (start N vs) H):CalleeX P w K mg base (k+1) x ps (fun vs H Q E=>sp vs H Q E∨sp' vs H Q E):=by
  obtain ⟨f,fd,F,hm,hb⟩:=D.ex
  obtain ⟨f',fd',F',hm',hk',hb',oc',od',osl',lk'⟩:=C.ex
  obtain ⟨oc,od,kV,doc,pm,an,cdv,ct,osl,rfl,lk,hcd⟩:=F.ex
  rw [hm] at hm';cases hm'
  rw [lk] at lk';cases lk'
  have G:=fn_of (P:=P) (w:=w) (mg:=mg) (base:=base) (CX:=CXE P w) (sp:=sp') lk hcd S len fun A outer s H vs Q E hr hsp=>hbody f cdv A outer s H vs Q E hr hsp
  refine ⟨f,_,⟨fun vs H Q E h=>?_,fun A outer s H args us vs Q E hr he hbd hv hs=>?_⟩,hm,F.kp,hb⟩
  · rcases h with h | h
    · exact F'.len _ _ _ _ h
    · exact len _ _ _ _ h
  · rcases hs with hs | hs
    · refine codeAny_mono (F'.run A outer s H args us vs Q E hr he hbd hv hs) fun r s' q=>?_
      cases r with
      | ok fl=>cases fl <;> exact q
      | error e=>exact q.elim
    · exact G.run A outer s H args us vs Q E hr he hbd hv hs
def rCountB:V→List V→Hp→VK→Prop:=fun x vs H Q=>∃(l:Addr) (bs:List Bool) (b:Bool),x=.ref l∧vs=[.bl b]∧H l=some (.lst (bs.map V.bl))∧Q (.int (bs.count b:Nat)) H
theorem rel_bls:∀{bs:List Bool} {us:List Value},Vals (bs.map V.bl) us→us=bs.map Value.bool
  | [],_,.nil=>rfl
  | b::bs,_,.cons h t=>by
    rw [rel_bls t]
    cases (show _=Value.bool b from h)
    rfl
theorem mt_count {X:Cx}:MtM X "list.count" rCountB:=by
  intro pins s σ H x vs v us Q I rx rv h
  obtain ⟨l,bs,b,rfl,rfl,hH,q⟩:=h
  cases rx
  obtain ⟨u,rfl,ru⟩:=rv.one
  cases (show u=Value.bool b from ru)
  obtain ⟨z,its,n,r,hl,e⟩:=I.lstM hH
  have hi:=rel_bls r
  subst hi
  refine call_meets F.slot_list_count ⟨_,e,rfl⟩ F.entry_list_count (F.args_list_count_2 _ _) (SeqAt.list_countAt l (bs.map Value.bool).toArray n _ _ (.bool b) (fun y=>decide (y=.bool b))) ⟨e,fun y hy=>?_,?_⟩
  · obtain ⟨c,_,rfl⟩:=List.mem_map.mp (Array.mem_toList_iff.mpr hy)
    have:=SeqAt.EqAt.bool_bool (A:=X.A.in1) (s:=s) c b
    cases b <;> cases c <;> exact this
  · have ec:((bs.map Value.bool).toArray.toList.countP fun y=>decide (y=.bool b))=bs.count b:=by
      show (bs.map Value.bool).countP _=_
      rw [List.countP_map]
      unfold List.count
      congr 1
      funext c
      cases b <;> cases c <;> rfl
    rw [ec]
    exact ⟨.int _,H,I.tok _,⟨_,rfl⟩,q⟩
theorem pe_bmK {X:Cx} {K:PySem.W.Frag} {T id:String} {name:Str} {r:V→List V→Hp→VK→Prop} {o e:Expr} {es:List Expr} {to:TE} {t:TA} {apos cpos:Pos} (hK:X.K=K) (pa:PlainAttrs T) (slot:Slot T name id) (hty:typeOf (.builtin id)=pure (.type "method_descriptor")) (hm:MtR X id r) (ho:PE X o to) (ha:PA X (e::es) t)
    (hbase:attributeBase o name X.env (eval o X.env)=eval o X.env:=by rfl)
    (hfew:((backTo cpos (starEach (e::es) X.env)).all (fun x=>!x.1)&&(backToKw cpos (keywordEach [] X.env)).all (fun x=>x.1.isSome)
      && decide ((e::es).length+([]:List Keyword).length+(if ([]:List Keyword).isEmpty then 0 else 1)<30))=true:=by rfl)
    (hline:(apos.endLine == cpos.line)=true:=by rfl) (hs:starEach (e::es) X.env=(false,eval e X.env)::starEach es X.env:=by rfl) (hplain:(backTo cpos (starEach es X.env)).any (·.1)=false:=by rfl) :
    PE X (.Call (.Attribute o name apos) (e::es) [] cpos) (tBM K T r to t):=hK▸pe_bm pa slot hty hm ho ha hbase hfew hline hs hplain
end L2
namespace E1
def quo (number part:Int):Int:=-((2*number+part).fdiv (2*part))
theorem quo_neg (a p:Int):quo (-a) (-p)=quo a p:=by
  unfold quo
  have e1:2*-a+-p=-(2*a+p):=by omega
  have e2:2*-p=-(2*p):=by omega
  rw [e1,e2,Int.neg_fdiv_neg]
theorem quo_rest' {a p:Int} (hp:0<p):2*(a+quo a p*p).natAbs≤p.natAbs:=by
  have e:(2*a+p)=(2*p)*((2*a+p).fdiv (2*p))+(2*a+p).fmod (2*p):=by
    have:=Int.mul_fdiv_add_fmod (2*a+p) (2*p)
    omega
  unfold quo
  generalize hf:(2*a+p).fdiv (2*p)=f at e
  generalize hr:(2*a+p).fmod (2*p)=r at e
  have e2:2*(a+-f*p)=r - p:=by
    have:(2*p)*f=2*(f*p):=by rw [Int.mul_assoc,Int.mul_comm p f]
    rw [this] at e
    have:-f*p=-(f*p):=Int.neg_mul f p
    rw [this];omega
  have h1:0≤r:=by rw [←hr];exact Int.fmod_nonneg_of_pos _ (by omega)
  have h2:r<2*p:=by rw [←hr];exact Int.fmod_lt_of_pos _ (by omega)
  omega
theorem quo_rest {a p:Int} (hp:p≠0):2*(a+quo a p*p).natAbs≤p.natAbs:=by
  by_cases h:0<p
  · exact quo_rest' h
  · have h2:=quo_rest' (a:=-a) (p:=-p) (by omega)
    rw [quo_neg] at h2
    have e:-a+quo a p*-p=-(a+quo a p*p):=by rw [Int.mul_neg];omega
    rw [e,Int.natAbs_neg,Int.natAbs_neg] at h2
    exact h2
theorem quo_size {a p:Int} (hp:p≠0):2*((quo a p).natAbs*p.natAbs)≤2*a.natAbs+p.natAbs:=by
  have h:=quo_rest (a:=a) hp
  have e:(quo a p).natAbs*p.natAbs=(quo a p*p).natAbs:=(Int.natAbs_mul _ _).symm
  rw [e];omega
theorem quo_exact {a p:Int} (hp:p≠0) (hd:p∣a):a+quo a p*p=0:=by
  have h:=quo_rest (a:=a) hp
  have hd2:p∣a+quo a p*p:=Int.dvd_add hd (Int.dvd_mul_left _ _)
  have hz:(a+quo a p*p).natAbs=0:=by
    have hd3:p.natAbs∣(a+quo a p*p).natAbs:=Int.natAbs_dvd_natAbs.mpr hd2
    have hpp:0<p.natAbs:=by omega
    rcases Nat.eq_zero_or_pos (a+quo a p*p).natAbs with z | z
    · exact z
    · have:=Nat.le_of_dvd z hd3
      omega
  omega
theorem quo_two {a p:Int} (hp:p≠0) (h:2*p.natAbs≤a.natAbs):2≤(quo a p).natAbs:=by
  have h1:=quo_rest (a:=a) hp
  have e:(quo a p*p).natAbs=(quo a p).natAbs*p.natAbs:=Int.natAbs_mul _ _
  have hpp:0<p.natAbs:=by omega
  have h3:3*p.natAbs≤2*(quo a p*p).natAbs:=by omega
  rw [e] at h3
  rcases Nat.lt_or_ge (quo a p).natAbs 2 with z | z
  · have:(quo a p).natAbs*p.natAbs≤1*p.natAbs:=Nat.mul_le_mul_right _ (by omega)
    omega
  · exact z
theorem quo_zero {a p:Int} (hp:p≠0) (h:2*a.natAbs<p.natAbs):quo a p=0:=by
  have h1:=quo_size (a:=a) hp
  have hpp:0<p.natAbs:=by omega
  rcases Nat.eq_zero_or_pos (quo a p).natAbs with z | z
  · omega
  · have:1*p.natAbs≤(quo a p).natAbs*p.natAbs:=Nat.mul_le_mul_right _ z
    omega
end E1
namespace E1
theorem quo_le {a p:Int} (hp:p≠0):(quo a p).natAbs≤a.natAbs:=by
  have h:=quo_size (a:=a) hp
  have hpp:0<p.natAbs:=by omega
  rcases Nat.eq_zero_or_pos (quo a p).natAbs with z | z
  · omega
  · have h2:(quo a p).natAbs*1≤(quo a p).natAbs*p.natAbs:=Nat.mul_le_mul_left _ hpp
    have h3:1*p.natAbs≤(quo a p).natAbs*p.natAbs:=Nat.mul_le_mul_right _ z
    have h4:((quo a p).natAbs - 1)*(p.natAbs - 1)+(quo a p).natAbs+p.natAbs=(quo a p).natAbs*p.natAbs+1:=by
      obtain ⟨s,hs⟩:∃s,(quo a p).natAbs=s+1:=⟨_,(Nat.succ_pred_eq_of_pos z).symm⟩
      obtain ⟨t,ht⟩:∃t,p.natAbs=t+1:=⟨_,(Nat.succ_pred_eq_of_pos hpp).symm⟩
      rw [hs,ht]
      simp only [Nat.add_sub_cancel]
      grind
    omega
theorem grow {q u u':Int} (hq:2≤q.natAbs) (h:u'.natAbs≤u.natAbs):u.natAbs≤(u'+q*u).natAbs:=by
  have e:(q*u).natAbs=q.natAbs*u.natAbs:=Int.natAbs_mul _ _
  have h2:2*u.natAbs≤q.natAbs*u.natAbs:=Nat.mul_le_mul_right _ hq
  omega
theorem small {a b x y z:Int} (h:a*y - b*x=z∨a*y - b*x=-z) (hx:x≠0) (hxy:2*y.natAbs≤x.natAbs) (hab:a.natAbs≤b.natAbs):b.natAbs≤2*z.natAbs:=by
  have h1:(b*x).natAbs≤z.natAbs+(a*y).natAbs:=by rcases h with h | h <;> omega
  rw [Int.natAbs_mul,Int.natAbs_mul] at h1
  have h2:a.natAbs*y.natAbs≤b.natAbs*y.natAbs:=Nat.mul_le_mul_right _ hab
  have h3:b.natAbs*(2*y.natAbs)≤b.natAbs*x.natAbs:=Nat.mul_le_mul_left _ hxy
  have h4:b.natAbs*(2*y.natAbs)=2*(b.natAbs*y.natAbs):=by rw [Nat.mul_left_comm]
  have h5:b.natAbs*1≤b.natAbs*x.natAbs:=Nat.mul_le_mul_left _ (by omega)
  omega
structure Co (x0 y0 u v u' v':Int):Prop where
  dt:u*v' - u'*v=1∨u*v' - u'*v=-1
  bu:u.natAbs≤1+2*y0.natAbs
  bu':u'.natAbs≤1+2*y0.natAbs
  bv:v.natAbs≤1+2*x0.natAbs
  bv':v'.natAbs≤1+2*x0.natAbs
theorem Co.init (x0 y0:Int):Co x0 y0 1 0 0 1:=⟨Or.inl rfl,by omega,by omega,by omega,by omega⟩
theorem Co.swap {x0 y0 u v u' v':Int} (h:Co x0 y0 u v u' v'):Co x0 y0 u' v' u v :=
  ⟨by rcases h.dt with z | z
      · exact Or.inr (by grind)
      · exact Or.inl (by grind),h.bu',h.bu,h.bv',h.bv⟩
theorem Co.y0 {x0 y0 u v u' v':Int} (h:Co x0 y0 u v u' v') :
    u*(u'*x0+v'*y0) - u'*(u*x0+v*y0)=y0∨u*(u'*x0+v'*y0) - u'*(u*x0+v*y0)=-y0:=by
  have e:u*(u'*x0+v'*y0) - u'*(u*x0+v*y0)=(u*v' - u'*v)*y0:=by grind
  rw [e]
  rcases h.dt with z | z
  · left;rw [z];omega
  · right;rw [z];omega
theorem Co.x0 {x0 y0 u v u' v':Int} (h:Co x0 y0 u v u' v') :
    v*(u'*x0+v'*y0) - v'*(u*x0+v*y0)=x0∨v*(u'*x0+v'*y0) - v'*(u*x0+v*y0)=-x0:=by
  have e:v*(u'*x0+v'*y0) - v'*(u*x0+v*y0)=-((u*v' - u'*v)*x0):=by grind
  rw [e]
  rcases h.dt with z | z
  · right;rw [z];omega
  · left;rw [z];omega
structure Head (x0 y0 u v u' v':Int):Prop where
  co:Co x0 y0 u v u' v'
  nz:u*x0+v*y0≠0
  st:u'*x0+v'*y0=0∨(u=1∧v=0∧u'=0∧v'=1) ∨
    (u'.natAbs≤u.natAbs∧v'.natAbs≤v.natAbs∧2*(u*x0+v*y0).natAbs≤(u'*x0+v'*y0).natAbs)
  keep:x0∣y0→u=1∧v=0
structure Mid (x0 y0 u v u' v':Int):Prop where
  co:Co x0 y0 u v u' v'
  nz:u*x0+v*y0≠0
  le:2*(u'*x0+v'*y0).natAbs≤(u*x0+v*y0).natAbs
  gv:v.natAbs≤v'.natAbs
  gu:u.natAbs≤u'.natAbs∨(u'=0∧u.natAbs=1)
  keep:x0∣y0→u=1∧v=0∧u'*x0+v'*y0=0
theorem head_init {x0 y0:Int} (h:x0≠0):Head x0 y0 1 0 0 1:=⟨Co.init ..,by simpa using h,Or.inr (Or.inl ⟨rfl,rfl,rfl,rfl⟩),fun _=>⟨rfl,rfl⟩⟩
theorem head_mid {x0 y0 u v u' v' q:Int} (h:Head x0 y0 u v u' v') (hy:u'*x0+v'*y0≠0)
    (hq:q=quo (u'*x0+v'*y0) (u*x0+v*y0)):Mid x0 y0 u v (u'+q*u) (v'+q*v):=by
  have e:(u'+q*u)*x0+(v'+q*v)*y0=(u'*x0+v'*y0)+q*(u*x0+v*y0):=by grind
  have hr:=quo_rest (a:=u'*x0+v'*y0) h.nz
  rw [←hq,←e] at hr
  have hd:u*(v'+q*v) - (u'+q*u)*v=1∨u*(v'+q*v) - (u'+q*u)*v=-1:=by
    have:u*(v'+q*v) - (u'+q*u)*v=u*v' - u'*v:=by grind
    rw [this];exact h.co.dt
  have gv:v.natAbs≤(v'+q*v).natAbs:=by
    rcases h.st with z | z | z
    · exact absurd z hy
    · obtain ⟨rfl,rfl,rfl,rfl⟩:=z;simp
    · exact grow (hq▸quo_two h.nz z.2.2) z.2.1
  have gu:u.natAbs≤(u'+q*u).natAbs∨(u'+q*u=0∧u.natAbs=1):=by
    rcases h.st with z | z | z
    · exact absurd z hy
    · obtain ⟨rfl,rfl,rfl,rfl⟩:=z
      by_cases hq0:q=0
      · right;subst hq0;simp
      · left;simp only [Int.mul_one,Int.zero_add];omega
    · exact Or.inl (grow (hq▸quo_two h.nz z.2.2) z.1)
  have c0:Co x0 y0 u v (u'+q*u) (v'+q*v)∨True:=Or.inr trivial
  have ey:u*((u'+q*u)*x0+(v'+q*v)*y0) - (u'+q*u)*(u*x0+v*y0)=y0 ∨
      u*((u'+q*u)*x0+(v'+q*v)*y0) - (u'+q*u)*(u*x0+v*y0)=-y0:=by
    have e3:u*((u'+q*u)*x0+(v'+q*v)*y0) - (u'+q*u)*(u*x0+v*y0)=(u*(v'+q*v) - (u'+q*u)*v)*y0:=by grind
    rw [e3]
    rcases hd with z | z
    · left;rw [z];omega
    · right;rw [z];omega
  have ex:v*((u'+q*u)*x0+(v'+q*v)*y0) - (v'+q*v)*(u*x0+v*y0)=x0 ∨
      v*((u'+q*u)*x0+(v'+q*v)*y0) - (v'+q*v)*(u*x0+v*y0)=-x0:=by
    have e3:v*((u'+q*u)*x0+(v'+q*v)*y0) - (v'+q*v)*(u*x0+v*y0)=-((u*(v'+q*v) - (u'+q*u)*v)*x0):=by grind
    rw [e3]
    rcases hd with z | z
    · right;rw [z];omega
    · left;rw [z];omega
  have bv':=small ex h.nz hr gv
  refine ⟨⟨hd,h.co.bu,?_,h.co.bv,by omega⟩,h.nz,hr,gv,gu,fun hk=>?_⟩
  · rcases gu with z | z
    · have:=small ey h.nz hr z;omega
    · rw [z.1];simp
  · obtain ⟨rfl,rfl⟩:=h.keep hk
    refine ⟨rfl,rfl,?_⟩
    rw [e,hq]
    refine quo_exact h.nz ?_
    simp only [Int.one_mul,Int.zero_mul,Int.add_zero]
    exact Int.dvd_add (Int.dvd_mul_left _ _) (Int.dvd_mul_of_dvd_right hk)
structure Tail (x0 y0 u v u' v':Int):Prop where
  co:Co x0 y0 u v u' v'
  nz:u'*x0+v'*y0≠0
  le:2*(u*x0+v*y0).natAbs≤(u'*x0+v'*y0).natAbs
  gv:v'.natAbs≤v.natAbs
  gu:u'.natAbs≤u.natAbs
  nk:¬ x0∣y0
theorem mid_tail {x0 y0 u v u' v' q:Int} (h:Mid x0 y0 u v u' v') (hy:u'*x0+v'*y0≠0)
    (hq:q=quo (u*x0+v*y0) (u'*x0+v'*y0)):Tail x0 y0 (u+q*u') (v+q*v') u' v':=by
  have e:(u+q*u')*x0+(v+q*v')*y0=(u*x0+v*y0)+q*(u'*x0+v'*y0):=by grind
  have hr:=quo_rest (a:=u*x0+v*y0) hy
  rw [←hq,←e] at hr
  have h2:2≤q.natAbs:=hq▸quo_two hy h.le
  have hd:(u+q*u')*v' - u'*(v+q*v')=1∨(u+q*u')*v' - u'*(v+q*v')=-1:=by
    have:(u+q*u')*v' - u'*(v+q*v')=u*v' - u'*v:=by grind
    rw [this];exact h.co.dt
  have gv:=grow h2 h.gv
  have gu:u'.natAbs≤(u+q*u').natAbs:=by
    rcases h.gu with z | z
    · exact grow h2 z
    · rw [z.1];simp
  have ey:u'*((u+q*u')*x0+(v+q*v')*y0) - (u+q*u')*(u'*x0+v'*y0)=y0 ∨
      u'*((u+q*u')*x0+(v+q*v')*y0) - (u+q*u')*(u'*x0+v'*y0)=-y0:=by
    have e3:u'*((u+q*u')*x0+(v+q*v')*y0) - (u+q*u')*(u'*x0+v'*y0)=-(((u+q*u')*v' - u'*(v+q*v'))*y0):=by grind
    rw [e3]
    rcases hd with z | z
    · right;rw [z];omega
    · left;rw [z];omega
  have ex:v'*((u+q*u')*x0+(v+q*v')*y0) - (v+q*v')*(u'*x0+v'*y0)=x0 ∨
      v'*((u+q*u')*x0+(v+q*v')*y0) - (v+q*v')*(u'*x0+v'*y0)=-x0:=by
    have e3:v'*((u+q*u')*x0+(v+q*v')*y0) - (v+q*v')*(u'*x0+v'*y0)=(((u+q*u')*v' - u'*(v+q*v'))*x0):=by grind
    rw [e3]
    rcases hd with z | z
    · left;rw [z];omega
    · right;rw [z];omega
  have bv:=small ex hy hr gv
  have bu:=small ey hy hr gu
  exact ⟨⟨hd,by omega,h.co.bu',by omega,h.co.bv'⟩,hy,hr,gv,gu,fun hk=>hy (h.keep hk).2.2⟩
theorem tail_head {x0 y0 u v u' v':Int} (h:Tail x0 y0 u v u' v') (hx:u*x0+v*y0≠0):Head x0 y0 u v u' v' :=
  ⟨h.co,hx,Or.inr (Or.inr ⟨h.gu,h.gv,h.le⟩),fun hk=>absurd hk h.nk⟩
theorem tail_swap {x0 y0 u v u' v':Int} (h:Tail x0 y0 u v u' v') (hx:u*x0+v*y0=0):Head x0 y0 u' v' u v :=
  ⟨h.co.swap,h.nz,Or.inl hx,fun hk=>absurd hk h.nk⟩
theorem mid_head {x0 y0 u v u' v':Int} (h:Mid x0 y0 u v u' v') (hy:u'*x0+v'*y0=0):Head x0 y0 u v u' v' :=
  ⟨h.co,h.nz,Or.inl hy,fun hk=>⟨(h.keep hk).1,(h.keep hk).2.1⟩⟩
theorem Head.ends {x0 y0 u v u' v':Int} (h:Head x0 y0 u v u' v') (hy:u'*x0+v'*y0=0) :
    ∃s:Int,(s=1∨s=-1)∧x0=s*v'*(u*x0+v*y0)∧y0=-(s*u'*(u*x0+v*y0)):=by
  have h1:=h.co.x0
  have h2:=h.co.y0
  have dt:=h.co.dt
  refine ⟨u*v' - u'*v,dt,?_,?_⟩
  · have e:(u*v' - u'*v)*v'*(u*x0+v*y0)=(u*v' - u'*v)*((u*v' - u'*v)*x0)+(u*v' - u'*v)*v*(u'*x0+v'*y0):=by grind
    rw [e,hy]
    rcases dt with z | z <;> rw [z] <;> omega
  · have e:-((u*v' - u'*v)*u'*(u*x0+v*y0))=(u*v' - u'*v)*((u*v' - u'*v)*y0) - (u*v' - u'*v)*u*(u'*x0+v'*y0):=by grind
    rw [e,hy]
    rcases dt with z | z <;> rw [z] <;> omega
theorem row_le {B u v t l x0 y0:Int} {b:Nat} (hu:u.natAbs≤1+2*y0.natAbs) (hv:v.natAbs≤1+2*x0.natAbs)
    (hx:x0.natAbs≤2^b) (hy:y0.natAbs≤2^b) (ht:t.natAbs≤2^b) (hl:l.natAbs≤2^b):(u*t+v*l).natAbs≤2^(2*b+3):=by
  have h1:(u*t).natAbs≤(1+2*2^b)*2^b:=by rw [Int.natAbs_mul];exact Nat.mul_le_mul (by omega) ht
  have h2:(v*l).natAbs≤(1+2*2^b)*2^b:=by rw [Int.natAbs_mul];exact Nat.mul_le_mul (by omega) hl
  have h3:(2:Nat)^(2*b+3)=8*(2^b*2^b):=by rw [Nat.pow_add,Nat.two_mul,Nat.pow_add];omega
  have h4:(1+2*2^b)*2^b=2^b+2*((2:Nat)^b*2^b):=by rw [Nat.add_mul,Nat.mul_assoc];omega
  have h5:(2:Nat)^b*1≤2^b*2^b:=Nat.mul_le_mul_left _ Nat.one_le_two_pow
  omega
end E1
namespace E1
abbrev Tab:=Nat→Nat→Int
inductive RC where
  | add (i j:Nat) (q:Int) | swap (i j:Nat) | turn (i:Nat)
def addR (e:Tab) (i j:Nat) (q:Int):Tab:=fun x y=>if x=i then e i y+q*e j y else e x y
def sw (i j x:Nat):Nat:=if x=i then j else if x=j then i else x
def swapR (e:Tab) (i j:Nat):Tab:=fun x y=>e (sw i j x) y
def turnR (e:Tab) (i:Nat):Tab:=fun x y=>if x=i then -e i y else e x y
def RC.app:RC→Tab→Tab
  | .add i j q,e=>addR e i j q
  | .swap i j,e=>swapR e i j
  | .turn i,e=>turnR e i
def rapps (L:List RC) (e:Tab):Tab:=L.foldl (fun e c=>c.app e) e
theorem rapps_nil (e:Tab):rapps [] e=e:=rfl
theorem rapps_cons (c:RC) (L:List RC) (e:Tab):rapps (c::L) e=rapps L (c.app e):=rfl
theorem rapps_app (L M:List RC) (e:Tab):rapps (L++M) e=rapps M (rapps L e):=List.foldl_append
def RC.ok (n:Nat):RC→Prop
  | .add i j _=>i<n∧j<n∧i≠j
  | .swap i j=>i<n∧j<n∧i≠j
  | .turn i=>i<n
def Le (c:Nat) (e:Tab):Prop:=∀x y,(e x y).natAbs≤2^c
theorem Le.mono {c d:Nat} {e:Tab} (h:Le c e) (hc:c≤d):Le d e:=fun x y=>Nat.le_trans (h x y) (Nat.pow_le_pow_right (by decide) hc)
theorem addR_zero (e:Tab) (i j:Nat):addR e i j 0=e:=by
  funext x y;unfold addR;split
  · rename_i h;subst h;simp
  · rfl
def lch (i j:Nat) (q:Int):List RC:=if q=0 then [] else [.add i j q]
theorem lch_app (e:Tab) (i j:Nat) (q:Int):rapps (lch i j q) e=addR e i j q:=by
  unfold lch;split
  · rename_i h;subst h;rw [addR_zero];rfl
  · rfl
theorem lch_len (i j:Nat) (q:Int):(lch i j q).length≤1:=by unfold lch;split <;> simp
theorem lch_ok {n i j:Nat} {q:Int} (hi:i<n) (hj:j<n) (hij:i≠j):∀c∈lch i j q,c.ok n:=by
  unfold lch;split
  · simp
  · intro c hc;simp at hc;subst hc;exact ⟨hi,hj,hij⟩
def lq (e:Tab) (i j p:Nat):Int:=quo (e i p) (e j p)
def less (e:Tab) (i j p:Nat):Tab:=addR e i j (lq e i j p)
theorem less_le {c:Nat} {e:Tab} {i j p:Nat} (h:Le c e) (hp:e j p≠0):Le (2*c+3) (less e i j p):=by
  intro x y
  unfold less addR
  have h3:(2:Nat)^(2*c+3)=8*(2^c*2^c):=by rw [Nat.pow_add,Nat.two_mul,Nat.pow_add];omega
  have h5:(2:Nat)^c*1≤2^c*2^c:=Nat.mul_le_mul_left _ Nat.one_le_two_pow
  split
  · have h1:(lq e i j p*e j y).natAbs≤2^c*2^c:=by
      rw [Int.natAbs_mul];exact Nat.mul_le_mul (Nat.le_trans (quo_le hp) (h i p)) (h j y)
    have:=h i y
    omega
  · have:=h x y;omega
theorem less_rest {e:Tab} {i j p:Nat} (hp:e j p≠0):2*(less e i j p i p).natAbs≤(e j p).natAbs:=by
  unfold less addR;rw [if_pos rfl];exact quo_rest hp
theorem less_other {e:Tab} {i j p x:Nat} (hx:x≠i) (y:Nat):less e i j p x y=e x y:=by unfold less addR;rw [if_neg hx]
theorem less_row {e:Tab} {i j p:Nat} (y:Nat):less e i j p i y=e i y+lq e i j p*e j y:=by unfold less addR;rw [if_pos rfl]
inductive MeetR (cap top low p:Nat):Tab→List RC→Tab→Prop
  | done {e:Tab}:Le cap e→e low p=0→MeetR cap top low p e [] e
  | half {e e1:Tab}:Le cap e→e low p≠0→e top p≠0→e1=less e low top p→Le cap e1→e1 low p=0 →
      MeetR cap top low p e (lch low top (lq e low top p)) e1
  | turn {e e1 e2 e':Tab} {L:List RC}:Le cap e→e low p≠0→e top p≠0→e1=less e low top p→Le cap e1→e1 low p≠0 →
      e2=less e1 top low p→Le cap e2→e2 top p≠0→MeetR cap top low p e2 L e' →
      MeetR cap top low p e (lch low top (lq e low top p)++(lch top low (lq e1 top low p)++L)) e'
  | swap {e e1 e2:Tab}:Le cap e→e low p≠0→e top p≠0→e1=less e low top p→Le cap e1→e1 low p≠0 →
      e2=less e1 top low p→Le cap e2→e2 top p=0 →
      MeetR cap top low p e (lch low top (lq e low top p)++(lch top low (lq e1 top low p)++[.swap top low])) (swapR e2 top low)
structure Sums (e0 e:Tab) (top low:Nat) (u v u' v':Int):Prop where
  t:∀y,e top y=u*e0 top y+v*e0 low y
  l:∀y,e low y=u'*e0 top y+v'*e0 low y
  o:∀x,x≠top→x≠low→∀y,e x y=e0 x y
theorem Sums.refl (e:Tab) (top low:Nat):Sums e e top low 1 0 0 1:=⟨fun y=>by simp,fun y=>by simp,fun _ _ _ _=>rfl⟩
theorem Sums.le {e0 e:Tab} {top low p c:Nat} {u v u' v':Int} (h:Sums e0 e top low u v u' v') (hc:Le c e0) (co:Co (e0 top p) (e0 low p) u v u' v'):Le (2*c+3) e:=by
  intro x y
  by_cases hx:x=top
  · subst hx;rw [h.t];exact row_le (B:=0) co.bu co.bv (hc _ _) (hc _ _) (hc _ _) (hc _ _)
  · by_cases hl:x=low
    · subst hl;rw [h.l];exact row_le (B:=0) co.bu' co.bv' (hc _ _) (hc _ _) (hc _ _) (hc _ _)
    · rw [h.o x hx hl];exact hc.mono (by omega) x y
theorem Sums.low {e0 e:Tab} {top low p:Nat} {u v u' v':Int} (h:Sums e0 e top low u v u' v') (htl:top≠low) :
    Sums e0 (less e low top p) top low u v (u'+lq e low top p*u) (v'+lq e low top p*v):=by
  refine ⟨fun y=>?_,fun y=>?_,fun x h1 h2 y=>?_⟩
  · rw [less_other htl];exact h.t y
  · rw [less_row,h.l,h.t];generalize lq e low top p=q;grind
  · rw [less_other h2];exact h.o x h1 h2 y
theorem Sums.top {e0 e:Tab} {top low p:Nat} {u v u' v':Int} (h:Sums e0 e top low u v u' v') (htl:top≠low) :
    Sums e0 (less e top low p) top low (u+lq e top low p*u') (v+lq e top low p*v') u' v':=by
  refine ⟨fun y=>?_,fun y=>?_,fun x h1 h2 y=>?_⟩
  · rw [less_row,h.l,h.t];generalize lq e top low p=q;grind
  · rw [less_other (Ne.symm htl)];exact h.l y
  · rw [less_other h1];exact h.o x h1 h2 y
theorem Sums.swap {e0 e:Tab} {top low:Nat} {u v u' v':Int} (h:Sums e0 e top low u v u' v') (htl:top≠low) :
    Sums e0 (swapR e top low) top low u' v' u v:=by
  refine ⟨fun y=>?_,fun y=>?_,fun x h1 h2 y=>?_⟩
  · simp only [swapR,sw,if_pos];exact h.l y
  · simp only [swapR,sw,if_neg (Ne.symm htl),if_pos];exact h.t y
  · simp only [swapR,sw,if_neg h1,if_neg h2];exact h.o x h1 h2 y
theorem meet_from {e0:Tab} {cap c top low p:Nat} (htl:top≠low) (hc:Le c e0) (hcap:2*c+3≤cap) :
    ∀(n:Nat) (e:Tab) (u v u' v':Int),Sums e0 e top low u v u' v'→Head (e0 top p) (e0 low p) u v u' v'→(e top p).natAbs<4^n →
      ∃L e' s t s' t',MeetR cap top low p e L e'∧Sums e0 e' top low s t s' t'∧Head (e0 top p) (e0 low p) s t s' t'∧e' low p=0 ∧
        rapps L e=e'∧L.length≤3*n∧(∀n,top<n→low<n→∀x∈L,x.ok n)
  | 0,e,u,v,u',v',hs,hh,hn=>by
    have:=hh.nz
    rw [←hs.t] at this
    simp at hn;omega
  | n+1,e,u,v,u',v',hs,hh,hn=>by
    have lc:∀{e:Tab} {u v u' v':Int},Sums e0 e top low u v u' v'→Co (e0 top p) (e0 low p) u v u' v'→Le cap e:=fun h co=>(h.le hc co).mono hcap
    have hx:e top p≠0:=by rw [hs.t];exact hh.nz
    by_cases hy:e low p=0
    · exact ⟨[],e,u,v,u',v',.done (lc hs hh.co) hy,hs,hh,hy,rfl,by simp,fun _ _ _ x hx=>absurd hx (by simp)⟩
    · have hs1:=hs.low (p:=p) htl
      have hm:=head_mid (q:=lq e low top p) hh (by rw [←hs.l];exact hy) (by unfold lq;rw [hs.l,hs.t])
      by_cases hy1:less e low top p low p=0
      · refine ⟨_,_,_,_,_,_,.half (lc hs hh.co) hy hx rfl (lc hs1 hm.co) hy1,hs1,mid_head hm (by rw [←hs1.l];exact hy1),hy1,lch_app ..,?_,fun n h1 h2=>lch_ok h2 h1 (Ne.symm htl)⟩
        have:=lch_len low top (lq e low top p);omega
      · have hs2:=hs1.top (p:=p) htl
        have ht:=mid_tail (q:=lq (less e low top p) top low p) hm (by rw [←hs1.l];exact hy1) (by unfold lq;rw [hs1.l,hs1.t];rfl)
        have l1:=lch_len low top (lq e low top p)
        have l2:=lch_len top low (lq (less e low top p) top low p)
        by_cases hx2:less (less e low top p) top low p top p=0
        · refine ⟨_,_,_,_,_,_,.swap (lc hs hh.co) hy hx rfl (lc hs1 hm.co) hy1 rfl (lc hs2 ht.co) hx2,hs2.swap htl,tail_swap ht (by rw [←hs2.t];exact hx2),?_,?_,?_,?_⟩
          · simp only [swapR,sw,if_neg (Ne.symm htl),if_pos];exact hx2
          · rw [rapps_app,rapps_app,lch_app,lch_app];rfl
          · simp only [List.length_append,List.length_cons,List.length_nil];omega
          · intro n h1 h2 x hx
            simp only [List.mem_append,List.mem_singleton] at hx
            rcases hx with z | z | z
            · exact lch_ok h2 h1 (Ne.symm htl) x z
            · exact lch_ok h1 h2 htl x z
            · subst z;exact ⟨h1,h2,htl⟩
        · have hlt:(less (less e low top p) top low p top p).natAbs<4^n:=by
            have r1:=less_rest (e:=e) (i:=low) hx
            have r2:=less_rest (e:=less e low top p) (i:=top) hy1
            rw [Nat.pow_succ] at hn
            omega
          obtain ⟨L,e',s,t,s',t',hR,a1,a2,a3,a4,a5,a6⟩:=meet_from htl hc hcap n _ _ _ _ _ hs2 (tail_head ht (by rw [←hs2.t];exact hx2)) hlt
          refine ⟨_,e',s,t,s',t',.turn (lc hs hh.co) hy hx rfl (lc hs1 hm.co) hy1 rfl (lc hs2 ht.co) hx2 hR,a1,a2,a3,?_,?_,?_⟩
          · rw [rapps_app,rapps_app,lch_app,lch_app];exact a4
          · simp only [List.length_append];omega
          · intro n h1 h2 x hx
            simp only [List.mem_append] at hx
            rcases hx with z | z | z
            · exact lch_ok h2 h1 (Ne.symm htl) x z
            · exact lch_ok h1 h2 htl x z
            · exact a6 n h1 h2 x z
structure Met (e e':Tab) (top low p:Nat) (s t s' t':Int):Prop where
  sums:Sums e e' top low s t s' t'
  co:Co (e top p) (e low p) s t s' t'
  nz:e' top p≠0
  zero:e' low p=0
  keep:e top p∣e low p→s=1∧t=0
  ends:∃g:Int,(g=1∨g=-1)∧e top p=g*t'*e' top p∧e low p=-(g*s'*e' top p)
theorem meet_ex {e:Tab} {cap c top low p n:Nat} (htl:top≠low) (hc:Le c e) (hcap:2*c+3≤cap) (hx:e top p≠0) (hn:(e top p).natAbs<4^n) :
    ∃L e' s t s' t',MeetR cap top low p e L e'∧Met e e' top low p s t s' t'∧Le (2*c+3) e'∧rapps L e=e'∧L.length≤3*n∧(∀n,top<n→low<n→∀x∈L,x.ok n):=by
  obtain ⟨L,e',s,t,s',t',hR,a1,a2,a3,a4,a5,a6⟩:=meet_from htl hc hcap n e 1 0 0 1 (Sums.refl e top low) (head_init hx) hn
  refine ⟨L,e',s,t,s',t',hR,⟨a1,a2.co,?_,a3,a2.keep,?_⟩,a1.le hc a2.co,a4,a5,a6⟩
  · rw [a1.t];exact a2.nz
  · have:=a2.ends (by rw [←a1.l];exact a3)
    rw [←a1.t] at this
    exact this
end E1
namespace E1
def ups:Nat→Nat→Nat
  | 0,c=>c
  | n+1,c=>ups n (2*c+3)
theorem ups_ge (n c:Nat):c≤ups n c:=by
  induction n generalizing c with
  | zero=>exact Nat.le_refl _
  | succ n ih=>exact Nat.le_trans (by omega) (ih (2*c+3))
theorem ups_mono (n:Nat) {c d:Nat} (h:c≤d):ups n c≤ups n d:=by
  induction n generalizing c d with
  | zero=>exact h
  | succ n ih=>exact ih (by omega)
theorem ups_add (a b c:Nat):ups (a+b) c=ups b (ups a c):=by
  induction a generalizing c with
  | zero=>simp [ups]
  | succ a ih=>rw [Nat.succ_add];exact ih _
theorem ups_le {a b:Nat} (h:a≤b) (c:Nat):ups a c≤ups b c:=by
  obtain ⟨d,rfl⟩:=Nat.exists_eq_add_of_le h
  rw [ups_add];exact ups_ge _ _
def fp (r:Nat→Int):Nat→Nat→Nat
  | y,0=>y
  | y,n+1=>if r y≠0 then y else fp r (y+1) n
theorem fp_zero (r:Nat→Int):∀n y z,y≤z→z<fp r y n→r z=0
  | 0,y,z,h1,h2=>by unfold fp at h2;omega
  | n+1,y,z,h1,h2=>by
    unfold fp at h2
    split at h2
    · omega
    · rename_i hr
      by_cases e:z=y
      · subst e;simpa using hr
      · exact fp_zero r n (y+1) z (by omega) h2
theorem fp_nz (r:Nat→Int):∀n y,fp r y n<y+n→r (fp r y n)≠0
  | 0,y,h=>by unfold fp at h;omega
  | n+1,y,h=>by
    unfold fp at h ⊢
    split
    · rename_i hr;exact hr
    · rename_i hr
      rw [if_neg hr] at h
      exact fp_nz r n (y+1) (by omega)
theorem fp_gt {r:Nat→Int} {w y:Nat} (hw:y<w) (h:∀z,z≤y→r z=0):y<fp r 0 w:=by
  apply Classical.byContradiction
  intro hn
  have:=fp_nz r w 0 (by omega)
  exact this (h _ (by omega))
def sat (st:List Nat) (i:Nat):Nat:=st.getD i 0
def Wide (e:Tab) (w:Nat):Prop:=∀x y,w≤y→e x y=0
structure Stairs (e:Tab) (st:List Nat) (w n:Nat):Prop where
  len:st.length≤n
  lt:∀i,i<st.length→sat st i<w
  mono:∀i j,i<j→j<st.length→sat st i<sat st j
  nz:∀i,i<st.length→e i (sat st i)≠0
  zl:∀i,i<st.length→∀y,y<sat st i→e i y=0
  zr:∀x,st.length≤x→x<n→∀y,e x y=0
def LRow (cap:Nat) (st:List Nat) (row:Nat):Nat→Nat→Tab→List RC→Tab→Prop
  | _,0,e,L,e'=>Le cap e∧L=[]∧e'=e
  | t,n+1,e,L,e'=>Le cap e∧e t (sat st t)≠0∧∃L2,LRow cap st row (t+1) n (less e row t (sat st t)) L2 e'∧L=lch row t (lq e row t (sat st t))++L2
theorem lrow_ex {cap:Nat} {st:List Nat} {row:Nat}:∀(n t:Nat) (e:Tab) (c:Nat),Le c e→ups n c≤cap→(∀i,t≤i→i<t+n→i≠row∧e i (sat st i)≠0) →
    ∃L e',LRow cap st row t n e L e'∧Le (ups n c) e'∧rapps L e=e'∧L.length≤n∧(∀k,row<k→t+n≤k→∀x∈L,x.ok k) ∧
      (∀x,x≠row→∀y,e' x y=e x y)∧(∀y,(∀i,t≤i→i<t+n→e i y=0)→e' row y=e row y) ∧
      ((∀i j,t≤i→i<j→j<t+n→e j (sat st i)=0)→∀i,t≤i→i<t+n→2*(e' row (sat st i)).natAbs≤(e i (sat st i)).natAbs)
  | 0,t,e,c,hc,hcap,h=>⟨[],e,⟨hc.mono hcap,rfl,rfl⟩,hc,rfl,by simp,fun _ _ _ x hx=>absurd hx (by simp),fun _ _ _=>rfl,fun _ _=>rfl,fun _ i h1 h2=>absurd h1 (by omega)⟩
  | n+1,t,e,c,hc,hcap,h=>by
    obtain ⟨hr,hz⟩:=h t (Nat.le_refl _) (by omega)
    have hl:=less_le (i:=row) hc hz
    obtain ⟨L2,e',a1,a2,a3,a4,a5,a6,a7,a8⟩:=lrow_ex n (t+1) (less e row t (sat st t)) (2*c+3) hl hcap (fun i h1 h2=>by
      obtain ⟨b1,b2⟩:=h i (by omega) (by omega)
      exact ⟨b1,by rw [less_other b1];exact b2⟩)
    refine ⟨_,e',⟨hc.mono (Nat.le_trans (ups_ge (n+1) c) hcap),hz,L2,a1,rfl⟩,a2,?_,?_,?_,?_,?_,?_⟩
    · rw [rapps_app,lch_app];exact a3
    · rw [List.length_append];have:=lch_len row t (lq e row t (sat st t));omega
    · intro k h1 h2 x hx
      rcases List.mem_append.mp hx with z | z
      · exact lch_ok h1 (by omega) (Ne.symm hr) x z
      · exact a5 k h1 (by omega) x z
    · intro x hx y;rw [a6 x hx,less_other hx]
    · intro y hy
      rw [a7 y (fun i h1 h2=>by rw [less_other (h i (by omega) (by omega)).1];exact hy i (by omega) (by omega)),less_row,hy t (Nat.le_refl _) (by omega)]
      simp
    · intro hj i h1 h2
      by_cases hi:i=t
      · subst hi
        rw [a7 _ (fun k h3 h4=>by rw [less_other (h k (by omega) (by omega)).1];exact hj i k (Nat.le_refl _) (by omega) (by omega))]
        exact less_rest hz
      · have:=a8 (fun a b h3 h4 h5=>by rw [less_other (h b (by omega) (by omega)).1];exact hj a b (by omega) h4 (by omega)) i (by omega) (by omega)
        rw [less_other (h i h1 (by omega)).1] at this
        exact this
inductive TakeR (cap low w:Nat) (st:List Nat):Nat→Tab→List RC→Nat→Tab→Prop
  | stop {top:Nat} {e:Tab}:Le cap e→¬ (top<st.length∧sat st top≤fp (e low) 0 w)→TakeR cap low w st top e [] top e
  | skip {top top':Nat} {e e':Tab} {L:List RC}:Le cap e→top<st.length→sat st top<fp (e low) 0 w→TakeR cap low w st (top+1) e L top' e'→TakeR cap low w st top e L top' e'
  | meet {top top':Nat} {e e1 e2 e3 e':Tab} {L1 L2 L3 L4:List RC}:Le cap e→top<st.length→sat st top=fp (e low) 0 w →
      MeetR cap top low (sat st top) e L1 e1→LRow cap st top (top+1) (st.length - (top+1)) e1 L2 e2→LRow cap st low (top+1) (st.length - (top+1)) e2 L3 e3 →
      TakeR cap low w st (top+1) e3 L4 top' e'→TakeR cap low w st top e (L1++(L2++(L3++L4))) top' e'
theorem wide_app {w:Nat} {e:Tab} (h:Wide e w):∀L:List RC,Wide (rapps L e) w:=by
  intro L
  induction L generalizing e with
  | nil=>exact h
  | cons c L ih =>
    rw [rapps_cons]
    apply ih
    intro x y hy
    cases c with
    | add i j q=>simp only [RC.app,addR];split <;> simp [h _ _ hy]
    | swap i j=>simp only [RC.app,swapR];exact h _ _ hy
    | turn i=>simp only [RC.app,turnR];split <;> simp [h _ _ hy]
theorem take_ex {cap low w n:Nat} {st:List Nat}:∀(k top:Nat) (e:Tab) (c:Nat),top+k=st.length→Stairs e st w low→Wide e w→Le c e→ups (k*k) c≤cap →
    (∀i,i<top→∀y,y≤sat st i→e low y=0)→(∀i,top≤i→i<st.length→(e i (sat st i)).natAbs<4^n) →
    ∃L top' e',TakeR cap low w st top e L top' e'∧Stairs e' st w low∧Le (ups (k*k) c) e'∧rapps L e=e'∧L.length≤k*(3*n+2*k)∧(∀x∈L,x.ok (low+1)) ∧
      top≤top'∧top'≤st.length∧(∀i,i<top'→∀y,y≤sat st i→e' low y=0)∧(top'<st.length→fp (e' low) 0 w<sat st top')∧(∀x,low<x→∀y,e' x y=e x y):=by
  intro k
  induction k with
  | zero =>
    intro top e c hk hs hw hc hcap hz hn
    exact ⟨[],top,e,.stop (hc.mono hcap) (fun h=>by omega),hs,hc,rfl,by simp,fun x hx=>absurd hx (by simp),Nat.le_refl _,by omega,hz,fun h=>by omega,fun _ _ _=>rfl⟩
  | succ k ih =>
    intro top e c hk hs hw hc hcap hz hn
    have htop:top<st.length:=by omega
    have htl:top≠low:=by have:=hs.len;omega
    have hsq:(k+1)*(k+1)=(1+k+k)+k*k:=by grind
    by_cases h1:sat st top≤fp (e low) 0 w
    · by_cases h2:sat st top=fp (e low) 0 w
      · -- they meet
        have hzlow:∀y,y<sat st top→e low y=0:=fun y hy=>fp_zero (e low) w 0 y (by omega) (by omega)
        rw [hsq,ups_add,ups_add,ups_add] at hcap
        have hcap1:2*c+3≤cap:=Nat.le_trans (Nat.le_trans (Nat.le_trans (ups_ge _ _) (ups_ge _ _)) (ups_ge _ _)) hcap
        obtain ⟨L1,e1,s,t,s',t',m1,m2,m3,m4,m5,m6⟩:=meet_ex htl hc hcap1 (hs.nz top htop) (hn top (Nat.le_refl _) htop)
        have m3':Le (ups 1 c) e1:=m3
        have r1:∀x,x≠top→x≠low→∀y,e1 x y=e x y:=m2.sums.o
        have z1:∀y,y<sat st top→e1 top y=0:=fun y hy=>by rw [m2.sums.t,hs.zl top htop y hy,hzlow y hy];simp
        have y1:∀y,y≤sat st top→e1 low y=0:=fun y hy=>by
          rcases Nat.lt_or_eq_of_le hy with z | z
          · rw [m2.sums.l,hs.zl top htop y z,hzlow y z];simp
          · rw [z];exact m2.zero
        have lown:∀i,i<st.length→i≠low:=fun i hi=>by have:=hs.len;omega
        obtain ⟨L2,e2,a1,a2,a3,a4,a5,a6,a7,_⟩:=lrow_ex (cap:=cap) (st:=st) (row:=top) k (top+1) e1 (ups 1 c) m3' (Nat.le_trans (Nat.le_trans (ups_ge _ _) (ups_ge _ _)) hcap) (fun i h3 h4=>⟨by omega,by rw [r1 i (by omega) (lown i (by omega))];exact hs.nz i (by omega)⟩)
        obtain ⟨L3,e3,b1,b2,b3,b4,b5,b6,b7,_⟩:=lrow_ex (cap:=cap) (st:=st) (row:=low) k (top+1) e2 (ups k (ups 1 c)) a2 (Nat.le_trans (ups_ge _ _) hcap) (fun i h3 h4=>⟨lown i (by omega),by rw [a6 i (by omega),r1 i (by omega) (lown i (by omega))];exact hs.nz i (by omega)⟩)
        have zt:∀y,y≤sat st top→∀i,top+1≤i→i<top+1+k→e i y=0:=fun y hy i h3 h4=>hs.zl i (by omega) y (by have:=hs.mono top i (by omega) (by omega);omega)
        have q3:∀x,x≠top→x≠low→∀y,e3 x y=e x y:=fun x h3 h4 y=>by rw [b6 x h4,a6 x h3,r1 x h3 h4]
        have t3:∀y,y≤sat st top→e3 top y=e1 top y:=fun y hy=>by
          rw [b6 top htl,a7 y (fun i h3 h4=>by rw [r1 i (by omega) (lown i (by omega))];exact zt y hy i h3 h4)]
        have l3:∀y,y≤sat st top→e3 low y=0:=fun y hy=>by
          rw [b7 y (fun i h3 h4=>by rw [a6 i (by omega),r1 i (by omega) (lown i (by omega))];exact zt y hy i h3 h4),a6 low (Ne.symm htl)]
          exact y1 y hy
        have hs3:Stairs e3 st w low:=by
          refine ⟨hs.len,hs.lt,hs.mono,fun i hi=>?_,fun i hi y hy=>?_,fun x h3 h4 y=>?_⟩
          · by_cases hi2:i=top
            · subst hi2;rw [t3 _ (Nat.le_refl _)];exact m2.nz
            · rw [q3 i hi2 (lown i hi)];exact hs.nz i hi
          · by_cases hi2:i=top
            · subst hi2;rw [t3 _ (by omega)];exact z1 y hy
            · rw [q3 i hi2 (lown i hi)];exact hs.zl i hi y hy
          · rw [q3 x (by omega) (by omega)];exact hs.zr x h3 h4 y
        have hL:st.length - (top+1)=k:=by omega
        have e3':rapps (L1++(L2++L3)) e=e3:=by rw [rapps_app,rapps_app,m4,a3,b3]
        obtain ⟨L4,top',e',c1,c2,c3,c4,c5,c6,c7,c8,c9,c10,c11⟩:=ih (top+1) e3 (ups k (ups k (ups 1 c))) (by omega) hs3 (e3'▸wide_app hw _) b2 hcap
          (fun i hi y hy=>by
            by_cases hi2:i=top
            · subst hi2;exact l3 y hy
            · have:=hs.mono i top (by omega) htop
              exact l3 y (by omega))
          (fun i h3 h4=>by rw [q3 i (by omega) (lown i h4)];exact hn i (by omega) h4)
        refine ⟨_,top',e',.meet (hc.mono (Nat.le_trans (Nat.le_trans (ups_ge 1 c) (Nat.le_trans (ups_ge _ _) (Nat.le_trans (ups_ge _ _) (ups_ge _ _)))) hcap)) htop h2 m1 (by rw [hL];exact a1) (by rw [hL];exact b1) c1,c2,?_,?_,?_,?_,by omega,c8,c9,c10,?_⟩
        · rw [hsq,ups_add,ups_add,ups_add];exact c3
        · rw [←c4,←e3'];simp only [rapps_app]
        · simp only [List.length_append]
          have e4:(k+1)*(3*n+2*(k+1))=k*(3*n+2*k)+2*k+(3*n+2*k+2):=by grind
          omega
        · intro x hx
          simp only [List.mem_append] at hx
          have:=hs.len
          rcases hx with z | z | z | z
          · exact m6 _ (by omega) (by omega) x z
          · exact a5 _ (by omega) (by omega) x z
          · exact b5 _ (by omega) (by omega) x z
          · exact c6 x z
        · intro x hx y
          have:=hs.len
          rw [c11 x hx,q3 x (by omega) (by omega)]
      · -- on to the next step
        have hlt:sat st top<fp (e low) 0 w:=by omega
        have hcap':ups (k*k) c≤cap:=Nat.le_trans (ups_le (by omega) c) hcap
        obtain ⟨L,top',e',c1,c2,c3,c4,c5,c6,c7,c8,c9,c10,c11⟩:=ih (top+1) e c (by omega) hs hw hc hcap'
          (fun i hi y hy=>by
            by_cases hi2:i=top
            · subst hi2;exact fp_zero (e low) w 0 y (by omega) (by omega)
            · exact hz i (by omega) y hy)
          (fun i h3 h4=>hn i (by omega) h4)
        refine ⟨L,top',e',.skip (hc.mono (Nat.le_trans (ups_ge _ _) hcap)) htop hlt c1,c2,c3.mono (ups_le (by omega) c),c4,?_,c6,by omega,c8,c9,c10,c11⟩
        have e4:(k+1)*(3*n+2*(k+1))=k*(3*n+2*k)+2*k+(3*n+2*k+2):=by grind
        omega
    · exact ⟨[],top,e,.stop (hc.mono (Nat.le_trans (ups_ge _ _) hcap)) (fun h=>h1 h.2),hs,hc.mono (ups_ge _ _),rfl,by simp,fun x hx=>absurd hx (by simp),Nat.le_refl _,by omega,hz,fun h=>by omega,fun _ _ _=>rfl⟩
end E1
namespace Dt
section
variable {R C:Type}
def S (f:List C→Int) (e:C→Int):List C→List C→Int
  | _,[]=>0
  | pre,c::post=>e c*f (pre++post) - S f e (pre++[c]) post
def det (e:R→C→Int):List R→List C→Int
  | [],[]=>1
  | [],_::_=>0
  | r::rs,J=>S (det e rs) (e r) [] J
theorem S_lin_e {f:List C→Int} {e u v:C→Int} {m:Int} (h:∀c,e c=u c+m*v c) :
    ∀post pre,S f e pre post=S f u pre post+m*S f v pre post
  | [],pre=>by simp [S]
  | c::post,pre=>by
    simp only [S]
    rw [S_lin_e h post,h c]
    grind
theorem S_lin_f {f g k:List C→Int} {e:C→Int} {m:Int} (h:∀l,f l=g l+m*k l) :
    ∀post pre,S f e pre post=S g e pre post+m*S k e pre post
  | [],pre=>by simp [S]
  | c::post,pre=>by
    simp only [S]
    rw [S_lin_f h post,h]
    grind
theorem S_zero_f {f:List C→Int} {e:C→Int} (h:∀l,f l=0):∀post pre,S f e pre post=0
  | [],pre=>by simp [S]
  | c::post,pre=>by simp only [S];rw [S_zero_f h post,h];simp
theorem S_zero_e {f:List C→Int} {e:C→Int}:∀post pre,(∀c∈post,e c=0)→S f e pre post=0
  | [],pre,_=>by simp [S]
  | c::post,pre,h=>by
    simp only [S]
    rw [S_zero_e post _ (fun x hx=>h x (List.mem_cons_of_mem _ hx)),h c (List.mem_cons_self ..)];simp
theorem S_scale_f {f g:List C→Int} {e:C→Int} {m:Int} (h:∀l,f l=m*g l) :
    ∀post pre,S f e pre post=m*S g e pre post
  | [],pre=>by simp [S]
  | c::post,pre=>by
    simp only [S];rw [S_scale_f h post,h];grind
theorem det_row {e:R→C→Int} {w u v:R} {m:Int} (h:∀c,e w c=e u c+m*e v c) (Q:List R) :
    ∀(P:List R) (J:List C),det e (P++w::Q) J=det e (P++u::Q) J+m*det e (P++v::Q) J
  | [],J=>by simp only [List.nil_append,det];exact S_lin_e h J []
  | r::P,J=>by
    simp only [List.cons_append,det]
    exact S_lin_f (fun l=>det_row h Q P l) J []
theorem S_col_pre {f:List C→Int} {e:C→Int} {w u v:C} {m:Int}
    (hf:∀P Q,f (P++w::Q)=f (P++u::Q)+m*f (P++v::Q)) (P:List C) :
    ∀post Q,S f e (P++w::Q) post=S f e (P++u::Q) post+m*S f e (P++v::Q) post
  | [],Q=>by simp [S]
  | c::post,Q=>by
    simp only [S,List.append_assoc,List.cons_append]
    rw [hf,S_col_pre hf P post (Q++[c])]
    grind
theorem S_col {f:List C→Int} {e:C→Int} {w u v:C} {m:Int}
    (hf:∀P Q,f (P++w::Q)=f (P++u::Q)+m*f (P++v::Q)) (he:e w=e u+m*e v)
    (hff:∀P Q,f (P++w::Q)=f (P++w::Q)) (Q:List C) :
    ∀P pre,S f e pre (P++w::Q)=S f e pre (P++u::Q)+m*S f e pre (P++v::Q)
  | [],pre=>by
    simp only [List.nil_append,S]
    rw [he,S_col_pre hf pre Q []]
    grind
  | c::P,pre=>by
    simp only [List.cons_append,S]
    rw [S_col hf he hff Q P]
    have:=hf (pre++P) Q
    simp only [List.append_assoc] at this
    rw [this]
    grind
theorem det_col {e:R→C→Int} {w u v:C} {m:Int}:∀(I:List R),(∀r∈I,e r w=e r u+m*e r v)→∀(P Q:List C),
    det e I (P++w::Q)=det e I (P++u::Q)+m*det e I (P++v::Q)
  | [],_,P,Q=>by cases P <;> simp [det]
  | r::I,h,P,Q=>by
    simp only [det]
    exact S_col (fun P Q=>det_col I (fun x hx=>h x (List.mem_cons_of_mem _ hx)) P Q) (h r (List.mem_cons_self ..)) (fun _ _=>rfl) Q P []
theorem det_col_zero {e:R→C→Int} {w:C} {I:List R} (h:∀r∈I,e r w=0) (P Q:List C):det e I (P++w::Q)=0:=by
  have:=det_col (e:=e) (w:=w) (u:=w) (v:=w) (m:=-1) I (fun r hr=>by rw [h r hr];rfl) P Q
  omega
theorem det_row_zero {e:R→C→Int} {w:R}:∀{I:List R},w∈I→∀{J:List C},(∀c∈J,e w c=0)→det e I J=0:=by
  intro I hw J hJ
  obtain ⟨P,Q,rfl⟩:=List.append_of_mem hw
  clear hw
  induction P generalizing J with
  | nil=>simp only [List.nil_append,det];exact S_zero_e J [] hJ
  | cons r P ih =>
    simp only [List.cons_append,det]
    have key:∀post pre,(∀c∈pre++post,e w c=0)→S (det e (P++w::Q)) (e r) pre post=0:=by
      intro post
      induction post with
      | nil=>intros;simp [S]
      | cons c post ihp =>
        intro pre hc
        simp only [S]
        rw [ih (J:=pre++post) (fun x hx=>hc x (by simp at hx ⊢;rcases hx with z | z <;> simp [z])),ihp _ (fun x hx=>hc x (by simp at hx ⊢;rcases hx with z | z | z <;> simp [z]))]
        simp
    exact key J [] (by simpa using hJ)
theorem S_map {D:Type} {f:List C→Int} {e:C→Int} (p:D→C):∀post pre,S f e (pre.map p) (post.map p)=S (fun l=>f (l.map p)) (fun d=>e (p d)) pre post
  | [],pre=>by simp [S]
  | c::post,pre=>by
    simp only [List.map_cons,S,List.map_append]
    have:=S_map (f:=f) (e:=e) p post (pre++[c])
    simp only [List.map_append,List.map_cons,List.map_nil] at this
    rw [this]
theorem det_map {R' C':Type} (e:R→C→Int) (p:R'→R) (q:C'→C):∀I J,det e (I.map p) (J.map q)=det (fun i j=>e (p i) (q j)) I J
  | [],J=>by cases J <;> simp [det]
  | r::I,J=>by
    simp only [List.map_cons,det]
    have:=S_map (f:=det e (I.map p)) (e:=e (p r)) q J []
    simp only [List.map_nil] at this
    rw [this]
    congr 1
    funext l
    exact det_map e p q I l
def W (f:List C→Int) (e:C→Int):List C→List C→List C→Int
  | _,[],_=>0
  | A,c::B,D=>e c*f (A++B++D) - W f e (A++[c]) B D
def sg:Nat→Int
  | 0=>1
  | n+1=>- sg n
theorem S_W (f:List C→Int) (e:C→Int):∀post pre,S f e pre post=W f e pre post []
  | [],_=>by simp [S,W]
  | c::post,pre=>by simp only [S,W,List.append_nil];rw [S_W f e post]
theorem W_app (f:List C→Int) (e:C→Int):∀B A D E,W f e A (B++D) E=W f e A B (D++E)+sg B.length*W f e (A++B) D E
  | [],A,D,E=>by simp [W,sg]
  | c::B,A,D,E=>by
    simp only [List.cons_append,W,List.length_cons,sg]
    rw [W_app f e B (A++[c]) D E]
    simp only [List.append_assoc,List.cons_append,List.nil_append]
    grind
def X (f:List C→Int) (e:C→Int):List C→List C→List C→Int
  | _,_,[]=>0
  | pre,don,c::post=>e c*W f e [] pre (don++post) - X f e pre (don++[c]) post
theorem X_step (f:List C→Int) (e:C→Int) (c:C) (pre:List C) :
    ∀post don,X f e (pre++[c]) don post=X f e pre (c::don) post+sg pre.length*(e c*W f e (pre++don) post [])
  | [],don=>by simp [X,W]
  | d::post,don=>by
    simp only [X,W]
    rw [X_step f e c pre post (don++[d]),W_app]
    simp only [W,List.nil_append,List.append_assoc,List.cons_append,List.append_nil]
    grind
theorem Q_X (f:List C→Int) (e:C→Int):∀post pre,S (S f e []) e pre post=X f e pre [] post
  | [],pre=>by simp [S,X]
  | c::post,pre=>by
    simp only [S,X]
    rw [Q_X f e post,X_step,S_W,W_app]
    simp only [List.nil_append,List.append_nil]
    grind
theorem X_nil (f:List C→Int) (e:C→Int):∀post don,X f e [] don post=0
  | [],_=>by simp [X]
  | c::post,don=>by simp only [X,W];rw [X_nil f e post];simp
theorem det_row_two {e:R→C→Int} (r:R) (I:List R) (J:List C):det e (r::r::I) J=0:=by
  have:det e (r::r::I) J=S (S (det e I) (e r) []) (e r) [] J:=by simp only [det]
  rw [this,Q_X,X_nil]
end
section
variable {C:Type}
def ap (r:C→Int) (c:C):Int:=r c
theorem det_ap {R:Type} (e:R→C→Int) (I:List R) (J:List C):det e I J=det ap (I.map e) J:=by
  have:=det_map (ap (C:=C)) e (id:C→C) I J
  simp only [List.map_id] at this
  rw [this];rfl
theorem row_swap (f g:C→Int) (I:List (C→Int)) (J:List C):det ap (f::g::I) J=- det ap (g::f::I) J:=by
  have hw:∀c,ap (fun c=>f c+g c) c=ap f c+1*ap g c:=fun c=>by simp [ap]
  have h0:=det_row_two (e:=ap) (fun c=>f c+g c) I J
  have h1:=det_row (e:=ap) hw ((fun c=>f c+g c)::I) [] J
  have h2:=det_row (e:=ap) hw I [f] J
  have h3:=det_row (e:=ap) hw I [g] J
  have h4:=det_row_two (e:=ap) f I J
  have h5:=det_row_two (e:=ap) g I J
  simp only [List.nil_append,List.cons_append] at h1 h2 h3
  omega
theorem row_perm' {I I':List (C→Int)} (h:I.Perm I'):∃s:Int,(s=1∨s=-1)∧∀J,det ap I' J=s*det ap I J:=by
  induction h with
  | nil=>exact ⟨1,Or.inl rfl,fun J=>by simp⟩
  | cons x _ ih =>
    obtain ⟨s,hs,h⟩:=ih
    refine ⟨s,hs,fun J=>?_⟩
    simp only [det]
    exact S_scale_f h J []
  | swap x y l=>exact ⟨-1,Or.inr rfl,fun J=>by rw [row_swap];omega⟩
  | trans _ _ ih1 ih2 =>
    obtain ⟨s,hs,h⟩:=ih1
    obtain ⟨t,ht,h'⟩:=ih2
    refine ⟨t*s,?_,fun J=>by rw [h',h,Int.mul_assoc]⟩
    rcases hs with rfl | rfl <;> rcases ht with rfl | rfl <;> simp
theorem row_perm {R:Type} {e:R→C→Int} {I I':List R} (h:I.Perm I'):∃s:Int,(s=1∨s=-1)∧∀J,det e I' J=s*det e I J:=by
  obtain ⟨s,hs,h⟩:=row_perm' (h.map e)
  exact ⟨s,hs,fun J=>by rw [det_ap,h,←det_ap]⟩
theorem row_dup {R:Type} [DecidableEq R] {e:R→C→Int}:∀{I:List R},¬ I.Nodup→∀J,det e I J=0
  | [],h,J=>absurd List.nodup_nil h
  | x::I,h,J=>by
    by_cases hx:x∈I
    · obtain ⟨s,_,hp⟩:=row_perm (e:=e) ((List.perm_cons_erase hx).symm.cons x)
      have:=hp J
      rw [det_row_two] at this
      have h2:∃s:Int,(s=1∨s=-1)∧∀J,det e (x::I) J=s*det e (x::x::I.erase x) J:=row_perm ((List.perm_cons_erase hx).symm.cons x)
      obtain ⟨s,_,h2⟩:=h2
      rw [h2,det_row_two];simp
    · simp only [det]
      exact S_zero_f (fun l=>row_dup (fun hn=>h (List.nodup_cons.mpr ⟨hx,hn⟩)) l) J []
end
section
variable {R:Type}
def pa (r:R) (c:R→Int):Int:=c r
end
theorem rows_go {R C:Type} {e:R→C→Int} {e':R→C→Int} {g:Int} {J:List C} {k:Nat}
    (h:∀x,∃u v m,∀c,e' x c=e u c+m*e v c) (hg:∀I,I.length=k→g∣det e I J):∀I,I.length=k→g∣det e' I J:=by
  have key:∀(I2 I1:List R),I1.length+I2.length=k→g∣det ap (I1.map e++I2.map e') J:=by
    intro I2
    induction I2 with
    | nil=>intro I1 hl;simp only [List.map_nil,List.append_nil];rw [←det_ap];exact hg I1 (by simpa using hl)
    | cons x I2 ih =>
      intro I1 hl
      obtain ⟨u,v,m,hc⟩:=h x
      simp only [List.map_cons]
      rw [det_row (e:=ap) (w:=e' x) (u:=e u) (v:=e v) hc]
      have h1:=ih (I1++[u]) (by simp at hl ⊢;omega)
      have h2:=ih (I1++[v]) (by simp at hl ⊢;omega)
      simp only [List.map_append,List.map_cons,List.map_nil,List.append_assoc,List.cons_append,List.nil_append] at h1 h2
      exact Int.dvd_add h1 (Int.dvd_mul_of_dvd_right h2)
  intro I hl
  rw [det_ap]
  simpa using key I [] (by simpa using hl)
section
variable {R C:Type}
theorem peel_low {e:R→C→Int} {i:R} {I:List R} {c:C} {J:List C} (h:∀d∈J,e i d=0):det e (i::I) (c::J)=e i c*det e I J:=by
  simp only [det,S,List.nil_append]
  rw [S_zero_e J _ h];simp
theorem peel_up {e:R→C→Int} {i:R} {I:List R} {c:C} {J:List C} (h:∀r∈I,e r c=0):det e (i::I) (c::J)=e i c*det e I J:=by
  simp only [det,S,List.nil_append]
  have key:∀post pre,S (det e I) (e i) (c::pre) post=0:=by
    intro post
    induction post with
    | nil=>intro;simp [S]
    | cons d post ih =>
      intro pre
      simp only [S,List.cons_append]
      have:=det_col_zero (e:=e) (I:=I) h [] (pre++post)
      simp only [List.nil_append] at this
      rw [this,ih];simp
  rw [key J []];simp
def fac:Nat→Nat
  | 0=>1
  | n+1=>(n+1)*fac n
theorem S_le {f:List C→Int} {e:C→Int} {B F n:Nat} (he:∀c,(e c).natAbs≤B) (hf:∀l,l.length=n→(f l).natAbs≤F) :
    ∀post pre,pre.length+post.length=n+1→(S f e pre post).natAbs≤post.length*(B*F)
  | [],pre,_=>by simp [S]
  | c::post,pre,h=>by
    simp only [S,List.length_cons]
    have h1:=S_le he hf post (pre++[c]) (by simp at h ⊢;omega)
    have h2:(e c*f (pre++post)).natAbs≤B*F:=by
      rw [Int.natAbs_mul];exact Nat.mul_le_mul (he c) (hf _ (by simp at h ⊢;omega))
    have h3:(post.length+1)*(B*F)=post.length*(B*F)+B*F:=Nat.succ_mul _ _
    omega
theorem det_le {e:R→C→Int} {B:Nat}:∀(I:List R),(∀r∈I,∀c,(e r c).natAbs≤B)→∀J:List C,J.length=I.length→(det e I J).natAbs≤fac I.length*B^I.length
  | [],_,J,hJ=>by
    have:J=[]:=List.length_eq_zero_iff.mp (by simpa using hJ)
    subst this;simp [det,fac]
  | r::I,h,J,hJ=>by
    simp only [det]
    have h1:=S_le (f:=det e I) (e:=e r) (F:=fac I.length*B^I.length) (n:=I.length) (h r (List.mem_cons_self ..)) (fun l hl=>det_le I (fun x hx=>h x (List.mem_cons_of_mem _ hx)) l hl) J [] (by simpa using hJ)
    have h2:J.length*(B*(fac I.length*B^I.length))=fac (r::I).length*B^(r::I).length:=by
      rw [hJ];simp only [List.length_cons,fac,Nat.pow_succ];grind
    omega
def pr (d:R→Int):List R→Int
  | []=>1
  | i::I=>d i*pr d I
theorem pr_perm {d:R→Int} {I I':List R} (h:I.Perm I'):pr d I=pr d I':=by
  induction h with
  | nil=>rfl
  | cons x _ ih=>simp only [pr,ih]
  | swap x y l=>simp only [pr];grind
  | trans _ _ ih1 ih2=>rw [ih1,ih2]
theorem pr_app {d:R→Int} (I I':List R):pr d (I++I')=pr d I*pr d I':=by
  induction I with
  | nil=>simp [pr]
  | cons x I ih=>simp only [List.cons_append,pr,ih];grind
theorem pr_zero {d:R→Int} {I:List R}:pr d I=0↔∃i∈I,d i=0:=by
  induction I with
  | nil=>simp [pr]
  | cons x I ih=>simp only [pr,Int.mul_eq_zero,ih];simp
end
theorem pigeon:∀(n:Nat) {I:List Nat},I.Nodup→(∀x∈I,x<n)→I.length≤n
  | 0,I,_,h=>by
    cases I with
    | nil=>simp
    | cons x I=>exact absurd (h x (List.mem_cons_self ..)) (by omega)
  | n+1,I,hn,h=>by
    by_cases hx:n∈I
    · have h1:=List.length_erase_of_mem hx
      have h2:=pigeon n (hn.erase n) (fun x hx'=>by
        have h3:=h x (List.mem_of_mem_erase hx')
        have h4:x≠n:=fun e=>by subst e;exact hn.not_mem_erase hx'
        omega)
      omega
    · have:=pigeon n hn (fun x hx'=>by
        have h3:=h x hx'
        have h4:x≠n:=fun e=>hx (e▸hx')
        omega)
      omega
theorem perm_range:∀(n:Nat) {I:List Nat},I.Nodup→(∀x∈I,x<n)→I.length=n→I.Perm (List.range n)
  | 0,I,_,_,hl=>by
    have:I=[]:=List.length_eq_zero_iff.mp hl
    subst this;exact List.Perm.refl _
  | n+1,I,hn,h,hl=>by
    by_cases hx:n∈I
    · have h1:=List.length_erase_of_mem hx
      have h2:=perm_range n (hn.erase n) (fun x hx'=>by
        have h3:=h x (List.mem_of_mem_erase hx')
        have h4:x≠n:=fun e=>by subst e;exact hn.not_mem_erase hx'
        omega) (by omega)
      rw [List.range_succ]
      refine (List.perm_cons_erase hx).trans ?_
      refine (h2.cons n).trans ?_
      exact (List.perm_append_singleton n (List.range n)).symm
    · have:=pigeon n hn (fun x hx'=>by
        have h3:=h x hx'
        have h4:x≠n:=fun e=>hx (e▸hx')
        omega)
      omega
end Dt
namespace E1
def downs (top:Nat):Nat→List RC
  | 0=>[]
  | k+1=>.swap (top+k+1) (top+k)::downs top k
theorem downs_app (top:Nat):∀(k:Nat) (e:Tab) (x y:Nat),rapps (downs top k) e x y=e (if x<top then x else if x=top then top+k else if x≤top+k then x - 1 else x) y
  | 0,e,x,y=>by
    simp only [downs,rapps_nil,Nat.add_zero]
    congr 1
    split
    · rfl
    · split
      · assumption
      · rw [if_neg (by omega)]
  | k+1,e,x,y=>by
    simp only [downs,rapps_cons]
    rw [downs_app top k]
    simp only [RC.app,swapR,sw]
    congr 1
    by_cases h1:x<top
    · simp only [if_pos h1];rw [if_neg (by omega),if_neg (by omega)]
    · simp only [if_neg h1]
      by_cases h2:x=top
      · simp only [if_pos h2];rw [if_neg (by omega),if_pos trivial];omega
      · simp only [if_neg h2]
        by_cases h3:x≤top+k
        · simp only [if_pos h3];rw [if_neg (by omega),if_neg (by omega),if_pos (by omega)]
        · simp only [if_neg h3]
          by_cases h4:x=top+k+1
          · rw [if_pos h4,if_pos (by omega)];omega
          · rw [if_neg h4,if_neg (by omega),if_neg (by omega)]
def liftL (low top m:Nat):List RC:=(if low=m then [] else [.swap low m])++downs top (m - top)
theorem lift_app {low top m:Nat} (h1:top≤m) (h2:m≤low) (e:Tab) (x y:Nat) :
    rapps (liftL low top m) e x y=e (if x<top then x else if x=top then low else if x≤m then x - 1 else if x=low then m else x) y:=by
  unfold liftL
  rw [rapps_app,downs_app]
  by_cases hl:low=m
  · subst hl
    simp only [if_pos,rapps_nil]
    have:top+(low - top)=low:=by omega
    rw [this]
    congr 1
    by_cases h3:x<top
    · simp only [if_pos h3]
    · simp only [if_neg h3]
      by_cases h4:x=top
      · simp only [if_pos h4]
      · simp only [if_neg h4]
        by_cases h5:x≤low
        · simp only [if_pos h5]
        · simp only [if_neg h5];rw [if_neg (by omega)]
  · simp only [if_neg hl,rapps_cons,rapps_nil,RC.app,swapR,sw]
    have:top+(m - top)=m:=by omega
    rw [this]
    congr 1
    by_cases h3:x<top
    · simp only [if_pos h3];rw [if_neg (by omega),if_neg (by omega)]
    · simp only [if_neg h3]
      by_cases h4:x=top
      · simp only [if_pos h4];rw [if_neg (by omega),if_pos trivial]
      · simp only [if_neg h4]
        by_cases h5:x≤m
        · simp only [if_pos h5];rw [if_neg (by omega),if_neg (by omega)]
        · simp only [if_neg h5]
          by_cases h6:x=low
          · simp only [if_pos h6]
          · simp only [if_neg h6];rw [if_neg (by omega)]
theorem downs_ok {top:Nat}:∀{k n:Nat},top+k<n→∀c∈downs top k,c.ok n
  | 0,n,_,c,hc=>absurd hc (by simp [downs])
  | k+1,n,h,c,hc=>by
    simp only [downs,List.mem_cons] at hc
    rcases hc with z | z
    · subst z;exact ⟨by omega,by omega,by omega⟩
    · exact downs_ok (by omega) c z
theorem downs_len (top:Nat):∀k,(downs top k).length=k
  | 0=>rfl
  | k+1=>by simp [downs,downs_len top k]
theorem lift_ok {low top m:Nat} (h1:top≤m) (h2:m≤low):∀c∈liftL low top m,c.ok (low+1):=by
  intro c hc
  unfold liftL at hc
  rcases List.mem_append.mp hc with z | z
  · split at z
    · simp at z
    · simp at z;subst z;exact ⟨by omega,by omega,by assumption⟩
  · exact downs_ok (by omega) c z
theorem lift_len (low top m:Nat):(liftL low top m).length≤m+1:=by
  unfold liftL
  rw [List.length_append,downs_len]
  split <;> simp <;> omega
theorem Le.app_swap {c:Nat} {e e':Tab} (h:Le c e) (f:Nat→Nat) (he:∀x y,e' x y=e (f x) y):Le c e':=fun x y=>by rw [he];exact h _ _
def ins (st:List Nat) (top place:Nat):List Nat:=st.take top++place::st.drop top
theorem ins_len {st:List Nat} {top place:Nat} (h:top≤st.length):(ins st top place).length=st.length+1:=by
  unfold ins;simp;omega
theorem ins_sat {st:List Nat} {top place:Nat} (h:top≤st.length) (i:Nat):sat (ins st top place) i=if i<top then sat st i else if i=top then place else sat st (i - 1):=by
  unfold sat ins
  simp only [List.getD_eq_getElem?_getD]
  by_cases h1:i<top
  · rw [if_pos h1,List.getElem?_append_left (by simp;omega),List.getElem?_take_of_lt h1]
  · rw [if_neg h1,List.getElem?_append_right (by simp;omega)]
    have:(st.take top).length=top:=by simp;omega
    rw [this]
    by_cases h2:i=top
    · rw [if_pos h2,h2];simp
    · rw [if_neg h2]
      obtain ⟨d,hd⟩:∃d,i=top+d+1:=⟨i - top - 1,by omega⟩
      subst hd
      have:top+d+1 - top=d+1:=by omega
      rw [this,List.getElem?_cons_succ,List.getElem?_drop]
      have:top+d+1 - 1=top+d:=by omega
      rw [this]
theorem lift_stairs {e e':Tab} {st:List Nat} {w low top:Nat} (hs:Stairs e st w low) (ht:top≤st.length)
    (hz:∀i,i<top→∀y,y≤sat st i→e low y=0) (hf:top<st.length→fp (e low) 0 w<sat st top) (hp:fp (e low) 0 w<w)
    (he:e'=rapps (liftL low top st.length) e):Stairs e' (ins st top (fp (e low) 0 w)) w (low+1):=by
  have ha:∀x y,e' x y=e (if x<top then x else if x=top then low else if x≤st.length then x - 1 else if x=low then st.length else x) y:=fun x y=>by
    rw [he];exact lift_app ht hs.len e x y
  have hnz:=fp_nz (e low) w 0 (by omega)
  have hfz:∀y,y<fp (e low) 0 w→e low y=0:=fun y hy=>fp_zero (e low) w 0 y (by omega) hy
  have hgt:∀i,i<top→sat st i<fp (e low) 0 w:=fun i hi=>fp_gt (hs.lt i (by omega)) (fun z hzz=>hz i hi z hzz)
  have hlen:=hs.len
  refine ⟨by rw [ins_len ht];omega,?_,?_,?_,?_,?_⟩
  · intro i hi
    rw [ins_len ht] at hi
    rw [ins_sat ht]
    by_cases h1:i<top
    · rw [if_pos h1];exact hs.lt i (by omega)
    · rw [if_neg h1]
      by_cases h2:i=top
      · rw [if_pos h2];exact hp
      · rw [if_neg h2];exact hs.lt _ (by omega)
  · intro i j hij hj
    rw [ins_len ht] at hj
    rw [ins_sat ht,ins_sat ht]
    by_cases h1:j<top
    · rw [if_pos h1,if_pos (by omega)];exact hs.mono i j hij (by omega)
    · rw [if_neg h1]
      by_cases h2:j=top
      · rw [if_pos h2,if_pos (by omega)];exact hgt i (by omega)
      · rw [if_neg h2]
        by_cases h3:i<top
        · rw [if_pos h3];exact hs.mono i (j - 1) (by omega) (by omega)
        · rw [if_neg h3]
          by_cases h4:i=top
          · rw [if_pos h4]
            have h5:=hf (by omega)
            rcases Nat.lt_or_ge top (j - 1) with z | z
            · have:=hs.mono top (j - 1) z (by omega);omega
            · have:j - 1=top:=by omega
              rw [this];exact h5
          · rw [if_neg h4];exact hs.mono _ _ (by omega) (by omega)
  · intro i hi
    rw [ins_len ht] at hi
    rw [ins_sat ht,ha]
    by_cases h1:i<top
    · simp only [if_pos h1];exact hs.nz i (by omega)
    · simp only [if_neg h1]
      by_cases h2:i=top
      · simp only [if_pos h2];exact hnz
      · simp only [if_neg h2];rw [if_pos (by omega)];exact hs.nz _ (by omega)
  · intro i hi y hy
    rw [ins_len ht] at hi
    rw [ins_sat ht] at hy
    rw [ha]
    by_cases h1:i<top
    · simp only [if_pos h1] at hy ⊢;exact hs.zl i (by omega) y hy
    · simp only [if_neg h1] at hy ⊢
      by_cases h2:i=top
      · simp only [if_pos h2] at hy ⊢;exact hfz y hy
      · simp only [if_neg h2] at hy ⊢;rw [if_pos (by omega)];exact hs.zl _ (by omega) y hy
  · intro x h1 h2 y
    rw [ins_len ht] at h1
    rw [ha,if_neg (by omega),if_neg (by omega),if_neg (by omega)]
    by_cases h3:x=low
    · rw [if_pos h3];exact hs.zr _ (Nat.le_refl _) (by omega) y
    · rw [if_neg h3];exact hs.zr x (by omega) (by omega) y
def Red (cap:Nat) (st:List Nat):Nat→Tab→List RC→Tab→Prop
  | 0,e,L,e'=>Le cap e∧L=[]∧e'=e
  | k+1,e,L,e'=>∃L1 e1 L2,LRow cap st k (k+1) (st.length - (k+1)) e L1 e1∧Red cap st k e1 L2 e'∧L=L1++L2
def so (m:Nat):Nat→Nat
  | 0=>0
  | k+1=>(m - (k+1))+so m k
theorem red_ex {cap w n:Nat} {st:List Nat}:∀(k:Nat) (e:Tab) (c:Nat),k≤st.length→Stairs e st w n→Le c e→ups (so st.length k) c≤cap →
    ∃L e',Red cap st k e L e'∧Stairs e' st w n∧Le (ups (so st.length k) c) e'∧rapps L e=e'∧L.length≤so st.length k∧(∀x∈L,x.ok n) ∧
      (∀x,k≤x→∀y,e' x y=e x y)∧(∀i,i<st.length→e' i (sat st i)=e i (sat st i)) ∧
      (∀i t,i<k→i<t→t<st.length→2*(e' i (sat st t)).natAbs≤(e' t (sat st t)).natAbs)
  | 0,e,c,hk,hs,hc,hcap=>⟨[],e,⟨hc.mono hcap,rfl,rfl⟩,hs,hc,rfl,by simp,fun x hx=>absurd hx (by simp),fun _ _ _=>rfl,fun _ _=>rfl,fun i t h _ _=>absurd h (by omega)⟩
  | k+1,e,c,hk,hs,hc,hcap=>by
    simp only [so] at hcap ⊢
    rw [ups_add] at hcap
    obtain ⟨L1,e1,a1,a2,a3,a4,a5,a6,a7,a8⟩:=lrow_ex (cap:=cap) (st:=st) (row:=k) (st.length - (k+1)) (k+1) e c hc (Nat.le_trans (ups_ge _ _) hcap)
      (fun i h1 h2=>⟨by omega,hs.nz i (by omega)⟩)
    have zt:∀y,y≤sat st k→∀i,k+1≤i→i<k+1+(st.length - (k+1))→e i y=0:=fun y hy i h3 h4=>hs.zl i (by omega) y (by have:=hs.mono k i (by omega) (by omega);omega)
    have hk1:∀y,y≤sat st k→e1 k y=e k y:=fun y hy=>a7 y (zt y hy)
    have hs1:Stairs e1 st w n:=by
      refine ⟨hs.len,hs.lt,hs.mono,fun i hi=>?_,fun i hi y hy=>?_,fun x h3 h4 y=>?_⟩
      · by_cases h:i=k
        · subst h;rw [hk1 _ (Nat.le_refl _)];exact hs.nz i hi
        · rw [a6 i h];exact hs.nz i hi
      · by_cases h:i=k
        · subst h;rw [hk1 _ (by omega)];exact hs.zl i hi y hy
        · rw [a6 i h];exact hs.zl i hi y hy
      · rw [a6 x (by omega)];exact hs.zr x h3 h4 y
    obtain ⟨L2,e',b1,b2,b3,b4,b5,b6,b7,b8,b9⟩:=red_ex k e1 (ups (st.length - (k+1)) c) (by omega) hs1 a2 hcap
    refine ⟨L1++L2,e',⟨L1,e1,L2,a1,b1,rfl⟩,b2,by rw [ups_add];exact b3,by rw [rapps_app,a3,b4],by rw [List.length_append];omega,?_,?_,?_,?_⟩
    · intro x hx
      have:=hs.len
      rcases List.mem_append.mp hx with z | z
      · exact a5 n (by omega) (by omega) x z
      · exact b6 x z
    · intro x hx y;rw [b7 x (by omega),a6 x (by omega)]
    · intro i hi
      rw [b8 i hi]
      by_cases h:i=k
      · subst h;exact hk1 _ (Nat.le_refl _)
      · exact a6 i h _
    · intro i t h1 h2 h3
      by_cases h:i=k
      · subst h
        have:=a8 (fun p q h4 h5 h6=>hs.zl q (by omega) _ (hs.mono p q h5 (by omega))) t (by omega) (by omega)
        rw [b7 i (Nat.le_refl _),b7 t (by omega),a6 t (by omega)]
        exact this
      · exact b9 i t (by omega) h2 h3
open Dt
def cut (n:Nat) (e:Tab):Tab:=fun x y=>if x<n then e x y else 0
def Cmb (e e':Tab):Prop:=∀x,∃u v m,∀c,e' x c=e u c+m*e v c
theorem cmb_app {n:Nat} {c:RC} (h:c.ok n) (e:Tab):Cmb (cut n e) (cut n (c.app e))∧Cmb (cut n (c.app e)) (cut n e):=by
  cases c with
  | add i j q =>
    obtain ⟨hi,hj,hij⟩:=h
    refine ⟨fun x=>?_,fun x=>?_⟩
    · by_cases hx:x=i
      · subst hx;exact ⟨x,j,q,fun c=>by simp [cut,RC.app,addR,hi,hj]⟩
      · exact ⟨x,x,0,fun c=>by simp [cut,RC.app,addR,hx]⟩
    · by_cases hx:x=i
      · subst hx;exact ⟨x,j,-q,fun c=>by simp [cut,RC.app,addR,hi,hj,Ne.symm hij];grind⟩
      · exact ⟨x,x,0,fun c=>by simp [cut,RC.app,addR,hx]⟩
  | swap i j =>
    obtain ⟨hi,hj,hij⟩:=h
    have hs:∀x,sw i j x<n↔x<n:=fun x=>by
      unfold sw;split
      · omega
      · split <;> omega
    have hss:∀x,sw i j (sw i j x)=x:=fun x=>by
      unfold sw
      by_cases h1:x=i
      · simp only [if_pos h1];rw [if_neg (Ne.symm hij),if_pos trivial];exact h1.symm
      · by_cases h2:x=j
        · simp only [if_neg h1,if_pos h2,if_pos];exact h2.symm
        · simp only [if_neg h1,if_neg h2]
    refine ⟨fun x=>⟨sw i j x,x,0,fun c=>?_⟩,fun x=>⟨sw i j x,x,0,fun c=>?_⟩⟩
    · simp only [cut,RC.app,swapR,hs];omega
    · simp only [cut,RC.app,swapR,hs,hss];omega
  | turn i =>
    have hi:i<n:=h
    refine ⟨fun x=>?_,fun x=>?_⟩
    · by_cases hx:x=i
      · subst hx;exact ⟨x,x,-2,fun c=>by simp [cut,RC.app,turnR,hi];omega⟩
      · exact ⟨x,x,0,fun c=>by simp [cut,RC.app,turnR,hx]⟩
    · by_cases hx:x=i
      · subst hx;exact ⟨x,x,-2,fun c=>by simp [cut,RC.app,turnR,hi];omega⟩
      · exact ⟨x,x,0,fun c=>by simp [cut,RC.app,turnR,hx]⟩
theorem go_rows {n k:Nat} {g:Int} {J:List Nat}:∀(L:List RC) (e:Tab),(∀c∈L,c.ok n) →
    ((∀I:List Nat,I.length=k→g∣det (cut n e) I J)↔(∀I:List Nat,I.length=k→g∣det (cut n (rapps L e)) I J))
  | [],e,_=>Iff.rfl
  | c::L,e,h=>by
    rw [rapps_cons,←go_rows L (c.app e) (fun x hx=>h x (List.mem_cons_of_mem _ hx))]
    obtain ⟨h1,h2⟩:=cmb_app (h c (List.mem_cons_self ..)) e
    exact ⟨fun hg=>rows_go h1 hg,fun hg=>rows_go h2 hg⟩
theorem S_le2 {C:Type} {f:List C→Int} {e:C→Int} {B F n:Nat} (hf:∀l,l.length=n→(f l).natAbs≤F) :
    ∀post pre,(∀c∈post,(e c).natAbs≤B)→pre.length+post.length=n+1→(S f e pre post).natAbs≤post.length*(B*F)
  | [],pre,_,_=>by simp [S]
  | c::post,pre,he,h=>by
    simp only [S,List.length_cons]
    have h1:=S_le2 hf post (pre++[c]) (fun x hx=>he x (List.mem_cons_of_mem _ hx)) (by simp at h ⊢;omega)
    have h2:(e c*f (pre++post)).natAbs≤B*F:=by
      rw [Int.natAbs_mul];exact Nat.mul_le_mul (he c (List.mem_cons_self ..)) (hf _ (by simp at h ⊢;omega))
    have h3:(post.length+1)*(B*F)=post.length*(B*F)+B*F:=Nat.succ_mul _ _
    omega
theorem peel_steps {e:Tab} {s:Nat→Nat} {k m:Nat} (J:List Nat):∀(b a:Nat),a+b+k=m→(∀i j,i<j→j<m→e j (s i)=0) →
    det e (List.range' a (b+k)) ((List.range' a b).map s++J)=pr (fun i=>e i (s i)) (List.range' a b)*det e (List.range' (a+b) k) J
  | 0,a,_,_=>by simp [pr]
  | b+1,a,hm,h=>by
    have:b+1+k=(b+k)+1:=by omega
    rw [this,List.range'_succ,List.range'_succ]
    simp only [List.map_cons,List.cons_append,pr]
    rw [peel_up (fun r hr=>by
      have:=List.mem_range'_1.mp hr
      exact h a r (by omega) (by omega)),peel_steps J b (a+1) (by omega) h]
    have:a+1+b=a+(b+1):=by omega
    rw [this];grind
theorem reset {n w B:Nat} {st:List Nat} {e0 e:Tab} {L:List RC} (hL:∀c∈L,c.ok n) (hB:∀x,x<n→∀y,(e0 x y).natAbs≤B) (he:rapps L e0=e)
    (hs:Stairs e st w n) (hred:∀i t,i<t→t<st.length→2*(e i (sat st t)).natAbs≤(e t (sat st t)).natAbs) :
    ∀x,x<n→∀y,(e x y).natAbs≤st.length*(fac st.length*B^st.length):=by
  let m:=st.length
  let D:=fac m*B^m
  have hmn:m≤n:=hs.len
  have hcut:∀x y,x<n→cut n e x y=e x y:=fun x y h=>by simp [cut,h]
  have c1:∀J:List Nat,J.length=m→(det (cut n e) (List.range m) J).natAbs≤D:=by
    intro J hJ
    have hg:∀I:List Nat,I.length=m→det (cut n e) (List.range m) J∣det (cut n e) I J:=by
      intro I hI
      by_cases h1:I.Nodup
      · by_cases h2:∀x∈I,x<m
        · obtain ⟨s,_,hp⟩:=row_perm (e:=cut n e) (perm_range m h1 h2 hI).symm
          rw [hp];exact Int.dvd_mul_left _ _
        · have:∃x∈I,m≤x:=by
            apply Classical.byContradiction
            intro hc'
            exact h2 (fun x hx=>by
              apply Classical.byContradiction
              intro hlt
              exact hc' ⟨x,hx,by omega⟩)
          obtain ⟨x,hx,hxr⟩:=this
          rw [det_row_zero hx (fun c _=>by
            unfold cut;split
            · exact hs.zr x hxr (by assumption) c
            · rfl)]
          exact Int.dvd_zero _
      · rw [row_dup h1];exact Int.dvd_zero _
    rw [←he] at hg
    have hg0:=(go_rows L e0 hL).mpr hg
    rw [he] at hg0
    by_cases hz:∀I:List Nat,I.length=m→det (cut n e0) I J=0
    · have:=(go_rows (g:=0) (J:=J) (k:=m) L e0 hL).mp (fun I hI=>by rw [hz I hI];exact Int.dvd_refl _) (List.range m) (by simp)
      rw [he] at this
      rw [Int.zero_dvd.mp this];simp
    · have:∃I:List Nat,I.length=m∧det (cut n e0) I J≠0:=by
        apply Classical.byContradiction
        intro hc'
        exact hz (fun I hI=>by
          apply Classical.byContradiction
          intro hne
          exact hc' ⟨I,hI,hne⟩)
      obtain ⟨I,hI,hne⟩:=this
      have h1:=Nat.le_of_dvd (by omega) (Int.natAbs_dvd_natAbs.mpr (hg0 I hI))
      have h2:=det_le (e:=cut n e0) (B:=B) I (fun r _ c=>by
        unfold cut;split
        · exact hB r (by assumption) c
        · simp) J (by omega)
      rw [hI] at h2
      exact Nat.le_trans h1 h2
  have hz:∀i j,i<j→j<m→cut n e j (sat st i)=0:=fun i j h1 h2=>by
    rw [hcut j _ (by omega)];exact hs.zl j h2 _ (hs.mono i j h1 h2)
  have hpnz:∀a b,a+b≤m→pr (fun i=>cut n e i (sat st i)) (List.range' a b)≠0:=by
    intro a b hab h
    obtain ⟨i,hi,h0⟩:=pr_zero.mp h
    have:=List.mem_range'_1.mp hi
    rw [hcut i _ (by omega)] at h0
    exact hs.nz i (show i<m by omega) h0
  have c2:∀(i k:Nat),i+k=m→∀J:List Nat,J.length=k→(det (cut n e) (List.range' i k) J).natAbs≤D:=by
    intro i k hik J hJ
    have h1:=peel_steps (e:=cut n e) (s:=sat st) (k:=k) (m:=m) J i 0 (by omega) hz
    have h2:=c1 ((List.range' 0 i).map (sat st)++J) (by simp;omega)
    rw [List.range_eq_range',←hik,h1,Int.natAbs_mul,Nat.zero_add] at h2
    have h3:1*(det (cut n e) (List.range' i k) J).natAbs≤(pr (fun i=>cut n e i (sat st i)) (List.range' 0 i)).natAbs*(det (cut n e) (List.range' i k) J).natAbs :=
      Nat.mul_le_mul_right _ (by have:=hpnz 0 i (by omega);omega)
    omega
  intro x hx y
  by_cases hxm:x<m
  · obtain ⟨k,hk⟩:∃k,m=x+k+1:=⟨m - x - 1,by omega⟩
    have h1:=c2 x (k+1) (by omega) (y::(List.range' (x+1) k).map (sat st)) (by simp)
    have h2:=peel_steps (e:=cut n e) (s:=sat st) (k:=0) (m:=m) [] k (x+1) (by omega) hz
    simp only [List.append_nil,List.range'_zero,det,Int.mul_one,Nat.add_zero] at h2
    have hP:=hpnz (x+1) k (by omega)
    rw [List.range'_succ] at h1
    simp only [det,S,List.nil_append] at h1
    rw [h2,hcut x y hx] at h1
    generalize hPd:pr (fun i=>cut n e i (sat st i)) (List.range' (x+1) k)=P at h1 h2 hP
    have h3:=S_le2 (e:=cut n e x) (f:=det (cut n e) (List.range' (x+1) k)) (B:=P.natAbs) (F:=D) (n:=k) (fun l hl=>c2 (x+1) k (by omega) l hl) ((List.range' (x+1) k).map (sat st)) [y]
      (fun c hc=>by
        obtain ⟨t,ht,rfl⟩:=List.mem_map.mp hc
        have ht':=List.mem_range'_1.mp ht
        have hr:=hred x t (by omega) (show t<m by omega)
        rw [hcut x _ hx]
        have hdv:cut n e t (sat st t)∣P:=by
          rw [←hPd]
          have:(List.range' (x+1) k).Perm (t::(List.range' (x+1) k).erase t):=List.perm_cons_erase ht
          rw [pr_perm this]
          exact Int.dvd_mul_right _ _
        rw [hcut t _ (by omega)] at hdv
        have:=Nat.le_of_dvd (by omega) (Int.natAbs_dvd_natAbs.mpr hdv)
        omega) (by simp;omega)
    rw [List.length_map,List.length_range'] at h3
    generalize S (det (cut n e) (List.range' (x+1) k)) (cut n e x) [y] ((List.range' (x+1) k).map (sat st))=Z at h1 h3
    have h4:(e x y).natAbs*P.natAbs≤D+k*(P.natAbs*D):=by
      rw [←Int.natAbs_mul];omega
    have h5:D≤P.natAbs*D:=by
      have:1*D≤P.natAbs*D:=Nat.mul_le_mul_right _ (by omega)
      omega
    have h6:D+k*(P.natAbs*D)≤(m*D)*P.natAbs:=by
      have:(m*D)*P.natAbs=x*(P.natAbs*D)+k*(P.natAbs*D)+P.natAbs*D:=by rw [hk];grind
      omega
    exact Nat.le_of_mul_le_mul_right (Nat.le_trans h4 h6) (by omega)
  · rw [hs.zr x (by omega) hx];simp
end E1
namespace E1
open Dt
def Build (cap w:Nat):Nat→Nat→List Nat→Tab→List RC→List Nat→Tab→Prop
  | 0,_,st,e,L,st',e'=>Le cap e∧L=[]∧st'=st∧e'=e
  | k+1,low,st,e,L,st',e'=>∃L1 top e1 st1 L2 e2 L3 e3 L4,TakeR cap low w st 0 e L1 top e1∧top≤st.length∧st.length≤low ∧
      ((fp (e1 low) 0 w<w∧st1=ins st top (fp (e1 low) 0 w)∧L2=liftL low top st.length∧e2=rapps L2 e1) ∨
       (¬ fp (e1 low) 0 w<w∧st1=st∧L2=[]∧e2=e1)) ∧
      Red cap st1 st1.length e2 L3 e3∧Build cap w k (low+1) st1 e3 L4 st' e'∧L=L1++(L2++(L3++L4))
def Redd (e:Tab) (st:List Nat):Prop:=∀i t,i<t→t<st.length→2*(e i (sat st t)).natAbs≤(e t (sat st t)).natAbs
theorem RC.ok.mono {n m:Nat} {c:RC} (h:c.ok n) (hm:n≤m):c.ok m:=by
  cases c with
  | add i j q=>exact ⟨Nat.lt_of_lt_of_le h.1 hm,Nat.lt_of_lt_of_le h.2.1 hm,h.2.2⟩
  | swap i j=>exact ⟨Nat.lt_of_lt_of_le h.1 hm,Nat.lt_of_lt_of_le h.2.1 hm,h.2.2⟩
  | turn i=>exact Nat.lt_of_lt_of_le h hm
theorem Stairs.sat_ge {e:Tab} {st:List Nat} {w n:Nat} (h:Stairs e st w n):∀i,i<st.length→i≤sat st i
  | 0,_=>Nat.zero_le _
  | i+1,hi=>by
    have h1:=h.sat_ge i (by omega)
    have h2:=h.mono i (i+1) (by omega) hi
    omega
theorem Stairs.len_w {e:Tab} {st:List Nat} {w n:Nat} (h:Stairs e st w n):st.length≤w:=by
  rcases Nat.eq_zero_or_pos st.length with z | z
  · omega
  · have h1:=h.sat_ge (st.length - 1) (by omega)
    have h2:=h.lt (st.length - 1) (by omega)
    omega
structure Known (e0:Tab) (w n c N:Nat):Prop where
  row:∀x y,(e0 x y).natAbs≤2^c
  bd:∀low,low≤n→∀(L:List RC) (st:List Nat),(∀x∈L,x.ok low)→Stairs (rapps L e0) st w low→Redd (rapps L e0) st→∀x,x<low→∀y,(rapps L e0 x y).natAbs≤2^c
  piv:∀low,low≤n→∀(L:List RC) (st:List Nat),(∀x∈L,x.ok low)→Stairs (rapps L e0) st w low→Redd (rapps L e0) st→∀i,i<st.length→(rapps L e0 i (sat st i)).natAbs<4^N
def sumP (P:Nat→Nat) (low:Nat):Nat→Nat
  | 0=>0
  | k+1=>P low+sumP P (low+1) k
def Step (cap w low:Nat) (st:List Nat) (e:Tab) (L:List RC) (st1:List Nat) (e3:Tab):Prop :=
  ∃L1 top e1 L2 e2 L3,TakeR cap low w st 0 e L1 top e1∧top≤st.length∧st.length≤low ∧
      ((fp (e1 low) 0 w<w∧st1=ins st top (fp (e1 low) 0 w)∧L2=liftL low top st.length∧e2=rapps L2 e1) ∨
       (¬ fp (e1 low) 0 w<w∧st1=st∧L2=[]∧e2=e1)) ∧
      Stairs e2 st1 w (low+1) ∧
      Red cap st1 st1.length e2 L3 e3∧L=L1++(L2++L3)
theorem build_ex {e0:Tab} {cap w n c N K:Nat} {P:Nat→Nat} {J:Nat→Tab→Prop} (hw:Wide e0 w) (hk:Known e0 w n c N)
    (hK:∀m m',m<n→m≤w→m'≤m+1→m'≤w→m*m+so m' m'≤K) (hcap:ups K c≤cap)
    (hP:∀low m m',low<n→m≤low→m≤w→m'≤m+1→m'≤w→m*(3*N+2*m)+(m+1)+so m' m'≤P low)
    (hJ:∀low,low<n→∀(L0:List RC) (st:List Nat),(∀x∈L0,x.ok low)→Stairs (rapps L0 e0) st w low→Redd (rapps L0 e0) st→(∀x,low≤x→∀y,rapps L0 e0 x y=e0 x y) →
      J low (rapps L0 e0)→∀L st1 e3,Step cap w low st (rapps L0 e0) L st1 e3→J (low+1) e3) :
    ∀(k low:Nat) (L0:List RC) (st:List Nat),low+k=n→(∀x∈L0,x.ok low)→Stairs (rapps L0 e0) st w low→Redd (rapps L0 e0) st→(∀x,low≤x→∀y,rapps L0 e0 x y=e0 x y)→J low (rapps L0 e0) →
      ∃L st' e',Build cap w k low st (rapps L0 e0) L st' e'∧rapps (L0++L) e0=e'∧Stairs e' st' w n∧Redd e' st'∧(∀x∈L,x.ok n)∧L.length≤sumP P low k∧(∀x,n≤x→∀y,e' x y=e0 x y)∧J n e':=by
  intro k
  induction k with
  | zero =>
    intro low L0 st hn hok hs hr ho hj
    have hc:Le c (rapps L0 e0):=fun x y=>by
      by_cases hx:x<low
      · exact hk.bd low (by omega) L0 st hok hs hr x hx y
      · rw [ho x (by omega)];exact hk.row x y
    have hn':low=n:=by omega
    refine ⟨[],st,_,⟨hc.mono (Nat.le_trans (ups_ge _ _) hcap),rfl,rfl,rfl⟩,by rw [List.append_nil],hn'▸hs,hr,fun x hx=>absurd hx (by simp),by simp,fun x hx y=>ho x (by omega) y,hn'▸hj⟩
  | succ k ih =>
    intro low L0 st hn hok hs hr ho hj
    have hc:Le c (rapps L0 e0):=fun x y=>by
      by_cases hx:x<low
      · exact hk.bd low (by omega) L0 st hok hs hr x hx y
      · rw [ho x (by omega)];exact hk.row x y
    have hm:=hs.len
    have hmw:=hs.len_w
    have hcap1:ups (st.length*st.length) c≤cap:=by
      have:=hK st.length 0 (by omega) hmw (by omega) (by omega)
      exact Nat.le_trans (ups_le (by omega) c) hcap
    obtain ⟨L1,top,e1,t1,t2,t3,t4,t5,t6,_,t8,t9,t10,t11⟩:=take_ex (n:=N) st.length 0 (rapps L0 e0) c (by omega) hs (wide_app hw L0) hc hcap1 (fun i hi=>absurd hi (by omega)) (fun i _ h2=>hk.piv low (by omega) L0 st hok hs hr i h2)
    have hex:∃st1 L2 e2,((fp (e1 low) 0 w<w∧st1=ins st top (fp (e1 low) 0 w)∧L2=liftL low top st.length∧e2=rapps L2 e1) ∨
       (¬ fp (e1 low) 0 w<w∧st1=st∧L2=[]∧e2=e1))∧Stairs e2 st1 w (low+1)∧st1.length≤st.length+1∧Le (ups (st.length*st.length) c) e2∧rapps L2 e1=e2∧L2.length≤st.length+1 ∧
       (∀x∈L2,x.ok (low+1))∧(∀x,low<x→∀y,e2 x y=e1 x y):=by
      by_cases hp:fp (e1 low) 0 w<w
      · refine ⟨_,_,_,Or.inl ⟨hp,rfl,rfl,rfl⟩,lift_stairs t2 t8 t9 t10 hp rfl,by rw [ins_len t8];omega,t3.app_swap _ (fun x y=>lift_app t8 hm e1 x y),rfl,lift_len ..,lift_ok t8 hm,?_⟩
        intro x hx y
        rw [lift_app t8 hm,if_neg (by omega),if_neg (by omega),if_neg (by omega),if_neg (by omega)]
      · refine ⟨_,_,_,Or.inr ⟨hp,rfl,rfl,rfl⟩,?_,by omega,t3,rfl,by simp,fun x hx=>absurd hx (by simp),fun _ _ _=>rfl⟩
        refine ⟨by omega,t2.lt,t2.mono,t2.nz,t2.zl,fun x h1 h2 y=>?_⟩
        by_cases hx:x=low
        · subst hx
          by_cases hy:y<w
          · exact fp_zero (e1 x) w 0 y (by omega) (by omega)
          · have:=wide_app (wide_app hw L0) L1
            rw [t4] at this
            exact this x y (by omega)
        · exact t2.zr x h1 (by omega) y
    obtain ⟨st1,L2,e2,u1,u2,u3,u4,u5,u6,u7,u8⟩:=hex
    have hm1w:=u2.len_w
    have hK1:=hK st.length st1.length (by omega) hmw u3 hm1w
    have hcap2:ups (so st1.length st1.length) (ups (st.length*st.length) c)≤cap:=by
      rw [←ups_add];exact Nat.le_trans (ups_le hK1 c) hcap
    obtain ⟨L3,e3,r1,r2,r3,r4,r5,r6,r7,r8,r9⟩:=red_ex st1.length e2 _ (Nat.le_refl _) u2 u4 hcap2
    have he3:rapps (L0++(L1++(L2++L3))) e0=e3:=by simp only [rapps_app];rw [t4,u5,r4]
    obtain ⟨L4,st',e',b1,b2,b3,b4,b5,b6,b7,b8⟩:=ih (low+1) (L0++(L1++(L2++L3))) st1 (by omega)
      (fun x hx=>by
        simp only [List.mem_append] at hx
        rcases hx with z | z | z | z
        · exact (hok x z).mono (by omega)
        · exact t6 x z
        · exact u7 x z
        · exact r6 x z)
      (by rw [he3];exact r2) (by rw [he3];exact fun i t h1 h2=>r9 i t (by omega) h1 h2)
      (fun x hx y=>by
        have:=u2.len
        rw [he3,r7 x (by omega),u8 x (by omega),t11 x (by omega),ho x (by omega)])
      (he3.symm▸hJ low (by omega) L0 st hok hs hr ho hj _ st1 e3 ⟨L1,top,e1,L2,e2,L3,t1,t8,hm,u1,u2,r1,rfl⟩)
    rw [he3] at b1
    refine ⟨L1++(L2++(L3++L4)),st',e',⟨L1,top,e1,st1,L2,e2,L3,e3,L4,t1,t8,hm,u1,r1,b1,rfl⟩,?_,b3,b4,?_,?_,b7,b8⟩
    · rw [←b2];simp only [List.append_assoc]
    · intro x hx
      simp only [List.mem_append] at hx
      rcases hx with z | z | z | z
      · exact (t6 x z).mono (by omega)
      · exact (u7 x z).mono (by omega)
      · exact (r6 x z).mono (by omega)
      · exact b5 x z
    · have hP1:=hP low st.length st1.length (by omega) hm hmw u3 hm1w
      simp only [List.length_append,sumP]
      omega
theorem steps_full {e0 e:Tab} {L:List RC} {st:List Nat} {w n r:Nat} (hL:∀c∈L,c.ok n) (he:rapps L e0=e) (hs:Stairs e st w n)
    (hcol:∀x y,r≤y→e0 x y=0) (hI:∃I:List Nat,I.length=r∧det (cut n e0) I (List.range r)≠0):st.length=r∧∀i,i<r→sat st i=i:=by
  have hwd:Wide e r:=he▸wide_app hcol L
  have hlt:∀i,i<st.length→sat st i<r:=fun i hi=>by
    apply Classical.byContradiction
    intro h
    exact hs.nz i hi (hwd i _ (by omega))
  have hle:st.length≤r:=by
    rcases Nat.eq_zero_or_pos st.length with z | z
    · omega
    · have h1:=hs.sat_ge (st.length - 1) (by omega)
      have h2:=hlt (st.length - 1) (by omega)
      omega
  have hge:r≤st.length:=by
    apply Classical.byContradiction
    intro hlt'
    obtain ⟨I,hIl,hne⟩:=hI
    have hz:∀I:List Nat,I.length=r→(0:Int)∣det (cut n (rapps L e0)) I (List.range r):=by
      intro I hIl
      rw [he]
      by_cases h1:I.Nodup
      · have:∃x∈I,st.length≤x:=by
          apply Classical.byContradiction
          intro hc'
          have:=pigeon st.length h1 (fun x hx=>by
            apply Classical.byContradiction
            intro hlt
            exact hc' ⟨x,hx,by omega⟩)
          omega
        obtain ⟨x,hx,hxr⟩:=this
        rw [det_row_zero hx (fun c _=>by
          unfold cut;split
          · exact hs.zr x hxr (by assumption) c
          · rfl)]
        exact Int.dvd_refl _
      · rw [row_dup h1];exact Int.dvd_refl _
    have:=(go_rows L e0 hL).mpr hz I hIl
    exact hne (Int.zero_dvd.mp this)
  have hlen:st.length=r:=by omega
  refine ⟨hlen,fun i hi=>?_⟩
  have h1:=hs.sat_ge i (by omega)
  have h2:∀d,i+d<st.length→sat st i+d≤sat st (i+d):=by
    intro d
    induction d with
    | zero=>intro _;simp
    | succ d ih =>
      intro hd
      have:=ih (by omega)
      have:=hs.mono (i+d) (i+(d+1)) (by omega) hd
      omega
  have h3:=h2 (r - 1 - i) (by omega)
  have h4:=hlt (i+(r - 1 - i)) (by omega)
  omega
theorem cut_app {n:Nat} {c:RC} (h:c.ok n) (e:Tab):c.app (cut n e)=cut n (c.app e):=by
  funext x y
  cases c with
  | add i j q =>
    obtain ⟨hi,hj,hij⟩:=h
    by_cases hx:x=i
    · subst hx;simp [cut,RC.app,addR,hi,hj]
    · simp [cut,RC.app,addR,hx]
  | swap i j =>
    obtain ⟨hi,hj,hij⟩:=h
    have hs:sw i j x<n↔x<n:=by
      unfold sw;split
      · omega
      · split <;> omega
    simp only [cut,RC.app,swapR,hs]
  | turn i =>
    have hi:i<n:=h
    by_cases hx:x=i
    · subst hx;simp [cut,RC.app,turnR,hi]
    · simp [cut,RC.app,turnR,hx]
theorem cut_rapps {n:Nat}:∀(L:List RC) (e:Tab),(∀c∈L,c.ok n)→rapps L (cut n e)=cut n (rapps L e)
  | [],e,_=>rfl
  | c::L,e,h=>by
    rw [rapps_cons,rapps_cons,cut_app (h c (List.mem_cons_self ..)),cut_rapps L (c.app e) (fun x hx=>h x (List.mem_cons_of_mem _ hx))]
theorem cut_cut (n:Nat) (e:Tab):cut n (cut n e)=cut n e:=by
  funext x y;unfold cut;split <;> rfl
structure LowE (e:Tab) (s:Nat→Nat) (r:Nat):Prop where
  mono:∀i j,i<j→j<r→s i<s j
  z:∀x j,j<r→x<s j→e x j=0
  col:∀x j,r≤j→e x j=0
  nz:∀j,j<r→e (s j) j≠0
theorem part_of {s:Nat→Nat} (low:Nat):∀r,(∀i j,i<j→j<r→s i<s j)→∃r',r'≤r∧(∀j,j<r'→s j<low)∧(∀j,r'≤j→j<r→low≤s j)
  | 0,_=>⟨0,Nat.le_refl _,fun j h=>absurd h (by omega),fun j _ h=>absurd h (by omega)⟩
  | r+1,h=>by
    by_cases hr:s r<low
    · exact ⟨r+1,Nat.le_refl _,fun j hj=>by
        rcases Nat.lt_or_ge j r with z | z
        · have:=h j r z (by omega);omega
        · have:j=r:=by omega
          subst this;exact hr,fun j h1 h2=>by omega⟩
    · obtain ⟨r',h1,h2,h3⟩:=part_of low r (fun i j hi hj=>h i j hi (by omega))
      exact ⟨r',by omega,h2,fun j h4 h5=>by
        rcases Nat.lt_or_ge j r with z | z
        · exact h3 j h4 z
        · have:j=r:=by omega
          subst this;omega⟩
theorem lowE_det {e:Tab} {s:Nat→Nat}:∀(b a:Nat),(∀i j,i<j→j<a+b→e (s i) j=0)→det e ((List.range' a b).map s) (List.range' a b)=pr (fun j=>e (s j) j) (List.range' a b)
  | 0,a,_=>by simp [det,pr]
  | b+1,a,h=>by
    simp only [List.range'_succ,List.map_cons,pr]
    rw [peel_low (fun d hd=>by
      have:=List.mem_range'_1.mp hd
      exact h a d (by omega) (by omega)),lowE_det b (a+1) (fun i j h1 h2=>h i j h1 (by omega))]
theorem pr_le_part {d:Nat→Int} {r' r:Nat} (h:r'≤r) (hnz:∀i,i<r→d i≠0):(pr d (List.range r')).natAbs≤(pr d (List.range r)).natAbs:=by
  obtain ⟨k,rfl⟩:=Nat.exists_eq_add_of_le h
  rw [List.range_add,pr_app,Int.natAbs_mul]
  have:pr d ((List.range k).map (r'+·))≠0:=by
    intro hz
    obtain ⟨i,hi,h0⟩:=pr_zero.mp hz
    obtain ⟨j,hj,rfl⟩:=List.mem_map.mp hi
    exact hnz _ (by have:=List.mem_range.mp hj;omega) h0
  have h1:(pr d (List.range r')).natAbs*1≤(pr d (List.range r')).natAbs*(pr d ((List.range k).map (r'+·))).natAbs:=Nat.mul_le_mul_left _ (by omega)
  omega
theorem lowE_stairs {e0:Tab} {s:Nat→Nat} {r low w:Nat} (h0:LowE e0 s r) {L:List RC} {st:List Nat} (hL:∀c∈L,c.ok low) (hs:Stairs (rapps L e0) st w low) :
    ∃r',r'≤r∧(∀j,j<r'→s j<low)∧(∀j,r'≤j→j<r→low≤s j)∧st.length=r'∧(∀i,i<r'→sat st i=i)∧(∀x y,x<low→r'≤y→rapps L e0 x y=0) ∧
      (pr (fun i=>rapps L e0 i i) (List.range r')).natAbs≤(pr (fun j=>e0 (s j) j) (List.range r')).natAbs:=by
  obtain ⟨r',hr1,hr2,hr3⟩:=part_of low r h0.mono
  have hcol:∀x y,r'≤y→cut low e0 x y=0:=fun x y hy=>by
    unfold cut;split
    · rcases Nat.lt_or_ge y r with z | z
      · exact h0.z x y z (by have:=hr3 y hy z;omega)
      · exact h0.col x y z
    · rfl
  have hcs:∀x y,x<low→cut low (rapps L e0) x y=rapps L e0 x y:=fun x y h=>by simp [cut,h]
  have hlen:=hs.len
  have hsc:Stairs (cut low (rapps L e0)) st w low:=⟨hs.len,hs.lt,hs.mono,fun i hi=>by rw [hcs _ _ (by omega)];exact hs.nz i hi,fun i hi y hy=>by rw [hcs _ _ (by omega)];exact hs.zl i hi y hy,fun x h1 h2 y=>by rw [hcs _ _ h2];exact hs.zr x h1 h2 y⟩
  have hdet:det (cut low e0) ((List.range' 0 r').map s) (List.range' 0 r')=pr (fun j=>cut low e0 (s j) j) (List.range' 0 r'):=lowE_det r' 0 (fun i j h1 h2=>by
    unfold cut;split
    · exact h0.z _ j (by omega) (h0.mono i j h1 (by omega))
    · rfl)
  have hpr:pr (fun j=>cut low e0 (s j) j) (List.range' 0 r')≠0:=by
    intro hz
    obtain ⟨i,hi,h⟩:=pr_zero.mp hz
    have:=List.mem_range'_1.mp hi
    simp only [cut,hr2 i (by omega),if_true] at h
    exact h0.nz i (by omega) h
  obtain ⟨f1,f2⟩:=steps_full (e0:=cut low e0) (e:=cut low (rapps L e0)) (L:=L) (n:=low) (r:=r') hL (cut_rapps L e0 hL) hsc hcol ⟨(List.range' 0 r').map s,by simp,by rw [cut_cut,List.range_eq_range',hdet];exact hpr⟩
  have hwd:Wide (cut low (rapps L e0)) r':=by rw [←cut_rapps L e0 hL];exact wide_app hcol L
  refine ⟨r',hr1,hr2,hr3,f1,f2,fun x y h1 h2=>by rw [←hcs x y h1];exact hwd x y h2,?_⟩
  have hup:det (cut low (rapps L e0)) (List.range r') (List.range r')=pr (fun i=>cut low (rapps L e0) i i) (List.range r'):=by
    have:=peel_steps (e:=cut low (rapps L e0)) (s:=id) (k:=0) (m:=r') [] r' 0 (by omega) (fun i j h1 h2=>by
      rw [hcs j _ (by omega)]
      exact hs.zl j (by omega) _ (by rw [f2 j h2];exact h1))
    simpa [List.range_eq_range',det] using this
  have hg:∀I:List Nat,I.length=r'→det (cut low (rapps L e0)) (List.range r') (List.range r')∣det (cut low (rapps L e0)) I (List.range r'):=by
    intro I hI
    by_cases h1:I.Nodup
    · by_cases h2:∀x∈I,x<r'
      · obtain ⟨s,_,hp⟩:=row_perm (e:=cut low (rapps L e0)) (perm_range r' h1 h2 hI).symm
        rw [hp];exact Int.dvd_mul_left _ _
      · have:∃x∈I,r'≤x:=by
          apply Classical.byContradiction
          intro hc'
          exact h2 (fun x hx=>by
            apply Classical.byContradiction
            intro hlt
            exact hc' ⟨x,hx,by omega⟩)
        obtain ⟨x,hx,hxr⟩:=this
        rw [det_row_zero hx (fun c _=>by
          unfold cut;split
          · exact hs.zr x (by omega) (by assumption) c
          · rfl)]
        exact Int.dvd_zero _
    · rw [row_dup h1];exact Int.dvd_zero _
  have hgo:=(go_rows L e0 hL).mpr hg ((List.range' 0 r').map s) (by simp)
  rw [hup,List.range_eq_range',hdet] at hgo
  have hle:=Nat.le_of_dvd (by omega) (Int.natAbs_dvd_natAbs.mpr hgo)
  have e1:pr (fun i=>cut low (rapps L e0) i i) (List.range' 0 r')=pr (fun i=>rapps L e0 i i) (List.range r'):=by
    rw [List.range_eq_range']
    have:∀l:List Nat,(∀x∈l,x<low)→pr (fun i=>cut low (rapps L e0) i i) l=pr (fun i=>rapps L e0 i i) l:=by
      intro l
      induction l with
      | nil=>intro _;rfl
      | cons a l ih=>intro h;simp only [pr];rw [ih (fun x hx=>h x (List.mem_cons_of_mem _ hx)),hcs a a (h a (List.mem_cons_self ..))]
    exact this _ (fun x hx=>by have:=List.mem_range'_1.mp hx;omega)
  have e2:pr (fun j=>cut low e0 (s j) j) (List.range' 0 r')=pr (fun j=>e0 (s j) j) (List.range r'):=by
    rw [List.range_eq_range']
    have:∀l:List Nat,(∀x∈l,x<r')→pr (fun j=>cut low e0 (s j) j) l=pr (fun j=>e0 (s j) j) l:=by
      intro l
      induction l with
      | nil=>intro _;rfl
      | cons a l ih =>
        intro h;simp only [pr]
        rw [ih (fun x hx=>h x (List.mem_cons_of_mem _ hx))]
        have:=hr2 a (h a (List.mem_cons_self ..))
        simp [cut,this]
    exact this _ (fun x hx=>by have:=List.mem_range'_1.mp hx;omega)
  rw [e1,e2] at hle
  exact hle
theorem pr_part_le {d:Nat→Int} {r i:Nat} (hi:i<r) (hnz:pr d (List.range r)≠0):(d i).natAbs≤(pr d (List.range r)).natAbs:=by
  have hp:(List.range r).Perm (i::(List.range r).erase i):=List.perm_cons_erase (List.mem_range.mpr hi)
  have hd:d i∣pr d (List.range r):=by rw [pr_perm hp];exact Int.dvd_mul_right _ _
  exact Nat.le_of_dvd (by omega) (Int.natAbs_dvd_natAbs.mpr hd)
theorem known_low {e0:Tab} {s:Nat→Nat} {r w n c N:Nat} (h0:LowE e0 s r) (hrow:∀x y,(e0 x y).natAbs≤2^c)
    (hD:(pr (fun j=>e0 (s j) j) (List.range r)).natAbs≤2^c) (hN:(pr (fun j=>e0 (s j) j) (List.range r)).natAbs<4^N):Known e0 w n c N:=by
  have key:∀low,low≤n→∀(L:List RC) (st:List Nat),(∀x∈L,x.ok low)→Stairs (rapps L e0) st w low→Redd (rapps L e0) st →
      (∀i,i<st.length→(rapps L e0 i (sat st i)).natAbs≤(pr (fun j=>e0 (s j) j) (List.range r)).natAbs)∧(∀x,x<low→∀y,(rapps L e0 x y).natAbs≤(pr (fun j=>e0 (s j) j) (List.range r)).natAbs):=by
    intro low hl L st hL hs hr
    obtain ⟨r',hr1,hr2,hr3,f1,f2,f3,f4⟩:=lowE_stairs h0 hL hs
    have hle:=pr_le_part (d:=fun j=>e0 (s j) j) hr1 h0.nz
    have hpnz:pr (fun i=>rapps L e0 i i) (List.range r')≠0:=by
      intro hz
      obtain ⟨i,hi,h⟩:=pr_zero.mp hz
      have hi':=List.mem_range.mp hi
      exact hs.nz i (by omega) (by rw [f2 i hi'];exact h)
    have hpiv:∀i,i<r'→(rapps L e0 i i).natAbs≤(pr (fun j=>e0 (s j) j) (List.range r)).natAbs:=fun i hi =>
      Nat.le_trans (pr_part_le (d:=fun i=>rapps L e0 i i) hi hpnz) (Nat.le_trans f4 hle)
    refine ⟨fun i hi=>by rw [f2 i (by omega)];exact hpiv i (by omega),fun x hx y=>?_⟩
    rcases Nat.lt_or_ge x r' with hx1 | hx1
    · rcases Nat.lt_or_ge y r' with hy1 | hy1
      · rcases Nat.lt_trichotomy x y with z | z | z
        · have h1:=hr x y z (by omega)
          rw [f2 y hy1] at h1
          have h2:=hpiv y hy1
          omega
        · subst z;exact hpiv x hx1
        · rw [hs.zl x (by omega) y (by rw [f2 x hx1];exact z)];simp
      · rw [f3 x y hx hy1];simp
    · rw [hs.zr x (by omega) hx];simp
  exact ⟨hrow,fun low hl L st h1 h2 h3 x hx y=>Nat.le_trans ((key low hl L st h1 h2 h3).2 x hx y) hD,fun low hl L st h1 h2 h3 i hi=>Nat.lt_of_le_of_lt ((key low hl L st h1 h2 h3).1 i hi) hN⟩
theorem known_any {e0:Tab} {w n c N B:Nat} (hB:∀x y,(e0 x y).natAbs≤B) (hBc:B≤2^c) (h:∀m,m≤n→m≤w→m*(fac m*B^m)≤2^c) (hN:2^c<4^N):Known e0 w n c N:=by
  have key:∀low,low≤n→∀(L:List RC) (st:List Nat),(∀x∈L,x.ok low)→Stairs (rapps L e0) st w low→Redd (rapps L e0) st →
      (∀x,x<low→∀y,(rapps L e0 x y).natAbs≤2^c):=by
    intro low hl L st hL hs hr x hx y
    have h1:=reset hL (fun x _ y=>hB x y) rfl hs hr x hx y
    exact Nat.le_trans h1 (h st.length (by have:=hs.len;omega) hs.len_w)
  exact ⟨fun x y=>Nat.le_trans (hB x y) hBc,key,fun low hl L st h1 h2 h3 i hi=>Nat.lt_of_le_of_lt (key low hl L st h1 h2 h3 i (by have:=h2.len;omega) _) hN⟩
end E1
namespace E1
open Dt
def RC.ge (k:Nat):RC→Prop
  | .add i j _=>k≤i∧k≤j
  | .swap i j=>k≤i∧k≤j
  | .turn i=>k≤i
theorem RC.ge.mono {n m:Nat} {c:RC} (h:c.ge n) (hm:m≤n):c.ge m:=by
  cases c with
  | add i j q=>exact ⟨Nat.le_trans hm h.1,Nat.le_trans hm h.2⟩
  | swap i j=>exact ⟨Nat.le_trans hm h.1,Nat.le_trans hm h.2⟩
  | turn i=>exact Nat.le_trans hm h
def Bare (k:Nat) (e:Tab):Prop:=∀i,i<k→∀j,j≠i→e i j=0∧e j i=0
theorem ge_rows {k:Nat}:∀(L:List RC) (e:Tab),(∀c∈L,c.ge k)→∀i,i<k→∀y,rapps L e i y=e i y
  | [],e,_,i,_,y=>rfl
  | c::L,e,h,i,hi,y=>by
    rw [rapps_cons,ge_rows L (c.app e) (fun x hx=>h x (List.mem_cons_of_mem _ hx)) i hi]
    have hc:=h c (List.mem_cons_self ..)
    cases c with
    | add a b q=>simp only [RC.app,addR];rw [if_neg (by have:=hc.1;omega)]
    | swap a b =>
      simp only [RC.app,swapR,sw]
      have h1:=hc.1
      have h2:=hc.2
      rw [if_neg (by omega),if_neg (by omega)]
    | turn a =>
      have h1:k≤a:=hc
      simp only [RC.app,turnR];rw [if_neg (by omega)]
theorem ge_bare {k:Nat}:∀(L:List RC) (e:Tab),(∀c∈L,c.ge k)→Bare k e→Bare k (rapps L e)
  | [],e,_,h=>h
  | c::L,e,hL,h=>by
    rw [rapps_cons]
    refine ge_bare L (c.app e) (fun x hx=>hL x (List.mem_cons_of_mem _ hx)) ?_
    have hc:=hL c (List.mem_cons_self ..)
    intro i hi j hj
    have hrow:(c.app e) i j=e i j:=ge_rows [c] e (fun x hx=>by simp at hx;subst hx;exact hc) i hi j
    refine ⟨by rw [hrow];exact (h i hi j hj).1,?_⟩
    cases c with
    | add a b q =>
      have h1:=hc.1
      have h2:=hc.2
      simp only [RC.app,addR]
      split
      · rw [(h i hi a (by omega)).2,(h i hi b (by omega)).2];simp
      · exact (h i hi j hj).2
    | swap a b =>
      have h1:=hc.1
      have h2:=hc.2
      simp only [RC.app,swapR,sw]
      split
      · exact (h i hi b (by omega)).2
      · split
        · exact (h i hi a (by omega)).2
        · exact (h i hi j hj).2
    | turn a =>
      have h1:k≤a:=hc
      simp only [RC.app,turnR]
      split
      · rw [(h i hi a (by omega)).2];rfl
      · exact (h i hi j hj).2
theorem lch_ge {k i j:Nat} {q:Int} (hi:k≤i) (hj:k≤j):∀c∈lch i j q,c.ge k:=by
  unfold lch;split
  · simp
  · intro c hc;simp at hc;subst hc;exact ⟨hi,hj⟩
theorem meet_ge {cap top low p k:Nat} (ht:k≤top) (hl:k≤low) {e e':Tab} {L:List RC} (h:MeetR cap top low p e L e'):∀c∈L,c.ge k:=by
  induction h with
  | done=>intro c hc;simp at hc
  | half=>exact lch_ge hl ht
  | turn _ _ _ _ _ _ _ _ _ _ ih =>
    intro c hc
    simp only [List.mem_append] at hc
    rcases hc with z | z | z
    · exact lch_ge hl ht c z
    · exact lch_ge ht hl c z
    · exact ih c z
  | swap =>
    intro c hc
    simp only [List.mem_append,List.mem_singleton] at hc
    rcases hc with z | z | z
    · exact lch_ge hl ht c z
    · exact lch_ge ht hl c z
    · subst z;exact ⟨ht,hl⟩
theorem meet_rapps {cap top low p:Nat} {e e':Tab} {L:List RC} (h:MeetR cap top low p e L e'):rapps L e=e':=by
  induction h with
  | done=>rfl
  | half _ _ _ h1=>rw [lch_app,h1];rfl
  | turn _ _ _ h1 _ _ h2 _ _ _ ih=>subst h1;subst h2;rw [rapps_app,rapps_app,lch_app,lch_app];exact ih
  | swap _ _ _ h1 _ _ h2=>subst h1;subst h2;rw [rapps_app,rapps_app,lch_app,lch_app];rfl
theorem meet_rows {cap top low p:Nat} {e e':Tab} {L:List RC} (h:MeetR cap top low p e L e'):∀x,x≠top→x≠low→∀y,e' x y=e x y:=by
  induction h with
  | done=>intros;rfl
  | half _ _ _ h1=>intro x _ h3 y;rw [h1,less_other h3]
  | turn _ _ _ h1 _ _ h2 _ _ _ ih=>intro x h3 h4 y;rw [ih x h3 h4,h2,less_other h3,h1,less_other h4]
  | swap _ _ _ h1 _ _ h2=>intro x h3 h4 y;simp only [swapR,sw,if_neg h3,if_neg h4];rw [h2,less_other h3,h1,less_other h4]
theorem meet_dvd {cap top low p:Nat} (htl:top≠low) {e e':Tab} {L:List RC} (h:MeetR cap top low p e L e'):e' top p∣e top p∧e' top p∣e low p:=by
  have back:∀{g x y q:Int},g∣x→g∣y+q*x→g∣y:=fun {g x y q} h1 h2=>by
    have:y=(y+q*x) - q*x:=by omega
    rw [this];exact Int.dvd_sub h2 (Int.dvd_mul_of_dvd_right h1)
  induction h with
  | done _ h0=>rw [h0];exact ⟨Int.dvd_refl _,Int.dvd_zero _⟩
  | half _ _ _ h1 _ h2 =>
    subst h1
    rw [less_other htl]
    refine ⟨Int.dvd_refl _,?_⟩
    rw [less_row] at h2
    exact back (Int.dvd_refl _) (by rw [h2];exact Int.dvd_zero _)
  | turn _ _ _ h1 _ _ h2 _ _ _ ih =>
    subst h1;subst h2
    obtain ⟨a,b⟩:=ih
    rw [less_row] at a
    rw [less_other (Ne.symm htl)] at b
    have c:=back b a
    rw [less_other htl] at c
    rw [less_row] at b
    exact ⟨c,back c b⟩
  | swap _ _ _ h1 _ _ h2 _ h3 =>
    subst h1;subst h2
    simp only [swapR,sw,if_pos]
    rw [less_other (Ne.symm htl)]
    rw [less_row] at h3
    have c:=back (Int.dvd_refl _) (by rw [h3];exact Int.dvd_zero _)
    rw [less_other htl] at c
    refine ⟨c,?_⟩
    generalize hg:less _ low top p low p=g at c ⊢
    rw [less_row] at hg
    exact back c (by rw [hg];exact Int.dvd_refl _)
theorem meet_keep {cap top low p:Nat} (htl:top≠low) {e e':Tab} {L:List RC} (h:MeetR cap top low p e L e') (hd:e top p∣e low p):∀y,e' top y=e top y:=by
  have hz:∀{e:Tab},e top p≠0→e top p∣e low p→less e low top p low p=0:=fun {e} h1 h2=>by
    rw [less_row];exact quo_exact h1 h2
  cases h with
  | done=>intro y;rfl
  | half _ _ _ h1=>intro y;rw [h1,less_other htl]
  | turn _ _ hx h1 _ h2=>subst h1;exact absurd (hz hx hd) h2
  | swap _ _ hx h1 _ h2=>subst h1;exact absurd (hz hx hd) h2
section
variable {cap:Nat} {st:List Nat} {row:Nat}
theorem lrow_ge {k:Nat} (hr:k≤row):∀(n t:Nat) (e:Tab) (L:List RC) (e':Tab),LRow cap st row t n e L e'→k≤t→∀c∈L,c.ge k
  | 0,t,e,L,e',h,_=>by rw [h.2.1];simp
  | n+1,t,e,L,e',h,ht=>by
    obtain ⟨_,_,L2,h2,rfl⟩:=h
    intro c hc
    rcases List.mem_append.mp hc with z | z
    · exact lch_ge hr ht c z
    · exact lrow_ge hr n (t+1) _ _ _ h2 (by omega) c z
theorem lrow_rapps:∀(n t:Nat) (e:Tab) (L:List RC) (e':Tab),LRow cap st row t n e L e'→rapps L e=e'
  | 0,t,e,L,e',h=>by rw [h.2.1,h.2.2];rfl
  | n+1,t,e,L,e',h=>by
    obtain ⟨_,_,L2,h2,rfl⟩:=h
    rw [rapps_app,lch_app]
    exact lrow_rapps n (t+1) _ _ _ h2
theorem lrow_rows:∀(n t:Nat) (e:Tab) (L:List RC) (e':Tab),LRow cap st row t n e L e'→∀x,x≠row→∀y,e' x y=e x y
  | 0,t,e,L,e',h=>by rw [h.2.2];intros;rfl
  | n+1,t,e,L,e',h=>by
    obtain ⟨_,_,L2,h2,rfl⟩:=h
    intro x hx y
    rw [lrow_rows n (t+1) _ _ _ h2 x hx,less_other hx]
theorem lrow_col {y:Nat}:∀(n t:Nat) (e:Tab) (L:List RC) (e':Tab),LRow cap st row t n e L e'→row<t→(∀i,t≤i→i<t+n→e i y=0)→e' row y=e row y
  | 0,t,e,L,e',h,_,_=>by rw [h.2.2]
  | n+1,t,e,L,e',h,ht,hz=>by
    obtain ⟨_,_,L2,h2,rfl⟩:=h
    rw [lrow_col n (t+1) _ _ _ h2 (by omega) (fun i h3 h4=>by rw [less_other (by omega)];exact hz i (by omega) (by omega)),less_row,hz t (Nat.le_refl _) (by omega)]
    simp
theorem lrow_nil:∀(n t:Nat) (e:Tab) (L:List RC) (e':Tab),LRow cap st row t n e L e'→(∀i,t≤i→i<t+n→e row (sat st i)=0)→L=[]∧e'=e
  | 0,t,e,L,e',h,_=>⟨h.2.1,h.2.2⟩
  | n+1,t,e,L,e',h,hz=>by
    obtain ⟨_,hnz,L2,h2,rfl⟩:=h
    have hq:lq e row t (sat st t)=0:=by
      unfold lq;rw [hz t (Nat.le_refl _) (by omega)]
      exact quo_zero hnz (by omega)
    have hl:less e row t (sat st t)=e:=by unfold less;rw [hq,addR_zero]
    rw [hl] at h2
    obtain ⟨a,b⟩:=lrow_nil n (t+1) _ _ _ h2 (fun i h3 h4=>hz i (by omega) (by omega))
    rw [a,b,hq]
    exact ⟨rfl,rfl⟩
theorem lrow_ok {m:Nat} (hr:row<m):∀(n t:Nat) (e:Tab) (L:List RC) (e':Tab),LRow cap st row t n e L e'→t+n≤m→(∀i,t≤i→i<t+n→i≠row)→∀c∈L,c.ok m
  | 0,t,e,L,e',h,_,_=>by rw [h.2.1];simp
  | n+1,t,e,L,e',h,ht,hne=>by
    obtain ⟨_,_,L2,h2,rfl⟩:=h
    intro c hc
    rcases List.mem_append.mp hc with z | z
    · exact lch_ok hr (by omega) (Ne.symm (hne t (Nat.le_refl _) (by omega))) c z
    · exact lrow_ok hr n (t+1) _ _ _ h2 (by omega) (fun i h3 h4=>hne i (by omega) (by omega)) c z
end
theorem meet_ok {cap top low p n:Nat} (htl:top≠low) (ht:top<n) (hl:low<n) {e e':Tab} {L:List RC} (h:MeetR cap top low p e L e'):∀c∈L,c.ok n:=by
  induction h with
  | done=>intro c hc;simp at hc
  | half=>exact lch_ok hl ht (Ne.symm htl)
  | turn _ _ _ _ _ _ _ _ _ _ ih =>
    intro c hc
    simp only [List.mem_append] at hc
    rcases hc with z | z | z
    · exact lch_ok hl ht (Ne.symm htl) c z
    · exact lch_ok ht hl htl c z
    · exact ih c z
  | swap =>
    intro c hc
    simp only [List.mem_append,List.mem_singleton] at hc
    rcases hc with z | z | z
    · exact lch_ok hl ht (Ne.symm htl) c z
    · exact lch_ok ht hl htl c z
    · subst z;exact ⟨ht,hl,htl⟩
section
variable {cap low w:Nat} {st:List Nat}
theorem take_rapps {top top':Nat} {e e':Tab} {L:List RC} (h:TakeR cap low w st top e L top' e'):rapps L e=e':=by
  induction h with
  | stop=>rfl
  | skip _ _ _ _ ih=>exact ih
  | meet _ _ _ m l1 l2 _ ih =>
    rw [rapps_app,rapps_app,rapps_app,meet_rapps m,lrow_rapps _ _ _ _ _ l1,lrow_rapps _ _ _ _ _ l2]
    exact ih
theorem take_ge {k top top':Nat} {e e':Tab} {L:List RC} (hl:k≤low) (h:TakeR cap low w st top e L top' e'):k≤top→(∀c∈L,c.ge k)∧top≤top':=by
  induction h with
  | stop=>intro _;exact ⟨by simp,Nat.le_refl _⟩
  | skip _ _ _ _ ih=>intro ht;obtain ⟨a,b⟩:=ih (by omega);exact ⟨a,by omega⟩
  | meet _ _ _ m l1 l2 _ ih =>
    intro ht
    obtain ⟨a,b⟩:=ih (by omega)
    refine ⟨fun c hc=>?_,by omega⟩
    simp only [List.mem_append] at hc
    rcases hc with z | z | z | z
    · exact meet_ge ht hl m c z
    · exact lrow_ge ht _ _ _ _ _ l1 (by omega) c z
    · exact lrow_ge hl _ _ _ _ _ l2 (by omega) c z
    · exact a c z
theorem take_ok {top top':Nat} {e e':Tab} {L:List RC} (hl:st.length≤low) (h:TakeR cap low w st top e L top' e'):∀c∈L,c.ok (low+1):=by
  induction h with
  | stop=>simp
  | skip _ _ _ _ ih=>exact ih
  | meet _ ht _ m l1 l2 _ ih =>
    intro c hc
    simp only [List.mem_append] at hc
    rcases hc with z | z | z | z
    · exact meet_ok (by omega) (by omega) (by omega) m c z
    · exact lrow_ok (by omega) _ _ _ _ _ l1 (by omega) (fun i _ _=>by omega) c z
    · exact lrow_ok (by omega) _ _ _ _ _ l2 (by omega) (fun i _ _=>by omega) c z
    · exact ih c z
theorem take_to {k top top':Nat} {e e':Tab} {L:List RC} (hk:k≤st.length) (hkw:k≤w) (hsat:∀i,i<k→sat st i=i) (h:TakeR cap low w st top e L top' e') :
    (∀y,y<k→e low y=0)→top≤k→TakeR cap low w st k e L top' e':=by
  intro hz ht
  obtain ⟨d,hd⟩:∃d,k=top+d:=⟨k - top,by omega⟩
  induction d generalizing top with
  | zero => have : k = top := by omega
            subst this;exact h
  | succ d ih =>
    have htk:top<k:=by omega
    have hfp:top<fp (e low) 0 w:=fp_gt (by omega) (fun z hzz=>hz z (by omega))
    cases h with
    | stop _ hn=>exact absurd ⟨by omega,by rw [hsat _ htk];omega⟩ hn
    | skip _ _ _ h2=>exact ih h2 (by omega) (by omega)
    | meet _ _ h2=>rw [hsat top htk] at h2;omega
end
theorem red_bare {cap k:Nat} {st:List Nat} (hsat:∀i,i<st.length→sat st i=i):∀(j:Nat) (e:Tab) (L:List RC) (e':Tab),Red cap st j e L e'→j≤st.length→Bare k e→(∀t,k<t→t<st.length→e t k=0) →
    Bare k e'∧(∀i,i<k→∀y,e' i y=e i y)∧e' k k=e k k∧((∀y,y≠k→e k y=0)→∀y,e' k y=e k y)
  | 0,e,L,e',h,_,hb,_=>by rw [h.2.2];exact ⟨hb,fun _ _ _=>rfl,rfl,fun _ _=>rfl⟩
  | j+1,e,L,e',h,hj,hb,hz=>by
    obtain ⟨L1,e1,L2,h1,h2,rfl⟩:=h
    rcases Nat.lt_trichotomy j k with z | z | z
    · -- a bare row
      obtain ⟨_,rfl⟩:=lrow_nil _ _ _ _ _ h1 (fun i h3 h4=>by rw [hsat i (by omega)];exact (hb j z i (by omega)).1)
      exact red_bare hsat j _ L2 e' h2 (by omega) hb hz
    · subst z
      have hge:=lrow_ge (Nat.le_refl _) _ _ _ _ _ h1 (Nat.le_succ _)
      have hr:=lrow_rapps _ _ _ _ _ h1
      have hb1:Bare j e1:=hr▸ge_bare L1 e hge hb
      have hrow:=lrow_rows _ _ _ _ _ h1
      have hcol:e1 j j=e j j:=lrow_col _ _ _ _ _ h1 (by omega) (fun i h3 h4=>hz i (by omega) (by omega))
      obtain ⟨a,b,c,d⟩:=red_bare hsat j e1 L2 e' h2 (by omega) hb1 (fun t h3 h4=>by rw [hrow t (by omega)];exact hz t h3 h4)
      refine ⟨a,fun i hi y=>by rw [b i hi,hrow i (by omega)],by rw [c,hcol],fun h0=>?_⟩
      obtain ⟨_,rfl⟩:=lrow_nil _ _ _ _ _ h1 (fun i h3 h4=>by rw [hsat i (by omega)];exact h0 i (by omega))
      exact d h0
    · have hge:=lrow_ge (k:=k) (by omega) _ _ _ _ _ h1 (by omega)
      have hr:=lrow_rapps _ _ _ _ _ h1
      have hb1:Bare k e1:=hr▸ge_bare L1 e hge hb
      have hrow:=lrow_rows _ _ _ _ _ h1
      have hcol:e1 j k=e j k:=lrow_col _ _ _ _ _ h1 (by omega) (fun i h3 h4=>hz i (by omega) (by omega))
      obtain ⟨a,b,c,d⟩:=red_bare hsat j e1 L2 e' h2 (by omega) hb1 (fun t h3 h4=>by
        by_cases ht:t=j
        · subst ht;rw [hcol];exact hz t h3 h4
        · rw [hrow t ht];exact hz t h3 h4)
      refine ⟨a,fun i hi y=>by rw [b i hi,hrow i (by omega)],by rw [c,hrow k (by omega)],fun h0 y=>?_⟩
      rw [d (fun y hy=>by rw [hrow k (by omega)];exact h0 y hy) y,hrow k (by omega)]
def PK (k:Nat) (e0 e:Tab):Prop:=e k k∣e0 k k∧((e k k).natAbs=(e0 k k).natAbs→∀y,e k y=e0 k y)
def BJ (k:Nat) (e0 e:Tab):Prop:=Bare k e∧(∀i,i<k→∀y,e i y=e0 i y)∧PK k e0 e
theorem bare_step {e0:Tab} {r w k cap low:Nat} (h0:LowE e0 id r) (hkr:k<r) (hrw:r≤w) {L0:List RC} {st:List Nat} (hL0:∀x∈L0,x.ok low)
    (hs:Stairs (rapps L0 e0) st w low) (hj:BJ k e0 (rapps L0 e0)) {L:List RC} {st1:List Nat} {e3:Tab} (h:Step cap w low st (rapps L0 e0) L st1 e3) (hb0:Bare k e0):BJ k e0 e3:=by
  obtain ⟨L1,top,e1,L2,e2,L3,t1,t2,t3,t4,t5,t6,rfl⟩:=h
  obtain ⟨r',f1,f2,f3,f4,f5,f6,_⟩:=lowE_stairs h0 hL0 hs
  obtain ⟨j1,j2,j3⟩:=hj
  have hok1:=take_ok t3 t1
  have ht1:=take_rapps t1
  have hok2:(∀c∈L2,c.ok (low+1))∧rapps L2 e1=e2:=by
    rcases t4 with z | z
    · rw [z.2.2.1,z.2.2.2,z.2.2.1];exact ⟨lift_ok t2 t3,rfl⟩
    · rw [z.2.2.1,z.2.2.2];exact ⟨by simp,rfl⟩
  have he2:rapps (L0++(L1++L2)) e0=e2:=by rw [rapps_app,rapps_app,ht1,hok2.2]
  obtain ⟨r2,g1,g2,g3,g4,g5,g6,_⟩:=lowE_stairs (L:=L0++(L1++L2)) (st:=st1) (w:=w) (low:=low+1) h0 (fun x hx=>by
    simp only [List.mem_append] at hx
    rcases hx with z | z | z
    · exact (hL0 x z).mono (by omega)
    · exact hok1 x z
    · exact hok2.1 x z) (by rw [he2];exact t5)
  have hsat1:∀i,i<st1.length→sat st1 i=i:=fun i hi=>g5 i (by omega)
  have hz2:∀t,k<t→t<st1.length→e2 t k=0:=fun t h1 h2=>t5.zl t h2 k (by rw [hsat1 t h2];exact h1)
  simp only [id] at f2 f3
  suffices hmain:Bare k e2∧(∀i,i<k→∀y,e2 i y=e0 i y)∧PK k e0 e2 by
    obtain ⟨m1,m2,m3⟩:=hmain
    obtain ⟨a,b,c,d⟩:=red_bare hsat1 st1.length e2 L3 e3 t6 (Nat.le_refl _) m1 hz2
    refine ⟨a,fun i hi y=>by rw [b i hi,m2 i hi],by rw [c];exact m3.1,fun hq y=>?_⟩
    rw [c] at hq
    have he:=m3.2 hq
    rw [d (fun y hy=>by
      rw [he y]
      rcases Nat.lt_or_ge y k with z | z
      · exact (hb0 y z k (by omega)).2
      · rcases Nat.lt_or_ge y r with z2 | z2
        · exact h0.z k y z2 (by simp only [id];omega)
        · exact h0.col k y z2) y,he y]
  rcases Nat.lt_or_ge k low with hlow | hlow
  · -- behind place k
    have hkm:k<st.length:=by
      apply Classical.byContradiction
      intro hn
      have:=f3 k (by omega) hkr
      omega
    have hzl:∀y,y<k→rapps L0 e0 low y=0:=fun y hy=>(j1 y hy low (by omega)).2
    have t1':=take_to (k:=k) (by omega) (by omega) (fun i hi=>f5 i (by omega)) t1 hzl (by omega)
    have hsk:sat st k=k:=f5 k (by omega)
    have lift_part:k+1≤top→(∀c∈L2,c.ge (k+1)):=by
      intro ht c hc
      rcases t4 with z | z
      · rw [z.2.2.1] at hc
        unfold liftL at hc
        rcases List.mem_append.mp hc with y | y
        · split at y
          · simp at y
          · simp at y;subst y;exact ⟨by omega,by omega⟩
        · have:∀(n:Nat),∀c∈downs top n,c.ge (k+1):=by
            intro n
            induction n with
            | zero=>intro c hc;simp [downs] at hc
            | succ n ih =>
              intro c hc
              simp only [downs,List.mem_cons] at hc
              rcases hc with q | q
              · subst q;exact ⟨by omega,by omega⟩
              · exact ih c q
          exact this _ c y
      · rw [z.2.2.1] at hc;simp at hc
    have hfp:k≤fp (rapps L0 e0 low) 0 w:=by
      rcases Nat.eq_zero_or_pos k with z | z
      · omega
      · have:=fp_gt (r:=rapps L0 e0 low) (w:=w) (y:=k - 1) (by omega) (fun x hx=>hzl x (by omega))
        omega
    cases t1' with
    | stop _ hn=>exact absurd ⟨hkm,by rw [hsk];exact hfp⟩ hn
    | skip _ _ _ h2 =>
      obtain ⟨a,b⟩:=take_ge (k:=k+1) (by omega) h2 (Nat.le_refl _)
      have hge:∀c∈L1++L2,c.ge (k+1):=fun c hc=>by
        rcases List.mem_append.mp hc with z | z
        · exact a c z
        · exact lift_part b c z
      have e2':rapps (L1++L2) (rapps L0 e0)=e2:=by rw [rapps_app,ht1,hok2.2]
      have hrows:=ge_rows (L1++L2) (rapps L0 e0) hge
      rw [e2'] at hrows
      refine ⟨e2'▸ge_bare _ _ (fun c hc=>(hge c hc).mono (by omega)) j1,fun i hi y=>by rw [hrows i (by omega),j2 i hi],?_⟩
      refine ⟨by rw [hrows k (by omega)];exact j3.1,fun hq y=>?_⟩
      rw [hrows k (by omega)] at hq
      rw [hrows k (by omega),j3.2 hq y]
    | @meet _ _ _ m1 m2 m3 _ M1 M2 M3 M4 _ _ _ hm hl1 hl2 h2 =>
      obtain ⟨a,b⟩:=take_ge (k:=k+1) (by omega) h2 (Nat.le_refl _)
      rw [hsk] at hm
      have hkl:k≠low:=by omega
      have hge4:∀c∈M4++L2,c.ge (k+1):=fun c hc=>by
        rcases List.mem_append.mp hc with z | z
        · exact a c z
        · exact lift_part b c z
      have e2':rapps (M4++L2) m3=e2:=by rw [rapps_app,take_rapps h2,hok2.2]
      have hrows:=ge_rows (M4++L2) m3 hge4
      rw [e2'] at hrows
      have hge1:∀c∈M1++(M2++M3),c.ge k:=fun c hc=>by
        simp only [List.mem_append] at hc
        rcases hc with z | z | z
        · exact meet_ge (Nat.le_refl _) (by omega) hm c z
        · exact lrow_ge (Nat.le_refl _) _ _ _ _ _ hl1 (by omega) c z
        · exact lrow_ge (by omega) _ _ _ _ _ hl2 (by omega) c z
      have e3':rapps (M1++(M2++M3)) (rapps L0 e0)=m3:=by rw [rapps_app,rapps_app,meet_rapps hm,lrow_rapps _ _ _ _ _ hl1,lrow_rapps _ _ _ _ _ hl2]
      have hb3:Bare k m3:=e3'▸ge_bare _ _ hge1 j1
      have hr3:∀i,i<k→∀y,m3 i y=rapps L0 e0 i y:=by
        have:=ge_rows _ (rapps L0 e0) hge1
        rw [e3'] at this
        exact this
      have hb2:Bare k e2:=e2'▸ge_bare _ _ (fun c hc=>(hge4 c hc).mono (by omega)) hb3
      have hk3:∀y,m3 k y=m2 k y:=fun y=>lrow_rows _ _ _ _ _ hl2 k hkl y
      have hzt:∀t,k<t→t<st.length→m1 t k=0:=fun t h3 h4=>by
        rw [meet_rows hm t (by omega) (by omega)]
        exact hs.zl t h4 k (by rw [f5 t (by omega)];exact h3)
      have hkk:m2 k k=m1 k k:=lrow_col _ _ _ _ _ hl1 (by omega) (fun i h3 h4=>hzt i (by omega) (by omega))
      have hdv:=meet_dvd hkl hm
      refine ⟨hb2,fun i hi y=>by rw [hrows i (by omega),hr3 i hi,j2 i hi],?_⟩
      have hk2:e2 k k=m1 k k:=by rw [hrows k (by omega),hk3,hkk]
      refine ⟨by rw [hk2];exact Int.dvd_trans hdv.1 j3.1,fun hq y=>?_⟩
      rw [hk2] at hq
      have n0:e0 k k≠0:=h0.nz k hkr
      have q1:=Int.natAbs_dvd_natAbs.mpr hdv.1
      have q2:=Int.natAbs_dvd_natAbs.mpr j3.1
      have q3:(rapps L0 e0 k k).natAbs=(e0 k k).natAbs:=Nat.dvd_antisymm q2 (by rw [←hq];exact q1)
      have hrow0:=j3.2 q3
      have hd2:rapps L0 e0 k k∣rapps L0 e0 low k:=by
        refine Int.dvd_trans ?_ hdv.2
        exact Int.natAbs_dvd_natAbs.mp (by rw [q3,←hq];exact Nat.dvd_refl _)
      have hmk:=meet_keep hkl hm hd2
      have hm1z:∀y,y≠k→m1 k y=0:=fun y hy=>by
        rw [hmk y,hrow0 y]
        rcases Nat.lt_or_ge y k with z | z
        · exact (hb0 y z k (by omega)).2
        · rcases Nat.lt_or_ge y r with z2 | z2
          · exact h0.z k y z2 (by simp only [id];omega)
          · exact h0.col k y z2
      obtain ⟨_,hnil⟩:=lrow_nil _ _ _ _ _ hl1 (fun i h3 h4=>by rw [f5 i (by omega)];exact hm1z i (by omega))
      rw [hrows k (by omega),hk3,hnil,hmk y,hrow0 y]
  · -- up to place k: nothing is done
    have hm:st.length=low:=by
      have h1:low≤st.length:=by
        apply Classical.byContradiction
        intro hn
        have:=f3 st.length (by omega) (by omega)
        omega
      omega
    have t1':=take_to (k:=low) (by omega) (by omega) (fun i hi=>f5 i (by omega)) t1 (fun y hy=>(j1 y (by omega) low (by omega)).2) (by omega)
    have hstop:L1=[]∧top=low∧e1=rapps L0 e0:=by
      cases t1' with
      | stop=>exact ⟨rfl,rfl,rfl⟩
      | skip _ hlt=>omega
      | meet _ hlt=>omega
    obtain ⟨s1,s2,s3⟩:=hstop
    have he2':e2=rapps L0 e0:=by
      rcases t4 with z | z
      · rw [z.2.2.2,z.2.2.1,s2,hm,s3]
        have:liftL low low low=[]:=by simp [liftL,downs]
        rw [this];rfl
      · rw [z.2.2.2,s3]
    rw [he2']
    exact ⟨j1,j2,j3⟩
end E1
namespace E1
open Dt
def tipT (e:Tab):Tab:=fun x y=>e y x
structure Tri (e:Tab) (r D:Nat):Prop where
  low:LowE e id r
  rz:∀x y,r≤x→e x y=0
  le:∀x y,(e x y).natAbs≤D
  pr:(pr (fun i=>e i i) (List.range r)).natAbs≤D
structure Room (n w c N K cap:Nat) (P:Nat→Nat):Prop where
  fK:∀m m',m<n→m≤w→m'≤m+1→m'≤w→m*m+so m' m'≤K
  fcap:ups K c≤cap
  fP:∀low m m',low<n→m≤low→m≤w→m'≤m+1→m'≤w→m*(3*N+2*m)+(m+1)+so m' m'≤P low
theorem stairs_nil (e:Tab) (w:Nat):Stairs e [] w 0:=⟨by simp,fun i h=>absurd h (by simp),fun i j _ h=>absurd h (by simp),fun i h=>absurd h (by simp),fun i h=>absurd h (by simp),fun x _ h=>absurd h (by omega)⟩
theorem redd_nil (e:Tab):Redd e []:=fun i t _ h=>absurd h (by simp)
theorem build_low {e0:Tab} {s:Nat→Nat} {r n w c N K cap D:Nat} {P:Nat→Nat} {J:Nat→Tab→Prop} (h0:LowE e0 s r) (hsn:∀j,j<r→s j<n) (hrw:r≤w)
    (hrz:∀x y,n≤x→e0 x y=0) (hw:Wide e0 w) (hle:∀x y,(e0 x y).natAbs≤2^c) (hpr:(pr (fun j=>e0 (s j) j) (List.range r)).natAbs≤D) (hDc:D≤2^c) (hDN:D<4^N)
    (hroom:Room n w c N K cap P) (hJ0:J 0 e0)
    (hJ:∀low,low<n→∀(L0:List RC) (st:List Nat),(∀x∈L0,x.ok low)→Stairs (rapps L0 e0) st w low→Redd (rapps L0 e0) st→(∀x,low≤x→∀y,rapps L0 e0 x y=e0 x y) →
      J low (rapps L0 e0)→∀L st1 e3,Step cap w low st (rapps L0 e0) L st1 e3→J (low+1) e3) :
    ∃L st' e',Build cap w n 0 [] e0 L st' e'∧rapps L e0=e'∧(∀x∈L,x.ok n)∧L.length≤sumP P 0 n∧Tri (tipT e') r D∧J n e'∧(∀D',(pr (fun i=>e' i i) (List.range r)).natAbs≤D'→Tri (tipT e') r D'):=by
  have hk:Known e0 w n c N:=known_low h0 hle (Nat.le_trans hpr hDc) (Nat.lt_of_le_of_lt hpr hDN)
  obtain ⟨L,st,e',b1,b2,b3,b4,b5,b6,b7,b8⟩:=build_ex hw hk hroom.fK hroom.fcap hroom.fP hJ n 0 [] [] (by omega) (fun x hx=>absurd hx (by simp)) (stairs_nil _ _) (redd_nil _) (fun _ _ _=>rfl) hJ0
  rw [List.nil_append] at b2
  subst b2
  obtain ⟨r',f1,f2,f3,f4,f5,f6,f7⟩:=lowE_stairs h0 b5 b3
  have hr:r'=r:=by
    apply Classical.byContradiction
    intro hne
    have h1:=f3 r' (Nat.le_refl _) (by omega)
    have h2:=hsn r' (by omega)
    omega
  subst hr
  suffices key:∀D',(pr (fun i=>rapps L e0 i i) (List.range r')).natAbs≤D'→Tri (tipT (rapps L e0)) r' D' from ⟨L,st,_,b1,rfl,b5,b6,key D (Nat.le_trans f7 hpr),b8,key⟩
  intro D hprD
  have hcol:∀x y,r'≤y→rapps L e0 x y=0:=fun x y hy=>by
    rcases Nat.lt_or_ge x n with z | z
    · exact f6 x y z hy
    · rw [b7 x z];exact hrz x y z
  have hrow:∀x y,r'≤x→rapps L e0 x y=0:=fun x y hx=>by
    rcases Nat.lt_or_ge x n with z | z
    · exact b3.zr x (by omega) z y
    · rw [b7 x z];exact hrz x y z
  have hnz:∀i,i<r'→rapps L e0 i i≠0:=fun i hi=>by
    have:=b3.nz i (by omega)
    rw [f5 i hi] at this
    exact this
  have hup:∀i j,i<r'→j<i→rapps L e0 i j=0:=fun i j hi hj=>b3.zl i (by omega) j (by rw [f5 i hi];exact hj)
  have hpnz:pr (fun i=>rapps L e0 i i) (List.range r')≠0:=by
    intro hz
    obtain ⟨i,hi,h⟩:=pr_zero.mp hz
    exact hnz i (List.mem_range.mp hi) h
  have hpiv:∀i,i<r'→(rapps L e0 i i).natAbs≤D:=fun i hi=>Nat.le_trans (pr_part_le (d:=fun i=>rapps L e0 i i) hi hpnz) hprD
  refine ⟨⟨fun i j h _=>h,fun x j h1 h2=>?_,fun x j h1=>?_,fun j hj=>?_⟩,fun x y hx=>?_,fun x y=>?_,hprD⟩
  · -- above the diagonal of the tipped table
    show rapps L e0 j x=0
    exact hup j x h1 h2
  · show rapps L e0 j x=0
    exact hrow j x h1
  · show rapps L e0 j j≠0
    exact hnz j hj
  · show rapps L e0 y x=0
    exact hcol y x hx
  · show (rapps L e0 y x).natAbs≤D
    rcases Nat.lt_or_ge y r' with hy | hy
    · rcases Nat.lt_or_ge x r' with hx | hx
      · rcases Nat.lt_trichotomy x y with z | z | z
        · rw [hup y x hy z];simp
        · subst z;exact hpiv x hx
        · have h1:=b4 y x z (by omega)
          rw [f5 x hx] at h1
          have h2:=hpiv x hx
          omega
      · rw [hcol y x hx];simp
    · rw [hrow y x hy];simp
def Both (cap h w:Nat) (e:Tab) (L1 L2:List RC) (e':Tab):Prop :=
  ∃st1 e1 st2 e2,Build cap w h 0 [] e L1 st1 e1∧Build cap h w 0 [] (tipT e1) L2 st2 e2∧e'=tipT e2
def app2 (c:Bool×RC) (e:Tab):Tab:=if c.1 then c.2.app e else tipT (c.2.app (tipT e))
def apps2 (L:List (Bool×RC)) (e:Tab):Tab:=L.foldl (fun e c=>app2 c e) e
theorem apps2_app (L M:List (Bool×RC)) (e:Tab):apps2 (L++M) e=apps2 M (apps2 L e):=List.foldl_append
theorem apps2_row:∀(L:List RC) (e:Tab),apps2 (L.map (Prod.mk true)) e=rapps L e
  | [],_=>rfl
  | c::L,e=>by
    have:apps2 ((c::L).map (Prod.mk true)) e=apps2 (L.map (Prod.mk true)) (c.app e):=rfl
    rw [this,apps2_row L];rfl
theorem apps2_col:∀(L:List RC) (e:Tab),apps2 (L.map (Prod.mk false)) e=tipT (rapps L (tipT e))
  | [],_=>rfl
  | c::L,e=>by
    have:apps2 ((c::L).map (Prod.mk false)) e=apps2 (L.map (Prod.mk false)) (tipT (c.app (tipT e))):=rfl
    rw [this,apps2_col L];rfl
def ok2 (h w:Nat) (c:Bool×RC):Prop:=c.2.ok (if c.1 then h else w)
theorem both_apps {cap h w:Nat} {e e' e1 e2:Tab} {L1 L2:List RC} (h1:rapps L1 e=e1) (h2:rapps L2 (tipT e1)=e2) (h3:e'=tipT e2):apps2 (L1.map (Prod.mk true)++L2.map (Prod.mk false)) e=e':=by
  rw [apps2_app,apps2_row,apps2_col,h1,h2,h3]
theorem round_ex {e:Tab} {r h w c N K1 K2 cap D k:Nat} {P1 P2:Nat→Nat} (ht:Tri e r D) (hrh:r≤h) (hrw:r≤w) (hDc:D≤2^c) (hDN:D<4^N)
    (hr1:Room h w c N K1 cap P1) (hr2:Room w h c N K2 cap P2) (hk:k<r) (hb:Bare k e) :
    ∃L1 L2 e',Both cap h w e L1 L2 e'∧apps2 (L1.map (Prod.mk true)++L2.map (Prod.mk false)) e=e'∧(∀x∈L1,x.ok h)∧(∀x∈L2,x.ok w)∧L1.length+L2.length≤sumP P1 0 h+sumP P2 0 w ∧
      Tri e' r D∧(Bare (k+1) e'∨(Bare k e'∧2*(e' k k).natAbs≤(e k k).natAbs)):=by
  have hwide:∀{e:Tab} {w:Nat},Tri e r D→r≤w→Wide e w:=fun t hw x y hy=>t.low.col x y (by omega)
  obtain ⟨L1,st1,e1,a1,a2,a3,a4,a5,a6,_⟩:=build_low (J:=fun _ e'=>BJ k e e') ht.low (fun j hj=>by simp only [id];omega) hrw (fun x y hx=>ht.rz x y (by omega)) (hwide ht hrw) (fun x y=>Nat.le_trans (ht.le x y) hDc) ht.pr hDc hDN hr1
    ⟨hb,fun _ _ _=>rfl,Int.dvd_refl _,fun _ _=>rfl⟩
    (fun low _ L0 st q1 q2 q3 q4 q5 L st1 e3 q6=>bare_step ht.low hk hrw q1 q2 q5 q6 hb)
  have hb1:Bare k (tipT e1):=fun i hi j hj=>⟨(a6.1 i hi j hj).2,(a6.1 i hi j hj).1⟩
  obtain ⟨L2,st2,e2,c1,c2,c3,c4,c5,c6,_⟩:=build_low (J:=fun _ e'=>BJ k (tipT e1) e') a5.low (fun j hj=>by simp only [id];omega) hrh (fun x y hx=>a5.rz x y (by omega)) (hwide a5 hrh) (fun x y=>Nat.le_trans (a5.le x y) hDc) a5.pr hDc hDN hr2
    ⟨hb1,fun _ _ _=>rfl,Int.dvd_refl _,fun _ _=>rfl⟩
    (fun low _ L0 st q1 q2 q3 q4 q5 L st1 e3 q6=>bare_step a5.low hk hrh q1 q2 q5 q6 hb1)
  refine ⟨L1,L2,tipT e2,⟨st1,e1,st2,e2,a1,c1,rfl⟩,both_apps (cap:=cap) (h:=h) (w:=w) a2 c2 rfl,a3,c3,by omega,c5,?_⟩
  have d1:e1 k k∣e k k:=a6.2.2.1
  have d2:e2 k k∣e1 k k:=c6.2.2.1
  have hb2:Bare k (tipT e2):=fun i hi j hj=>⟨(c6.1 i hi j hj).2,(c6.1 i hi j hj).1⟩
  have hnz:e k k≠0:=ht.low.nz k hk
  by_cases hq:(e2 k k).natAbs=(e k k).natAbs
  · left
    have q1:=Int.natAbs_dvd_natAbs.mpr d1
    have q2:=Int.natAbs_dvd_natAbs.mpr d2
    have q3:(e1 k k).natAbs=(e k k).natAbs:=Nat.dvd_antisymm q1 (by rw [←hq];exact q2)
    have hrow1:=a6.2.2.2 q3
    have hrow2:=c6.2.2.2 (by show (e2 k k).natAbs=(e1 k k).natAbs;omega)
    have z0:∀y,y≠k→e k y=0:=fun y hy=>by
      rcases Nat.lt_or_ge y k with z | z
      · exact (hb y z k (by omega)).2
      · rcases Nat.lt_or_ge y r with z2 | z2
        · exact ht.low.z k y z2 (by simp only [id];omega)
        · exact ht.low.col k y z2
    have z1:∀y,y≠k→e1 y k=0:=fun y hy=>by
      rcases Nat.lt_or_ge y k with z | z
      · exact (a6.1 y z k (by omega)).1
      · rcases Nat.lt_or_ge y r with z2 | z2
        · have:=a5.low.z k y z2 (by simp only [id];omega)
          exact this
        · have:=a5.low.col k y z2
          exact this
    intro i hi j hj
    rcases Nat.lt_or_ge i k with z | z
    · exact hb2 i z j hj
    · have:i=k:=by omega
      subst this
      refine ⟨?_,?_⟩
      · -- e2 j k:above or below
        show e2 j i=0
        rcases Nat.lt_or_ge j i with z3 | z3
        · exact (c6.1 j z3 i (by omega)).1
        · rcases Nat.lt_or_ge j r with z2 | z2
          · exact c5.low.z i j z2 (by simp only [id];omega)
          · exact c5.low.col i j z2
      · show e2 i j=0
        rw [hrow2 j]
        exact z1 j hj
  · right
    refine ⟨hb2,?_⟩
    show 2*(e2 k k).natAbs≤(e k k).natAbs
    obtain ⟨q,hq2⟩:=Int.natAbs_dvd_natAbs.mpr (Int.dvd_trans d2 d1)
    rcases q with _ | _ | q
    · simp at hq2;omega
    · omega
    · rw [hq2]
      have:(e2 k k).natAbs*2≤(e2 k k).natAbs*(q+1+1):=Nat.mul_le_mul_left _ (by omega)
      omega
def beside (h w:Nat) (e:Tab):Prop:=∃x y,x<h∧y<w∧y≠x∧e x y≠0
inductive Rounds (cap h w:Nat):Tab→List (Bool×RC)→Tab→Prop
  | stop {e:Tab}:¬ beside h w e→Rounds cap h w e [] e
  | turn {e e1 e':Tab} {L1 L2:List RC} {L:List (Bool×RC)}:beside h w e→Both cap h w e L1 L2 e1→Rounds cap h w e1 L e'→Rounds cap h w e ((L1.map (Prod.mk true)++L2.map (Prod.mk false))++L) e'
theorem rounds_ex {r h w c N K1 K2 cap D b:Nat} {P1 P2:Nat→Nat} (hrh:r≤h) (hrw:r≤w) (hDc:D≤2^c) (hDN:D<4^N) (hDb:D<2^b)
    (hr1:Room h w c N K1 cap P1) (hr2:Room w h c N K2 cap P2):∀(u k v:Nat) (e:Tab),Tri e r D→k≤r→Bare k e→(e k k).natAbs<2^v→v+(r - (k+1))*b≤u →
    ∃L e',Rounds cap h w e L e'∧¬ beside h w e'∧apps2 L e=e'∧(∀x∈L,ok2 h w x)∧L.length≤u*(sumP P1 0 h+sumP P2 0 w)∧Tri e' r D:=by
  intro u
  induction u with
  | zero =>
    intro k v e ht hkr hb hv hu
    by_cases hbs:beside h w e
    · -- k is not the last place: then v is not nought
      rcases Nat.lt_or_ge k r with z | z
      · have:=ht.low.nz k z
        simp only [id] at this
        have hv0:v=0:=by omega
        subst hv0
        simp at hv;omega
      · obtain ⟨x,y,_,_,hne,hxy⟩:=hbs
        rcases Nat.lt_or_ge x k with q | q
        · exact absurd (hb x q y hne).1 hxy
        · exact absurd (ht.rz x y (by omega)) hxy
    · exact ⟨[],e,.stop hbs,hbs,rfl,by simp,by simp,ht⟩
  | succ u ih =>
    intro k v e ht hkr hb hv hu
    by_cases hbs:beside h w e
    · rcases Nat.lt_or_ge k r with z | z
      · obtain ⟨L1,L2,e1,a1,a2,a3,a4,a5,a6,a7⟩:=round_ex ht hrh hrw hDc hDN hr1 hr2 z hb
        have hv0:v≠0:=fun hv0=>by
          have:=ht.low.nz k z
          simp only [id] at this
          subst hv0
          simp at hv;omega
        have hnext:∃L e',Rounds cap h w e1 L e'∧¬ beside h w e'∧apps2 L e1=e'∧(∀x∈L,ok2 h w x)∧L.length≤u*(sumP P1 0 h+sumP P2 0 w)∧Tri e' r D:=by
          rcases a7 with a7 | a7
          · rcases Nat.lt_or_ge (k+1) r with z2 | z2
            · refine ih (k+1) b e1 a6 (by omega) a7 (Nat.lt_of_le_of_lt (a6.le _ _) hDb) ?_
              have e1:r - (k+1)=(r - (k+1+1))+1:=by omega
              rw [e1,Nat.succ_mul] at hu
              omega
            · have hk1:k+1=r:=by omega
              refine ih (k+1) 0 e1 a6 (by omega) a7 (by rw [a6.rz (k+1) (k+1) (by omega)];simp) ?_
              have:r - (k+1+1)=0:=by omega
              rw [this];omega
          · refine ih k (v - 1) e1 a6 hkr a7.1 ?_ (by omega)
            obtain ⟨v',rfl⟩:∃v',v=v'+1:=⟨v - 1,by omega⟩
            rw [Nat.pow_succ] at hv
            have:=a7.2
            simp only [Nat.add_sub_cancel]
            omega
        obtain ⟨L,e',n1,n2,n3,n4,n5,n6⟩:=hnext
        refine ⟨_,e',.turn hbs a1 n1,n2,by rw [apps2_app,a2,n3],?_,?_,n6⟩
        · intro x hx
          simp only [List.mem_append,List.mem_map] at hx
          rcases hx with (⟨c,hc,rfl⟩ | ⟨c,hc,rfl⟩) | hx
          · exact a3 c hc
          · exact a4 c hc
          · exact n4 x hx
        · simp only [List.length_append,List.length_map]
          have:(u+1)*(sumP P1 0 h+sumP P2 0 w)=u*(sumP P1 0 h+sumP P2 0 w)+(sumP P1 0 h+sumP P2 0 w):=Nat.succ_mul _ _
          omega
      · obtain ⟨x,y,_,_,hne,hxy⟩:=hbs
        rcases Nat.lt_or_ge x k with q | q
        · exact absurd (hb x q y hne).1 hxy
        · exact absurd (ht.rz x y (by omega)) hxy
    · exact ⟨[],e,.stop hbs,hbs,rfl,by simp,by simp,ht⟩
theorem first_ex {e:Tab} {h w c1 N1 K1 c2 N2 K2 cap B D:Nat} {P1 P2:Nat→Nat} (hw:Wide e w) (hh:∀x y,h≤x→e x y=0) (hB:∀x y,(e x y).natAbs≤B) (hB1:B≤2^c1)
    (hB2:∀m,m≤h→m≤w→m*(fac m*B^m)≤2^c1) (hN1:2^c1<4^N1) (hD:∀m,m≤h→m≤w→fac m*B^m≤D) (hDc:D≤2^c2) (hc:c1≤c2) (hDN:D<4^N2)
    (hr1:Room h w c1 N1 K1 cap P1) (hr2:Room w h c2 N2 K2 cap P2) :
    ∃L1 L2 e' r,Both cap h w e L1 L2 e'∧apps2 (L1.map (Prod.mk true)++L2.map (Prod.mk false)) e=e'∧(∀x∈L1,x.ok h)∧(∀x∈L2,x.ok w)∧L1.length+L2.length≤sumP P1 0 h+sumP P2 0 w ∧
      r≤h∧r≤w∧Tri e' r D∧(∀D',(pr (fun i=>e' i i) (List.range r)).natAbs≤D'→Tri e' r D'):=by
  have hk:Known e w h c1 N1:=known_any hB hB1 hB2 hN1
  obtain ⟨L1,st,e1,b1,b2,b3,b4,b5,b6,b7,_⟩:=build_ex (J:=fun _ _=>True) hw hk hr1.fK hr1.fcap hr1.fP (fun _ _ _ _ _ _ _ _ _ _ _ _ _=>trivial) h 0 [] [] (by omega) (fun x hx=>absurd hx (by simp)) (stairs_nil _ _) (redd_nil _) (fun _ _ _=>rfl) trivial
  rw [List.nil_append] at b2
  have hw1:Wide e1 w:=b2▸wide_app hw L1
  have hrz:∀x y,st.length≤x→e1 x y=0:=fun x y hx=>by
    rcases Nat.lt_or_ge x h with z | z
    · exact b3.zr x hx z y
    · rw [b7 x z];exact hh x y z
  have hlow:LowE (tipT e1) (sat st) st.length:=⟨b3.mono,fun x j h1 h2=>b3.zl j h1 x h2,fun x j h1=>hrz j x h1,fun j hj=>b3.nz j hj⟩
  have hprod:(pr (fun j=>tipT e1 (sat st j) j) (List.range st.length)).natAbs≤D:=by
    have hd:=peel_steps (e:=cut h e1) (s:=sat st) (k:=0) (m:=st.length) [] st.length 0 (by omega) (fun i j h1 h2=>by
      unfold cut;split
      · exact b3.zl j h2 _ (b3.mono i j h1 h2)
      · rfl)
    simp only [List.append_nil,Nat.add_zero,Nat.zero_add,List.range'_zero,det,Int.mul_one] at hd
    have hcl:∀l:List Nat,(∀x∈l,x<h)→pr (fun i=>cut h e1 i (sat st i)) l=pr (fun j=>tipT e1 (sat st j) j) l:=by
      intro l
      induction l with
      | nil=>intro _;rfl
      | cons a l ih=>intro hl;simp only [pr];rw [ih (fun x hx=>hl x (List.mem_cons_of_mem _ hx))];simp [cut,tipT,hl a (List.mem_cons_self ..)]
    have hlen:=b3.len
    rw [hcl _ (fun x hx=>by have:=List.mem_range'_1.mp hx;omega)] at hd
    have hg:∀I:List Nat,I.length=st.length→det (cut h e1) (List.range' 0 st.length) ((List.range' 0 st.length).map (sat st))∣det (cut h e1) I ((List.range' 0 st.length).map (sat st)):=by
      intro I hI
      by_cases h1:I.Nodup
      · by_cases h2:∀x∈I,x<st.length
        · obtain ⟨s,_,hp⟩:=row_perm (e:=cut h e1) (perm_range st.length h1 h2 hI).symm
          rw [hp,List.range_eq_range'];exact Int.dvd_mul_left _ _
        · have:∃x∈I,st.length≤x:=by
            apply Classical.byContradiction
            intro hc'
            exact h2 (fun x hx=>by
              apply Classical.byContradiction
              intro hlt
              exact hc' ⟨x,hx,by omega⟩)
          obtain ⟨x,hx,hxr⟩:=this
          rw [det_row_zero hx (fun c _=>by
            unfold cut;split
            · exact hrz x c hxr
            · rfl)]
          exact Int.dvd_zero _
      · rw [row_dup h1];exact Int.dvd_zero _
    rw [←b2] at hg
    have hg0:=(go_rows L1 e b5).mpr hg
    rw [b2] at hg0
    by_cases hz:∀I:List Nat,I.length=st.length→det (cut h e) I ((List.range' 0 st.length).map (sat st))=0
    · have:=(go_rows (g:=0) (J:=(List.range' 0 st.length).map (sat st)) (k:=st.length) L1 e b5).mp (fun I hI=>by rw [hz I hI];exact Int.dvd_refl _) (List.range' 0 st.length) (by simp)
      rw [b2,hd] at this
      rw [List.range_eq_range',Int.zero_dvd.mp this];simp
    · have:∃I:List Nat,I.length=st.length∧det (cut h e) I ((List.range' 0 st.length).map (sat st))≠0:=by
        apply Classical.byContradiction
        intro hc'
        exact hz (fun I hI=>by
          apply Classical.byContradiction
          intro hne
          exact hc' ⟨I,hI,hne⟩)
      obtain ⟨I,hI,hne⟩:=this
      have h1:=Nat.le_of_dvd (by omega) (Int.natAbs_dvd_natAbs.mpr (hg0 I hI))
      have h2:=det_le (e:=cut h e) (B:=B) I (fun r _ c=>by
        unfold cut;split
        · exact hB r c
        · simp) ((List.range' 0 st.length).map (sat st)) (by simp;omega)
      rw [hI] at h2
      rw [hd] at h1
      rw [List.range_eq_range']
      exact Nat.le_trans h1 (Nat.le_trans h2 (hD _ b3.len b3.len_w))
  have hle1:∀x y,(tipT e1 x y).natAbs≤2^c2:=fun x y=>by
    show (e1 y x).natAbs≤2^c2
    rcases Nat.lt_or_ge y h with z | z
    · have:=hk.bd h (Nat.le_refl _) L1 st b5 (by rw [b2];exact b3) (by rw [b2];exact b4) y z x
      rw [b2] at this
      exact Nat.le_trans this (Nat.pow_le_pow_right (by decide) hc)
    · rw [b7 y z,hh y x z];simp
  obtain ⟨L2,st2,e2,c1,c2,c3,c4,c5,_,c6⟩:=build_low (J:=fun _ _=>True) hlow (fun j hj=>b3.lt j hj) b3.len (fun x y hx=>hw1 y x hx) (fun x y hy=>hrz y x (by have:=b3.len;omega)) hle1 hprod hDc hDN hr2 trivial (fun _ _ _ _ _ _ _ _ _ _ _ _ _=>trivial)
  exact ⟨L1,L2,tipT e2,st.length,⟨st,e1,st2,e2,b1,c1,rfl⟩,both_apps (cap:=cap) (h:=h) (w:=w) b2 c2 rfl,b5,c3,by omega,b3.len,b3.len_w,c5,c6⟩
end E1
namespace E1
open Dt
structure Dg (e:Tab) (r D:Nat):Prop where
  off:∀x y,x≠y→e x y=0
  nz:∀i,i<r→e i i≠0
  z:∀i,r≤i→e i i=0
  pr:(pr (fun i=>e i i) (List.range r)).natAbs≤D
theorem dg_of_tri {e:Tab} {r D h w:Nat} (ht:Tri e r D) (hrh:r≤h) (hrw:r≤w) (hb:¬ beside h w e):Dg e r D:=by
  refine ⟨fun x y hxy=>?_,fun i hi=>ht.low.nz i hi,fun i hi=>ht.rz i i hi,ht.pr⟩
  apply Classical.byContradiction
  intro hne
  rcases Nat.lt_or_ge x r with z | z
  · rcases Nat.lt_or_ge y r with z2 | z2
    · exact hb ⟨x,y,by omega,by omega,Ne.symm hxy,hne⟩
    · exact hne (ht.low.col x y z2)
  · exact hne (ht.rz x y z)
theorem pr_congr {d d':Nat→Int} {l:List Nat} (h:∀i∈l,d i=d' i):pr d l=pr d' l:=by
  induction l with
  | nil=>rfl
  | cons a l ih=>simp only [pr];rw [h a (List.mem_cons_self ..),ih (fun i hi=>h i (List.mem_cons_of_mem _ hi))]
theorem Dg.one {e:Tab} {r D:Nat} (h:Dg e r D) (hD:0<D) (x y:Nat):(e x y).natAbs≤D:=by
  by_cases hxy:x=y
  · subst hxy
    rcases Nat.lt_or_ge x r with z | z
    · refine Nat.le_trans (pr_part_le (d:=fun i=>e i i) z ?_) h.pr
      intro hz
      obtain ⟨i,hi,h0⟩:=pr_zero.mp hz
      exact h.nz i (List.mem_range.mp hi) h0
    · rw [h.z x z];simp
  · rw [h.off x y hxy];simp
theorem Dg.pos {e:Tab} {r D:Nat} (h:Dg e r D):0<D:=by
  have:Dt.pr (fun i=>e i i) (List.range r)≠0:=by
    intro hz
    obtain ⟨i,hi,h0⟩:=pr_zero.mp hz
    exact h.nz i (List.mem_range.mp hi) h0
  have:=h.pr
  omega
def LinkR (cap one two:Nat) (e:Tab) (L:List (Bool×RC)) (e':Tab):Prop :=
  Le cap e∧Le cap (addR e one two 1)∧∃L2 e2,MeetR cap one two one (tipT (addR e one two 1)) L2 e2∧Le cap e2∧e2 one one≠0∧e'=less (tipT e2) two one one∧Le cap e' ∧
    L=(true,.add one two 1)::(L2.map (Prod.mk false)++(lch two one (lq (tipT e2) two one one)).map (Prod.mk true))
theorem link_ex {e:Tab} {r D cap c N one two h w:Nat} (hd:Dg e r D) (h12:one<two) (h2r:two<r) (hDc:D≤2^c) (hDN:D<4^N) (hcap:ups 2 c≤cap) (hh:r≤h) (hw:r≤w) :
    ∃L e',LinkR cap one two e L e'∧apps2 L e=e'∧(∀x∈L,ok2 h w x)∧L.length≤3*N+2∧Dg e' r D∧(∀i,i≠one→i≠two→e' i i=e i i) ∧
      e' one one∣e one one∧e' one one∣e two two∧e one one∣e' two two∧(∀m,m∣e one one→m∣e two two→m∣e' one one):=by
  have hpos:=hd.pos
  have hone:=hd.one hpos
  have hle:Le c e:=fun x y=>Nat.le_trans (hone x y) hDc
  have ne12:one≠two:=by omega
  have v1:∀x y,addR e one two 1 x y=if x=one then (if y=one then e one one else if y=two then e two two else 0) else e x y:=by
    intro x y
    unfold addR
    split
    · by_cases hy:y=one
      · subst hy;rw [if_pos rfl,hd.off two y (by omega)];simp
      · rw [if_neg hy,hd.off one y (Ne.symm hy)]
        by_cases hy2:y=two
        · subst hy2;rw [if_pos rfl];simp
        · rw [if_neg hy2,hd.off two y (Ne.symm hy2)];simp
    · rfl
  have hle1:Le c (addR e one two 1):=fun x y=>by
    rw [v1]
    split
    · split
      · exact hle _ _
      · split
        · exact hle _ _
        · simp
    · exact hle _ _
  have hle1':Le c (tipT (addR e one two 1)):=fun x y=>hle1 y x
  have x0:tipT (addR e one two 1) one one=e one one:=by show addR e one two 1 one one=_;rw [v1,if_pos rfl,if_pos rfl]
  have y0:tipT (addR e one two 1) two one=e two two:=by show addR e one two 1 one two=_;rw [v1,if_pos rfl,if_neg (by omega),if_pos rfl]
  have hcap1:2*c+3≤cap:=Nat.le_trans (ups_ge 1 (2*c+3)) hcap
  obtain ⟨L2,e2,s,t,s',t',m1,m2,m3,m4,m5,m6⟩:=meet_ex (cap:=cap) (n:=N) ne12 hle1' hcap1 (by rw [x0];exact hd.nz one (by omega)) (by rw [x0];exact Nat.lt_of_le_of_lt (hone _ _) hDN)
  have r1:∀y,y≠one→tipT (addR e one two 1) one y=0:=fun y hy=>by
    show addR e one two 1 y one=0
    rw [v1,if_neg hy];exact hd.off y one hy
  have r2:∀y,y≠one→y≠two→tipT (addR e one two 1) two y=0:=fun y hy hy2=>by
    show addR e one two 1 y two=0
    rw [v1,if_neg hy];exact hd.off y two hy2
  have r22:tipT (addR e one two 1) two two=e two two:=by
    show addR e one two 1 two two=_
    rw [v1,if_neg (by omega)]
  have g11:e2 one one=s*e one one+t*e two two:=by rw [m2.sums.t,x0,y0]
  have g12:e2 one two=t*e two two:=by rw [m2.sums.t,r1 two (by omega),r22];simp
  have g1o:∀y,y≠one→y≠two→e2 one y=0:=fun y h1 h2=>by rw [m2.sums.t,r1 y h1,r2 y h1 h2];simp
  have g21:e2 two one=0:=m2.zero
  have g22:e2 two two=t'*e two two:=by rw [m2.sums.l,r1 two (by omega),r22];simp
  have g2o:∀y,y≠one→y≠two→e2 two y=0:=fun y h1 h2=>by rw [m2.sums.l,r1 y h1,r2 y h1 h2];simp
  have go:∀x,x≠one→x≠two→∀y,e2 x y=e y x:=fun x h1 h2 y=>by
    rw [m2.sums.o x h1 h2]
    show addR e one two 1 y x=_
    rw [v1]
    by_cases hy:y=one
    · rw [if_pos hy,if_neg h1,if_neg h2,hy];exact (hd.off one x (Ne.symm h1)).symm
    · rw [if_neg hy]
  obtain ⟨g,hg,ga,gb⟩:=m2.ends
  rw [x0] at ga
  rw [y0] at gb
  have da:e2 one one∣e one one:=by rw [ga];exact Int.dvd_mul_left _ _
  have db:e2 one one∣e two two:=by rw [gb];exact Int.dvd_neg.mpr (Int.dvd_mul_left _ _)
  have hq:tipT e2 two one+lq (tipT e2) two one one*tipT e2 one one=0:=quo_exact m2.nz (by show e2 one one∣e2 one two;rw [g12];exact Int.dvd_mul_of_dvd_right db)
  have f:∀x y,less (tipT e2) two one one x y=if x=two then (if y=one then 0 else e2 y two) else e2 y x:=by
    intro x y
    by_cases hx:x=two
    · subst hx
      rw [if_pos rfl,less_row]
      by_cases hy:y=one
      · subst hy;rw [if_pos rfl];exact hq
      · rw [if_neg hy]
        have:tipT e2 one y=0:=by
          show e2 y one=0
          by_cases hy2:y=x
          · subst hy2;exact g21
          · rw [go y hy hy2];exact hd.off one y (Ne.symm hy)
        rw [this]
        show e2 y x+_*0=e2 y x
        simp
    · rw [if_neg hx,less_other hx];rfl
  have hle2:Le (2*c+3) (tipT e2):=fun x y=>m3 y x
  have hle3:Le (ups 2 c) (less (tipT e2) two one one):=less_le hle2 m2.nz
  have n1:less (tipT e2) two one one one one=e2 one one:=by rw [f,if_neg ne12]
  have n2:less (tipT e2) two one one two two=e2 two two:=by rw [f,if_pos rfl,if_neg (by omega)]
  have no:∀i,i≠one→i≠two→less (tipT e2) two one one i i=e i i:=fun i h1 h2=>by rw [f,if_neg h2,go i h1 h2]
  have ht'nz:t'≠0:=by
    intro h0
    rw [h0] at ga
    exact hd.nz one (by omega) (by rw [ga];simp)
  have hb0:=hd.nz two h2r
  refine ⟨_,_,⟨hle.mono (by have:=ups_ge 2 c;omega),hle1.mono (by have:=ups_ge 2 c;omega),L2,e2,m1,m3.mono hcap1,m2.nz,rfl,hle3.mono hcap,rfl⟩,?_,?_,?_,?_,no,?_,?_,?_,?_⟩
  · have:∀(c:Bool×RC) (L:List (Bool×RC)) (e:Tab),apps2 (c::L) e=apps2 L (app2 c e):=fun _ _ _=>rfl
    rw [this,apps2_app,apps2_col,apps2_row,lch_app]
    have:app2 (true,.add one two 1) e=addR e one two 1:=rfl
    rw [this,m4];rfl
  · intro x hx
    simp only [List.mem_cons,List.mem_append,List.mem_map] at hx
    rcases hx with rfl | ⟨c,hc,rfl⟩ | ⟨c,hc,rfl⟩
    · exact ⟨show one<h by omega,show two<h by omega,ne12⟩
    · exact m6 w (by omega) (by omega) c hc
    · exact lch_ok (show two<h by omega) (show one<h by omega) (Ne.symm ne12) c hc
  · simp only [List.length_cons,List.length_append,List.length_map]
    have:=lch_len two one (lq (tipT e2) two one one)
    omega
  · refine ⟨fun x y hxy=>?_,fun i hi=>?_,fun i hi=>?_,?_⟩
    · rw [f]
      by_cases hx:x=two
      · rw [if_pos hx]
        by_cases hy:y=one
        · rw [if_pos hy]
        · rw [if_neg hy,go y hy (by omega)];exact hd.off two y (by omega)
      · rw [if_neg hx]
        by_cases hy:y=one
        · rw [hy];exact g1o x (by omega) hx
        · by_cases hy2:y=two
          · rw [hy2]
            by_cases hx1:x=one
            · rw [hx1];exact g21
            · exact g2o x hx1 hx
          · rw [go y hy hy2];exact hd.off x y hxy
    · by_cases h1:i=one
      · rw [h1,n1];exact m2.nz
      · by_cases h2:i=two
        · rw [h2,n2,g22];exact Int.mul_ne_zero ht'nz hb0
        · rw [no i h1 h2];exact hd.nz i hi
    · rw [no i (by omega) (by omega)];exact hd.z i hi
    · have hm1:one∈List.range r:=List.mem_range.mpr (by omega)
      have p1:=List.perm_cons_erase hm1
      have hm2:two∈(List.range r).erase one:=(List.mem_erase_of_ne (Ne.symm ne12)).mpr (List.mem_range.mpr h2r)
      have p2:=List.perm_cons_erase hm2
      have hnd:(List.range r).Nodup:=List.nodup_range
      have hnd1:=hnd.erase one
      have hrest:∀i∈((List.range r).erase one).erase two,i≠one∧i≠two:=fun i hi=>by
        refine ⟨fun he=>?_,fun he=>?_⟩
        · subst he;exact hnd.not_mem_erase (List.mem_of_mem_erase hi)
        · subst he;exact hnd1.not_mem_erase hi
      have q:=hd.pr
      rw [pr_perm p1] at q ⊢
      simp only [pr] at q ⊢
      rw [pr_perm p2] at q ⊢
      simp only [pr] at q ⊢
      rw [pr_congr (d':=fun i=>e i i) (fun i hi=>no i (hrest i hi).1 (hrest i hi).2),n1,n2,g22]
      rw [←Int.mul_assoc,Int.natAbs_mul] at q ⊢
      have:(e2 one one*(t'*e two two)).natAbs=(e one one*e two two).natAbs:=by
        rw [ga]
        simp only [Int.natAbs_mul]
        have:g.natAbs=1:=by rcases hg with h | h <;> rw [h] <;> rfl
        rw [this]
        grind
      rw [this];exact q
  · rw [n1];exact da
  · rw [n1];exact db
  · rw [n2,g22]
    have hbb:=gb
    rw [hbb]
    have:t'*-(g*s'*e2 one one)=(g*t'*e2 one one)*-(s'):=by
      rcases hg with h | h <;> rw [h] <;> grind
    rw [this,←ga]
    exact Int.dvd_mul_right _ _
  · intro m h1 h2
    rw [n1,g11]
    exact Int.dvd_add (Int.dvd_mul_of_dvd_right h1) (Int.dvd_mul_of_dvd_right h2)
def ChainI (cap one:Nat):Nat→Nat→Tab→List (Bool×RC)→Tab→Prop
  | 0,_,e,L,e'=>Le cap e∧L=[]∧e'=e
  | k+1,two,e,L,e'=>Le cap e∧(e two two≠0→e one one≠0) ∧
      ((e two two≠0∧¬ e one one∣e two two∧∃L1 e1 L2,LinkR cap one two e L1 e1∧ChainI cap one k (two+1) e1 L2 e'∧L=L1++L2) ∨
       (¬ (e two two≠0∧¬ e one one∣e two two)∧ChainI cap one k (two+1) e L e'))
def ChainO (cap len:Nat):Nat→Nat→Tab→List (Bool×RC)→Tab→Prop
  | 0,_,e,L,e'=>Le cap e∧L=[]∧e'=e
  | k+1,one,e,L,e'=>∃L1 e1 L2,ChainI cap one (len - (one+1)) (one+1) e L1 e1∧ChainO cap len k (one+1) e1 L2 e'∧L=L1++L2
section
variable {r D cap c N h w len:Nat} (hDc:D≤2^c) (hDN:D<4^N) (hcap:ups 2 c≤cap) (hh:r≤h) (hw:r≤w)
include hDc hDN hcap hh hw
theorem chainI_ex {one:Nat}:∀(k two:Nat) (e:Tab),one<two→Dg e r D→(∀j,one<j→j<two→e one one∣e j j)→(∀i j,i<one→i<j→e i i∣e j j) →
    ∃L e',ChainI cap one k two e L e'∧apps2 L e=e'∧(∀x∈L,ok2 h w x)∧L.length≤k*(3*N+2)∧Dg e' r D∧(∀j,one<j→j<two+k→e' one one∣e' j j)∧(∀i j,i<one→i<j→e' i i∣e' j j)
  | 0,two,e,h12,hd,h1,h2=>⟨[],e,⟨fun x y=>Nat.le_trans (Nat.le_trans (hd.one hd.pos x y) hDc) (Nat.pow_le_pow_right (by decide) (Nat.le_trans (ups_ge 2 c) hcap)),rfl,rfl⟩,rfl,by simp,by simp,hd,h1,h2⟩
  | k+1,two,e,h12,hd,h1,h2=>by
    have hle:Le cap e:=fun x y=>Nat.le_trans (Nat.le_trans (hd.one hd.pos x y) hDc) (Nat.pow_le_pow_right (by decide) (Nat.le_trans (ups_ge 2 c) hcap))
    have hlt:e two two≠0→two<r:=fun hne=>by
      apply Classical.byContradiction
      intro hn
      exact hne (hd.z two (by omega))
    have hnz:e two two≠0→e one one≠0:=fun hne=>hd.nz one (by have:=hlt hne;omega)
    have elen:(k+1)*(3*N+2)=k*(3*N+2)+(3*N+2):=Nat.succ_mul _ _
    by_cases hc:e two two≠0∧¬ e one one∣e two two
    · obtain ⟨L1,e1,a1,a2,a3,a4,a5,a6,a7,a8,a9,a10⟩:=link_ex (h:=h) (w:=w) hd h12 (hlt hc.1) hDc hDN hcap hh hw
      have a9':e1 one one∣e1 two two:=Int.dvd_trans a7 a9
      obtain ⟨L2,e',b1,b2,b3,b4,b5,b6,b7⟩:=chainI_ex (one:=one) k (two+1) e1 (by omega) a5 (fun j hj1 hj2=>by
          by_cases hj:j=two
          · subst hj;exact a9'
          · rw [a6 j (by omega) hj];exact Int.dvd_trans a7 (h1 j hj1 (by omega)))
        (fun i j hi hij=>by
          rw [a6 i (by omega) (by omega)]
          by_cases hj1:j=one
          · subst hj1;exact a10 _ (h2 i j hi hij) (h2 i two hi (by omega))
          · by_cases hj2:j=two
            · subst hj2;exact Int.dvd_trans (h2 i one hi (by omega)) a9
            · rw [a6 j hj1 hj2];exact h2 i j hi hij)
      refine ⟨L1++L2,e',⟨hle,hnz,Or.inl ⟨hc.1,hc.2,L1,e1,L2,a1,b1,rfl⟩⟩,by rw [apps2_app,a2,b2],?_,?_,b5,fun j q1 q2=>b6 j q1 (by omega),b7⟩
      · intro x hx
        rcases List.mem_append.mp hx with z | z
        · exact a3 x z
        · exact b3 x z
      · rw [List.length_append];omega
    · obtain ⟨L2, e', b1, b2, b3, b4, b5, b6, b7⟩ := chainI_ex (one := one) k (two + 1) e (by omega) hd (fun j hj1 hj2 => by
          by_cases hj:j=two
          · subst hj
            by_cases hz:e j j=0
            · rw [hz];exact Int.dvd_zero _
            · apply Classical.byContradiction
              intro hn
              exact hc ⟨hz,hn⟩
          · exact h1 j hj1 (by omega)) h2
      exact ⟨L2,e',⟨hle,hnz,Or.inr ⟨hc,b1⟩⟩,b2,b3,by omega,b5,fun j q1 q2=>b6 j q1 (by omega),b7⟩
theorem chainO_ex (hrl:r≤len):∀(k one:Nat) (e:Tab),one+k=len→Dg e r D→(∀i j,i<one→i<j→e i i∣e j j) →
    ∃L e',ChainO cap len k one e L e'∧apps2 L e=e'∧(∀x∈L,ok2 h w x)∧L.length≤k*(len*(3*N+2))∧Dg e' r D∧(∀i j,i<len→i<j→e' i i∣e' j j)
  | 0,one,e,hk,hd,h2=>⟨[],e,⟨fun x y=>Nat.le_trans (Nat.le_trans (hd.one hd.pos x y) hDc) (Nat.pow_le_pow_right (by decide) (Nat.le_trans (ups_ge 2 c) hcap)),rfl,rfl⟩,rfl,by simp,by simp,hd,fun i j hi hij=>h2 i j (by omega) hij⟩
  | k+1,one,e,hk,hd,h2=>by
    obtain ⟨L1,e1,a1,a2,a3,a4,a5,a6,a7⟩:=chainI_ex (one:=one) hDc hDN hcap hh hw (len - (one+1)) (one+1) e (by omega) hd (fun j q1 q2=>absurd q1 (by omega)) h2
    obtain ⟨L2,e',b1,b2,b3,b4,b5,b6⟩:=chainO_ex hrl k (one+1) e1 (by omega) a5 (fun i j hi hij=>by
      by_cases h:i=one
      · subst h
        rcases Nat.lt_or_ge j len with z | z
        · exact a6 j hij (by omega)
        · rw [a5.z j (by omega)];exact Int.dvd_zero _
      · exact a7 i j (by omega) hij)
    refine ⟨L1++L2,e',⟨L1,e1,L2,a1,b1,rfl⟩,by rw [apps2_app,a2,b2],?_,?_,b5,b6⟩
    · intro x hx
      rcases List.mem_append.mp hx with z | z
      · exact a3 x z
      · exact b3 x z
    · rw [List.length_append]
      have:(k+1)*(len*(3*N+2))=k*(len*(3*N+2))+len*(3*N+2):=Nat.succ_mul _ _
      have:(len - (one+1))*(3*N+2)≤len*(3*N+2):=Nat.mul_le_mul_right _ (by omega)
      omega
end
def Turns (cap:Nat):Nat→Nat→Tab→List (Bool×RC)→Tab→Prop
  | 0,_,e,L,e'=>Le cap e∧L=[]∧e'=e
  | k+1,p,e,L,e'=>Le cap e∧((e p p<0∧∃L2,Turns cap k (p+1) (turnR e p) L2 e'∧L=(true,.turn p)::L2)∨(¬ e p p<0∧Turns cap k (p+1) e L e'))
theorem turns_ex {r D cap c h w:Nat} (hDc:D≤2^c) (hcap:c≤cap):∀(k p:Nat) (e:Tab),p+k≤h→Dg e r D→(∀i,i<p→0≤e i i) →
    ∃L e',Turns cap k p e L e'∧apps2 L e=e'∧(∀x∈L,ok2 h w x)∧L.length≤k∧Dg e' r D∧(∀i,i<p+k→0≤e' i i)∧(∀i,(e' i i).natAbs=(e i i).natAbs)
  | 0,p,e,hp,hd,h0=>⟨[],e,⟨fun x y=>Nat.le_trans (Nat.le_trans (hd.one hd.pos x y) hDc) (Nat.pow_le_pow_right (by decide) hcap),rfl,rfl⟩,rfl,by simp,by simp,hd,h0,fun _=>rfl⟩
  | k+1,p,e,hp,hd,h0=>by
    have hle:Le cap e:=fun x y=>Nat.le_trans (Nat.le_trans (hd.one hd.pos x y) hDc) (Nat.pow_le_pow_right (by decide) hcap)
    by_cases hn:e p p<0
    · have hv:∀i,turnR e p i i=if i=p then -(e p p) else e i i:=fun i=>by
        unfold turnR;split
        · rename_i h;rw [h]
        · rfl
      have hd1:Dg (turnR e p) r D:=by
        refine ⟨fun x y hxy=>?_,fun i hi=>?_,fun i hi=>?_,?_⟩
        · unfold turnR;split
          · rename_i h;rw [←h,hd.off x y hxy];rfl
          · exact hd.off x y hxy
        · rw [hv];split
          · omega
          · exact hd.nz i hi
        · rw [hv];split
          · rename_i h;rw [←h,hd.z i hi];rfl
          · exact hd.z i hi
        · have:∀l:List Nat,(pr (fun i=>turnR e p i i) l).natAbs=(pr (fun i=>e i i) l).natAbs:=by
            intro l
            induction l with
            | nil=>rfl
            | cons a l ih =>
              simp only [pr]
              rw [Int.natAbs_mul,Int.natAbs_mul,ih,hv]
              split
              · rename_i h;rw [h,Int.natAbs_neg]
              · rfl
          rw [this];exact hd.pr
      obtain ⟨L2,e',b1,b2,b3,b4,b5,b6,b7⟩:=turns_ex (h:=h) (w:=w) hDc hcap k (p+1) (turnR e p) (by omega) hd1 (fun i hi=>by
        rw [hv];split
        · omega
        · exact h0 i (by omega))
      refine ⟨_,e',⟨hle,Or.inl ⟨hn,L2,b1,rfl⟩⟩,b2,?_,by simp;omega,b5,fun i hi=>b6 i (by omega),fun i=>?_⟩
      · intro x hx
        rcases List.mem_cons.mp hx with z | z
        · subst z;exact (show p<h by omega)
        · exact b3 x z
      · rw [b7,hv];split
        · rename_i h;rw [h,Int.natAbs_neg]
        · rfl
    · obtain ⟨L2,e',b1,b2,b3,b4,b5,b6,b7⟩:=turns_ex (h:=h) (w:=w) hDc hcap k (p+1) e (by omega) hd (fun i hi=>by
        by_cases h:i=p
        · subst h;omega
        · exact h0 i (by omega))
      exact ⟨L2,e',⟨hle,Or.inr ⟨hn,b1⟩⟩,b2,b3,by omega,b5,fun i hi=>b6 i (by omega),b7⟩
end E1
namespace E1
open Dt
def BroughtR (cap h w:Nat) (e:Tab) (L:List (Bool×RC)) (e':Tab):Prop :=
  ∃L1 L2 e1 L3 e2 L4 e3 L5,Both cap h w e L1 L2 e1∧Rounds cap h w e1 L3 e2∧ChainO cap (min h w) (min h w) 0 e2 L4 e3∧Turns cap (min h w) 0 e3 L5 e' ∧
    L=(L1.map (Prod.mk true)++L2.map (Prod.mk false))++(L3++(L4++L5))
structure Fine (e:Tab) (h w:Nat):Prop where
  off:∀x y,x≠y→e x y=0
  out:∀i,min h w≤i→e i i=0
  nn:∀i,0≤e i i
  go:∀i j,i≤j→e i i∣e j j
theorem brought_ex {e:Tab} {h w c1 N1 K1 c2 N2 K2 c N K3 K4 cap B D D2 b:Nat} {P1 P2 P3 P4:Nat→Nat} (hw:Wide e w) (hh:∀x y,h≤x→e x y=0) (hB:∀x y,(e x y).natAbs≤B) (hB1:B≤2^c1)
    (hB2:∀m,m≤h→m≤w→m*(fac m*B^m)≤2^c1) (hN1:2^c1<4^N1) (hD:∀m,m≤h→m≤w→fac m*B^m≤D) (hDc:D≤2^c2) (hc:c1≤c2) (hDN:D<4^N2)
    (hr1:Room h w c1 N1 K1 cap P1) (hr2:Room w h c2 N2 K2 cap P2)
    (hD2:∀L e1 r,apps2 L e=e1→(∀x∈L,ok2 h w x)→r≤h→r≤w→Tri e1 r D→(pr (fun i=>e1 i i) (List.range r)).natAbs≤D2) (hD2c:D2≤2^c) (hD2N:D2<4^N) (hD2b:D2<2^b)
    (hr3:Room h w c N K3 cap P3) (hr4:Room w h c N K4 cap P4) (hcap:ups 2 c≤cap) :
    ∃L e',BroughtR cap h w e L e'∧apps2 L e=e'∧(∀x∈L,ok2 h w x)∧Fine e' h w ∧
      L.length≤(sumP P1 0 h+sumP P2 0 w)+((min h w*b)*(sumP P3 0 h+sumP P4 0 w)+(min h w*(min h w*(3*N+2))+min h w))∧(∃r D,Dg e' r D∧r≤min h w):=by
  obtain ⟨L1,L2,e1,r,a1,a2,a3,a4,a5,a6,a7,a8,a9⟩:=first_ex hw hh hB hB1 hB2 hN1 hD hDc hc hDN hr1 hr2
  have hok1:∀x∈L1.map (Prod.mk true)++L2.map (Prod.mk false),ok2 h w x:=by
    intro x hx
    simp only [List.mem_append,List.mem_map] at hx
    rcases hx with ⟨c,hc,rfl⟩ | ⟨c,hc,rfl⟩
    · exact a3 c hc
    · exact a4 c hc
  have ht:=a9 D2 (hD2 _ e1 r a2 hok1 a6 a7 a8)
  have hb0:Bare 0 e1:=fun i hi=>absurd hi (by omega)
  have hrounds:∃L e',Rounds cap h w e1 L e'∧¬ beside h w e'∧apps2 L e1=e'∧(∀x∈L,ok2 h w x)∧L.length≤(min h w*b)*(sumP P3 0 h+sumP P4 0 w)∧Tri e' r D2:=by
    rcases Nat.eq_zero_or_pos r with z | z
    · refine rounds_ex a6 a7 hD2c hD2N hD2b hr3 hr4 (min h w*b) 0 0 e1 ht (by omega) hb0 (by rw [ht.rz 0 0 (by omega)];simp) ?_
      rw [z];simp
    · refine rounds_ex a6 a7 hD2c hD2N hD2b hr3 hr4 (min h w*b) 0 b e1 ht (by omega) hb0 (Nat.lt_of_le_of_lt (ht.le 0 0) hD2b) ?_
      have h1:b+(r - (0+1))*b=r*b:=by
        obtain ⟨r',rfl⟩:∃r',r=r'+1:=⟨r - 1,by omega⟩
        have:r'+1 - (0+1)=r':=by omega
        rw [this,Nat.succ_mul];omega
      rw [h1]
      exact Nat.mul_le_mul_right _ (by omega)
  obtain ⟨L3,e2,b1,b2,b3,b4,b5,b6⟩:=hrounds
  have hdg:=dg_of_tri b6 a6 a7 b2
  obtain ⟨L4,e3,c1,c2',c3,c4,c5,c6⟩:=chainO_ex (h:=h) (w:=w) (len:=min h w) hD2c hD2N hcap a6 a7 (by omega) (min h w) 0 e2 (by omega) hdg (fun i j hi=>absurd hi (by omega))
  obtain ⟨L5,e',d1,d2,d3,d4,d5,d6,d7⟩:=turns_ex (h:=h) (w:=w) hD2c (Nat.le_trans (ups_ge 2 c) hcap) (min h w) 0 e3 (by omega) c5 (fun i hi=>absurd hi (by omega))
  refine ⟨_,e',⟨L1,L2,e1,L3,e2,L4,e3,L5,a1,b1,c1,d1,rfl⟩,?_,?_,?_,?_,r,D2,d5,by omega⟩
  · rw [apps2_app,apps2_app,apps2_app,a2,b3,c2',d2]
  · intro x hx
    rw [List.mem_append] at hx
    rcases hx with z | z
    · exact hok1 x z
    · simp only [List.mem_append] at z
      rcases z with z | z | z
      · exact b4 x z
      · exact c3 x z
      · exact d3 x z
  · have hout:∀i,r≤i→e' i i=0:=fun i hi=>d5.z i hi
    refine ⟨d5.off,fun i hi=>hout i (by omega),fun i=>?_,fun i j hij=>?_⟩
    · rcases Nat.lt_or_ge i (min h w) with z | z
      · exact d6 i (by omega)
      · rw [hout i (by omega)];exact Int.le_refl _
    · rcases Nat.lt_or_ge i (min h w) with z | z
      · rcases Nat.lt_or_eq_of_le hij with q | q
        · have:=c6 i j z q
          rw [←Int.natAbs_dvd_natAbs] at this ⊢
          rw [d7,d7];exact this
        · subst q;exact Int.dvd_refl _
      · rw [hout j (by omega)];exact Int.dvd_zero _
  · simp only [List.length_append,List.length_map]
    omega
end E1
namespace E1
open Dt
theorem so_le {m':Nat} (h:m'≤4):so m' m'≤6:=by
  rcases (show m'=0∨m'=1∨m'=2∨m'=3∨m'=4 by omega) with rfl | rfl | rfl | rfl | rfl <;> simp [so]
end E1
namespace E1
open Dt
def qle (cap:Nat):RC→Prop
  | .add _ _ q=>q.natAbs≤2^cap
  | _=>True
def Along (cap:Nat):List RC→Tab→Prop
  | [],e=>Le cap e
  | c::L,e=>Le cap e∧qle cap c∧Along cap L (c.app e)
theorem along_app {cap:Nat}:∀{L M:List RC} {e:Tab},Along cap L e→Along cap M (rapps L e)→Along cap (L++M) e
  | [],_,_,_,h=>h
  | _::_,_,_,⟨a,b,c⟩,h=>⟨a,b,along_app c h⟩
theorem along_end {cap:Nat}:∀{L:List RC} {e:Tab},Along cap L e→Le cap (rapps L e)
  | [],_,h=>h
  | _::L,e,⟨_,_,c⟩=>along_end (L:=L) c
theorem lch_along {cap i j p:Nat} {e:Tab} (h1:Le cap e) (h2:Le cap (less e i j p)) (hp:e j p≠0):Along cap (lch i j (lq e i j p)) e:=by
  unfold lch;split
  · exact h1
  · exact ⟨h1,Nat.le_trans (quo_le hp) (h1 i p),h2⟩
theorem meet_along {cap top low p:Nat} {e e':Tab} {L:List RC} (h:MeetR cap top low p e L e'):Along cap L e:=by
  induction h with
  | done h _=>exact h
  | half h0 _ hx h1 hl _=>subst h1;exact lch_along h0 hl hx
  | turn h0 _ hx h1 hl hy h2 hl2 _ _ ih =>
    subst h1;subst h2
    refine along_app (lch_along h0 hl hx) ?_
    rw [lch_app]
    refine along_app (lch_along hl hl2 hy) ?_
    rw [lch_app];exact ih
  | swap h0 _ hx h1 hl hy h2 hl2 _ =>
    subst h1;subst h2
    refine along_app (lch_along h0 hl hx) ?_
    rw [lch_app]
    refine along_app (lch_along hl hl2 hy) ?_
    rw [lch_app]
    exact ⟨hl2,trivial,fun x y=>hl2 _ y⟩
theorem lrow_start {cap:Nat} {st:List Nat} {row:Nat}:∀(n t:Nat) (e:Tab) (L:List RC) (e':Tab),LRow cap st row t n e L e'→Le cap e
  | 0,_,_,_,_,h=>h.1
  | _+1,_,_,_,_,h=>h.1
theorem lrow_along {cap:Nat} {st:List Nat} {row:Nat}:∀(n t:Nat) (e:Tab) (L:List RC) (e':Tab),LRow cap st row t n e L e'→Along cap L e
  | 0,t,e,L,e',h=>by rw [h.2.1];exact h.1
  | n+1,t,e,L,e',h=>by
    obtain ⟨h1,hz,L2,h2,rfl⟩:=h
    refine along_app (lch_along h1 (lrow_start n _ _ _ _ h2) hz) ?_
    rw [lch_app]
    exact lrow_along n (t+1) _ _ _ h2
theorem take_along {cap low w:Nat} {st:List Nat} {top top':Nat} {e e':Tab} {L:List RC} (h:TakeR cap low w st top e L top' e'):Along cap L e:=by
  induction h with
  | stop h _=>exact h
  | skip _ _ _ _ ih=>exact ih
  | meet _ _ _ m l1 l2 _ ih =>
    refine along_app (meet_along m) ?_
    rw [meet_rapps m]
    refine along_app (lrow_along _ _ _ _ _ l1) ?_
    rw [lrow_rapps _ _ _ _ _ l1]
    refine along_app (lrow_along _ _ _ _ _ l2) ?_
    rw [lrow_rapps _ _ _ _ _ l2]
    exact ih
theorem downs_along {cap top:Nat}:∀(k:Nat) (e:Tab),Le cap e→Along cap (downs top k) e
  | 0,e,h=>h
  | k+1,e,h=>⟨h,trivial,downs_along k _ fun x y=>h _ y⟩
theorem lift_along {cap low top m:Nat} {e:Tab} (h:Le cap e):Along cap (liftL low top m) e:=by
  unfold liftL
  split
  · exact downs_along _ _ h
  · exact ⟨h,trivial,downs_along _ _ fun x y=>h _ y⟩
theorem red_along {cap:Nat} {st:List Nat}:∀(k:Nat) (e:Tab) (L:List RC) (e':Tab),Red cap st k e L e'→Along cap L e∧rapps L e=e'
  | 0,e,L,e',h=>by rw [h.2.1,h.2.2];exact ⟨h.1,rfl⟩
  | k+1,e,L,e',h=>by
    obtain ⟨L1,e1,L2,h1,h2,rfl⟩:=h
    obtain ⟨a,b⟩:=red_along k _ _ _ h2
    have r:=lrow_rapps _ _ _ _ _ h1
    exact ⟨along_app (lrow_along _ _ _ _ _ h1) (by rw [r];exact a),by rw [rapps_app,r,b]⟩
theorem build_along {cap w:Nat}:∀(k low:Nat) (st:List Nat) (e:Tab) (L:List RC) (st':List Nat) (e':Tab),Build cap w k low st e L st' e'→Along cap L e∧rapps L e=e'
  | 0,low,st,e,L,st',e',h=>by rw [h.2.1,h.2.2.2];exact ⟨h.1,rfl⟩
  | k+1,low,st,e,L,st',e',h=>by
    obtain ⟨L1,top,e1,st1,L2,e2,L3,e3,L4,t1,_,_,t4,t5,t6,rfl⟩:=h
    have a1:=take_along t1
    have r1:=take_rapps t1
    have hl1:Le cap e1:=r1▸along_end a1
    have a2:Along cap L2 e1∧rapps L2 e1=e2:=by
      rcases t4 with z | z
      · rw [z.2.2.1,z.2.2.2,z.2.2.1];exact ⟨lift_along hl1,rfl⟩
      · rw [z.2.2.1,z.2.2.2];exact ⟨hl1,rfl⟩
    obtain ⟨a3,r3⟩:=red_along _ _ _ _ t5
    obtain ⟨a4,r4⟩:=build_along k (low+1) _ _ _ _ _ t6
    refine ⟨along_app a1 (by rw [r1];exact along_app a2.1 (by rw [a2.2];exact along_app a3 (by rw [r3];exact a4))),?_⟩
    rw [rapps_app,rapps_app,rapps_app,r1,a2.2,r3,r4]
def Along2 (cap:Nat):List (Bool×RC)→Tab→Prop
  | [],e=>Le cap e
  | c::L,e=>Le cap e∧qle cap c.2∧Along2 cap L (app2 c e)
theorem along2_app {cap:Nat}:∀{L M:List (Bool×RC)} {e:Tab},Along2 cap L e→Along2 cap M (apps2 L e)→Along2 cap (L++M) e
  | [],_,_,_,h=>h
  | _::_,_,_,⟨a,b,c⟩,h=>⟨a,b,along2_app c h⟩
theorem along2_end {cap:Nat}:∀{L:List (Bool×RC)} {e:Tab},Along2 cap L e→Le cap (apps2 L e)
  | [],_,h=>h
  | _::L,e,⟨_,_,c⟩=>along2_end (L:=L) c
theorem along_row {cap:Nat}:∀{L:List RC} {e:Tab},Along cap L e→Along2 cap (L.map (Prod.mk true)) e
  | [],_,h=>h
  | _::_,_,⟨a,b,c⟩=>⟨a,b,along_row c⟩
theorem le_tip {cap:Nat} {e:Tab} (h:Le cap e):Le cap (tipT e):=fun x y=>h y x
theorem along_col {cap:Nat}:∀{L:List RC} {e:Tab},Along cap L (tipT e)→Along2 cap (L.map (Prod.mk false)) e
  | [],_,h=>le_tip h
  | c::L,e,⟨a,b,d⟩=>⟨le_tip a,b,along_col (e:=tipT (c.app (tipT e))) d⟩
theorem both_along {cap h w:Nat} {e e':Tab} {L1 L2:List RC} (hb:Both cap h w e L1 L2 e'):Along2 cap (L1.map (Prod.mk true)++L2.map (Prod.mk false)) e∧apps2 (L1.map (Prod.mk true)++L2.map (Prod.mk false)) e=e':=by
  obtain ⟨st1,e1,st2,e2,b1,b2,rfl⟩:=hb
  obtain ⟨a1,r1⟩:=build_along _ _ _ _ _ _ _ b1
  obtain ⟨a2,r2⟩:=build_along _ _ _ _ _ _ _ b2
  refine ⟨along2_app (along_row a1) (by rw [apps2_row,r1];exact along_col a2),both_apps (cap:=cap) (h:=h) (w:=w) r1 r2 rfl⟩
theorem rounds_along {cap h w:Nat} {e e':Tab} {L:List (Bool×RC)} (hr:Rounds cap h w e L e'):Le cap e→Along2 cap L e∧apps2 L e=e':=by
  induction hr with
  | stop _=>intro h;exact ⟨h,rfl⟩
  | turn _ hb _ ih =>
    intro h
    obtain ⟨a,r⟩:=both_along hb
    obtain ⟨a2,r2⟩:=ih (r▸along2_end a)
    exact ⟨along2_app a (by rw [r];exact a2),by rw [apps2_app,r,r2]⟩
theorem link_along {cap one two:Nat} {e e':Tab} {L:List (Bool×RC)} (h:LinkR cap one two e L e'):Along2 cap L e∧apps2 L e=e':=by
  obtain ⟨h1,h2,L2,e2,m,hl2,hz,rfl,hl3,rfl⟩:=h
  have a:=meet_along m
  have r:=meet_rapps m
  have happ:app2 (true,.add one two 1) e=addR e one two 1:=rfl
  have hc:Along2 cap (L2.map (Prod.mk false)) (addR e one two 1):=along_col a
  have hr2:apps2 (L2.map (Prod.mk false)) (addR e one two 1)=tipT e2:=by rw [apps2_col,r]
  have hl:Along2 cap ((lch two one (lq (tipT e2) two one one)).map (Prod.mk true)) (tipT e2):=along_row (lch_along (le_tip hl2) hl3 hz)
  refine ⟨⟨h1,Nat.one_le_two_pow,?_⟩,?_⟩
  · rw [happ];exact along2_app hc (by rw [hr2];exact hl)
  · show apps2 (L2.map (Prod.mk false)++(lch two one (lq (tipT e2) two one one)).map (Prod.mk true)) (addR e one two 1)=_
    rw [apps2_app,hr2,apps2_row,lch_app];rfl
theorem chainI_along {cap one:Nat}:∀(k two:Nat) (e:Tab) (L:List (Bool×RC)) (e':Tab),ChainI cap one k two e L e'→Along2 cap L e∧apps2 L e=e'
  | 0,two,e,L,e',h=>by rw [h.2.1,h.2.2];exact ⟨h.1,rfl⟩
  | k+1,two,e,L,e',h=>by
    obtain ⟨_,_,h⟩:=h
    rcases h with ⟨_,_,L1,e1,L2,h1,h2,rfl⟩ | ⟨_,h2⟩
    · obtain ⟨a,r⟩:=link_along h1
      obtain ⟨a2,r2⟩:=chainI_along k (two+1) _ _ _ h2
      exact ⟨along2_app a (by rw [r];exact a2),by rw [apps2_app,r,r2]⟩
    · exact chainI_along k (two+1) _ _ _ h2
theorem chainO_along {cap len:Nat}:∀(k one:Nat) (e:Tab) (L:List (Bool×RC)) (e':Tab),ChainO cap len k one e L e'→Along2 cap L e∧apps2 L e=e'
  | 0,one,e,L,e',h=>by rw [h.2.1,h.2.2];exact ⟨h.1,rfl⟩
  | k+1,one,e,L,e',h=>by
    obtain ⟨L1,e1,L2,h1,h2,rfl⟩:=h
    obtain ⟨a,r⟩:=chainI_along _ _ _ _ _ h1
    obtain ⟨a2,r2⟩:=chainO_along k (one+1) _ _ _ h2
    exact ⟨along2_app a (by rw [r];exact a2),by rw [apps2_app,r,r2]⟩
theorem turns_along {cap:Nat}:∀(k p:Nat) (e:Tab) (L:List (Bool×RC)) (e':Tab),Turns cap k p e L e'→Along2 cap L e∧apps2 L e=e'
  | 0,p,e,L,e',h=>by rw [h.2.1,h.2.2];exact ⟨h.1,rfl⟩
  | k+1,p,e,L,e',h=>by
    obtain ⟨hl,h⟩:=h
    rcases h with ⟨_,L2,h2,rfl⟩ | ⟨_,h2⟩
    · obtain ⟨a2,r2⟩:=turns_along k (p+1) _ _ _ h2
      exact ⟨⟨hl,trivial,a2⟩,r2⟩
    · exact turns_along k (p+1) _ _ _ h2
theorem brought_along {cap h w:Nat} {e e':Tab} {L:List (Bool×RC)} (hb:BroughtR cap h w e L e'):Along2 cap L e:=by
  obtain ⟨L1,L2,e1,L3,e2,L4,e3,L5,b1,b2,b3,b4,rfl⟩:=hb
  obtain ⟨a1,r1⟩:=both_along b1
  obtain ⟨a2,r2⟩:=rounds_along b2 (r1▸along2_end a1)
  obtain ⟨a3,r3⟩:=chainO_along _ _ _ _ _ b3
  obtain ⟨a4,r4⟩:=turns_along _ _ _ _ _ b4
  exact along2_app a1 (by rw [r1];exact along2_app a2 (by rw [r2];exact along2_app a3 (by rw [r3];exact a4)))
end E1
namespace E1
def MeetH (cap top low p:Nat):Nat→Tab→List RC→Tab→Prop
  | 0,_,_,_=>False
  | n+1,e,L,e'=>(Le cap e∧e low p=0∧L=[]∧e'=e) ∨
      (Le cap e∧e low p≠0∧e top p≠0∧∃e1,e1=less e low top p∧Le cap e1 ∧
        ((e1 low p=0∧L=lch low top (lq e low top p)∧e'=e1∧∃k,n=k+1) ∨
         (e1 low p≠0∧∃e2,e2=less e1 top low p∧Le cap e2 ∧
           ((e2 top p≠0∧∃L2,MeetH cap top low p n e2 L2 e'∧L=lch low top (lq e low top p)++(lch top low (lq e1 top low p)++L2)) ∨
            (e2 top p=0∧L=lch low top (lq e low top p)++(lch top low (lq e1 top low p)++[.swap top low])∧e'=swapR e2 top low∧e' low p=0∧Le cap e'∧∃k,n=k+1)))))
theorem meetH_of {cap top low p:Nat} {e e':Tab} {L:List RC} (h:MeetR cap top low p e L e'):∃n,MeetH cap top low p n e L e':=by
  induction h with
  | done h1 h2=>exact ⟨1,.inl ⟨h1,h2,rfl,rfl⟩⟩
  | half h1 h2 h3 h4 h5 h6=>exact ⟨2,.inr ⟨h1,h2,h3,_,h4,h5,.inl ⟨h6,rfl,rfl,0,rfl⟩⟩⟩
  | turn h1 h2 h3 h4 h5 h6 h7 h8 h9 _ ih =>
    obtain ⟨n,ih⟩:=ih
    exact ⟨n+1,.inr ⟨h1,h2,h3,_,h4,h5,.inr ⟨h6,_,h7,h8,.inl ⟨h9,_,ih,rfl⟩⟩⟩⟩
  | swap h1 h2 h3 h4 h5 h6 h7 h8 h9 =>
    refine ⟨2,.inr ⟨h1,h2,h3,_,h4,h5,.inr ⟨h6,_,h7,h8,.inr ⟨h9,rfl,rfl,?_,?_,0,rfl⟩⟩⟩⟩
    · show swapR _ top low low p=0
      unfold swapR sw
      by_cases e:low=top
      · rw [if_pos e,e];exact h9
      · rw [if_neg e,if_pos rfl];exact h9
    · intro x y;exact h8 _ _
def RoundsH (cap h w:Nat):Nat→Tab→List (Bool×RC)→Tab→Prop
  | 0,_,_,_=>False
  | n+1,e,L,e'=>(¬ beside h w e∧L=[]∧e'=e) ∨
      (beside h w e∧∃e1 L1 L2 L3,Both cap h w e L1 L2 e1∧RoundsH cap h w n e1 L3 e'∧L=(L1.map (Prod.mk true)++L2.map (Prod.mk false))++L3)
theorem roundsH_of {cap h w:Nat} {e e':Tab} {L:List (Bool×RC)} (hr:Rounds cap h w e L e'):∃n,RoundsH cap h w n e L e':=by
  induction hr with
  | stop h1=>exact ⟨1,.inl ⟨h1,rfl,rfl⟩⟩
  | turn h1 h2 _ ih =>
    obtain ⟨n,ih⟩:=ih
    exact ⟨n+1,.inr ⟨h1,_,_,_,_,h2,ih,rfl⟩⟩
theorem fp_from {r:Nat→Int}:∀(n y i:Nat),y≤i→i<y+n→(∀z,y≤z→z<i→r z=0)→r i≠0→fp r y n=i
  | 0,y,i,h1,h2,_,_=>by omega
  | n+1,y,i,h1,h2,h3,h4=>by
    unfold fp
    by_cases e:y=i
    · subst e;rw [if_pos h4]
    · rw [if_neg (by simpa using h3 y (Nat.le_refl _) (by omega))]
      exact fp_from n (y+1) i (by omega) (by omega) (fun z a b=>h3 z (by omega) b) h4
theorem fp_none {r:Nat→Int}:∀(n y:Nat),(∀z,y≤z→z<y+n→r z=0)→fp r y n=y+n
  | 0,y,_=>rfl
  | n+1,y,h=>by
    unfold fp
    rw [if_neg (by simpa using h y (Nat.le_refl _) (by omega)),fp_none n (y+1) (fun z a b=>h z (by omega) (by omega))]
    omega
end E1
namespace E1
open Dt
def RLe (x c:Nat) (e:Tab):Prop:=∀y,(e x y).natAbs≤2^c
theorem RLe.mono {x c d:Nat} {e:Tab} (h:RLe x c e) (hc:c≤d):RLe x d e:=fun y=>Nat.le_trans (h y) (Nat.pow_le_pow_right (by decide) hc)
theorem Le.row {c:Nat} {e:Tab} (h:Le c e) (x:Nat):RLe x c e:=fun y=>h x y
theorem pow_sum (a b:Nat):2^a+2^a*2^b≤2^(a+b+1):=by
  have h1:(2:Nat)^(a+b+1)=2*(2^a*2^b):=by rw [Nat.pow_succ,Nat.pow_add];omega
  have h2:(2:Nat)^a*1≤2^a*2^b:=Nat.mul_le_mul_left _ Nat.one_le_two_pow
  omega
theorem less_le2 {L S:Nat} {e:Tab} {i j p:Nat} (hi:RLe i L e) (hj:RLe j S e) (hp:e j p≠0):RLe i (L+S+1) (less e i j p):=by
  intro y
  rw [less_row]
  have h1:(lq e i j p*e j y).natAbs≤2^L*2^S:=by
    rw [Int.natAbs_mul];exact Nat.mul_le_mul (Nat.le_trans (quo_le hp) (hi p)) (hj y)
  have h2:=hi y
  have h3:=pow_sum L S
  have h4:=Int.natAbs_add_le (e i y) (lq e i j p*e j y)
  omega
theorem le_but {M r:Nat} {e e':Tab} (h:Le M e) (ho:∀x,x≠r→∀y,e' x y=e x y) (hr:RLe r M e'):Le M e':=fun x y=>by
  by_cases hx:x=r
  · subst hx;exact hr y
  · rw [ho x hx];exact h x y
theorem lrow_ex2 {cap M:Nat} {st:List Nat} {row S:Nat} (hM:M≤cap):∀(n t:Nat) (e:Tab) (L:Nat),Le M e→RLe row L e→L+n*(S+1)≤M→(∀i,t≤i→i<t+n→i≠row∧e i (sat st i)≠0∧RLe i S e) →
    ∃C e',LRow cap st row t n e C e'∧Le M e'∧RLe row (L+n*(S+1)) e'∧rapps C e=e'∧C.length≤n∧(∀k,row<k→t+n≤k→∀x∈C,x.ok k) ∧
      (∀x,x≠row→∀y,e' x y=e x y)∧(∀y,(∀i,t≤i→i<t+n→e i y=0)→e' row y=e row y) ∧
      ((∀i j,t≤i→i<j→j<t+n→e j (sat st i)=0)→∀i,t≤i→i<t+n→2*(e' row (sat st i)).natAbs≤(e i (sat st i)).natAbs)
  | 0,t,e,L,hc,hl,hle,h=>⟨[],e,⟨hc.mono hM,rfl,rfl⟩,hc,hl.mono (by omega),rfl,by simp,fun _ _ _ x hx=>absurd hx (by simp),fun _ _ _=>rfl,fun _ _=>rfl,fun _ i h1 h2=>absurd h1 (by omega)⟩
  | n+1,t,e,L,hc,hl,hle,h=>by
    obtain ⟨hr,hz,hS⟩:=h t (Nat.le_refl _) (by omega)
    have hl1:=less_le2 (i:=row) hl hS hz
    have en:(n+1)*(S+1)=n*(S+1)+(S+1):=Nat.succ_mul _ _
    have hle1:L+S+1+n*(S+1)≤M:=by omega
    have hc1:Le M (less e row t (sat st t)):=le_but hc (fun x hx y=>less_other hx y) (hl1.mono (by omega))
    obtain ⟨C2,e',a1,a2,a2',a3,a4,a5,a6,a7,a8⟩:=lrow_ex2 (cap:=cap) hM n (t+1) (less e row t (sat st t)) (L+S+1) hc1 hl1 hle1 (fun i h1 h2=>by
      obtain ⟨b1,b2,b3⟩:=h i (by omega) (by omega)
      exact ⟨b1,by rw [less_other b1];exact b2,fun y=>by rw [less_other b1];exact b3 y⟩)
    refine ⟨_,e',⟨hc.mono hM,hz,C2,a1,rfl⟩,a2,a2'.mono (by omega),?_,?_,?_,?_,?_,?_⟩
    · rw [rapps_app,lch_app];exact a3
    · rw [List.length_append];have:=lch_len row t (lq e row t (sat st t));omega
    · intro k h1 h2 x hx
      rcases List.mem_append.mp hx with z | z
      · exact lch_ok h1 (by omega) (Ne.symm hr) x z
      · exact a5 k h1 (by omega) x z
    · intro x hx y;rw [a6 x hx,less_other hx]
    · intro y hy
      rw [a7 y (fun i h1 h2=>by rw [less_other (h i (by omega) (by omega)).1];exact hy i (by omega) (by omega)),less_row,hy t (Nat.le_refl _) (by omega)]
      simp
    · intro hj i h1 h2
      by_cases hi:i=t
      · subst hi
        rw [a7 _ (fun k h3 h4=>by rw [less_other (h k (by omega) (by omega)).1];exact hj i k (Nat.le_refl _) (by omega) (by omega))]
        exact less_rest hz
      · have:=a8 (fun a b h3 h4 h5=>by rw [less_other (h b (by omega) (by omega)).1];exact hj a b (by omega) h4 (by omega)) i (by omega) (by omega)
        rw [less_other (h i h1 (by omega)).1] at this
        exact this
theorem meet_from2 {e0:Tab} {cap top low p:Nat} (htl:top≠low) (lc:∀{e:Tab} {u v u' v':Int},Sums e0 e top low u v u' v'→Co (e0 top p) (e0 low p) u v u' v'→Le cap e) :
    ∀(n:Nat) (e:Tab) (u v u' v':Int),Sums e0 e top low u v u' v'→Head (e0 top p) (e0 low p) u v u' v'→(e top p).natAbs<4^n →
      ∃L e' s t s' t',MeetR cap top low p e L e'∧Sums e0 e' top low s t s' t'∧Head (e0 top p) (e0 low p) s t s' t'∧e' low p=0 ∧
        rapps L e=e'∧L.length≤3*n∧(∀n,top<n→low<n→∀x∈L,x.ok n)
  | 0,e,u,v,u',v',hs,hh,hn=>by
    have:=hh.nz
    rw [←hs.t] at this
    simp at hn;omega
  | n+1,e,u,v,u',v',hs,hh,hn=>by
    have hx:e top p≠0:=by rw [hs.t];exact hh.nz
    by_cases hy:e low p=0
    · exact ⟨[],e,u,v,u',v',.done (lc hs hh.co) hy,hs,hh,hy,rfl,by simp,fun _ _ _ x hx=>absurd hx (by simp)⟩
    · have hs1:=hs.low (p:=p) htl
      have hm:=head_mid (q:=lq e low top p) hh (by rw [←hs.l];exact hy) (by unfold lq;rw [hs.l,hs.t])
      by_cases hy1:less e low top p low p=0
      · refine ⟨_,_,_,_,_,_,.half (lc hs hh.co) hy hx rfl (lc hs1 hm.co) hy1,hs1,mid_head hm (by rw [←hs1.l];exact hy1),hy1,lch_app ..,?_,fun n h1 h2=>lch_ok h2 h1 (Ne.symm htl)⟩
        have:=lch_len low top (lq e low top p);omega
      · have hs2:=hs1.top (p:=p) htl
        have ht:=mid_tail (q:=lq (less e low top p) top low p) hm (by rw [←hs1.l];exact hy1) (by unfold lq;rw [hs1.l,hs1.t];rfl)
        have l1:=lch_len low top (lq e low top p)
        have l2:=lch_len top low (lq (less e low top p) top low p)
        by_cases hx2:less (less e low top p) top low p top p=0
        · refine ⟨_,_,_,_,_,_,.swap (lc hs hh.co) hy hx rfl (lc hs1 hm.co) hy1 rfl (lc hs2 ht.co) hx2,hs2.swap htl,tail_swap ht (by rw [←hs2.t];exact hx2),?_,?_,?_,?_⟩
          · simp only [swapR,sw,if_neg (Ne.symm htl),if_pos];exact hx2
          · rw [rapps_app,rapps_app,lch_app,lch_app];rfl
          · simp only [List.length_append,List.length_cons,List.length_nil];omega
          · intro n h1 h2 x hx
            simp only [List.mem_append,List.mem_singleton] at hx
            rcases hx with z | z | z
            · exact lch_ok h2 h1 (Ne.symm htl) x z
            · exact lch_ok h1 h2 htl x z
            · subst z;exact ⟨h1,h2,htl⟩
        · have hlt:(less (less e low top p) top low p top p).natAbs<4^n:=by
            have r1:=less_rest (e:=e) (i:=low) hx
            have r2:=less_rest (e:=less e low top p) (i:=top) hy1
            rw [Nat.pow_succ] at hn
            omega
          obtain ⟨L,e',s,t,s',t',hR,a1,a2,a3,a4,a5,a6⟩:=meet_from2 htl lc n _ _ _ _ _ hs2 (tail_head ht (by rw [←hs2.t];exact hx2)) hlt
          refine ⟨_,e',s,t,s',t',.turn (lc hs hh.co) hy hx rfl (lc hs1 hm.co) hy1 rfl (lc hs2 ht.co) hx2 hR,a1,a2,a3,?_,?_,?_⟩
          · rw [rapps_app,rapps_app,lch_app,lch_app];exact a4
          · simp only [List.length_append];omega
          · intro n h1 h2 x hx
            simp only [List.mem_append] at hx
            rcases hx with z | z | z
            · exact lch_ok h2 h1 (Ne.symm htl) x z
            · exact lch_ok h1 h2 htl x z
            · exact a6 n h1 h2 x z
theorem cof_le {u v t l x0 y0:Int} {S L:Nat} (hu:u.natAbs≤1+2*y0.natAbs) (hv:v.natAbs≤1+2*x0.natAbs) (ht:t.natAbs≤2^S) (hl:l.natAbs≤2^L) (hx:x0.natAbs≤2^S) (hy:y0.natAbs≤2^L) :
    (u*t+v*l).natAbs≤2^(S+L+3):=by
  have h1:(u*t).natAbs≤(1+2*2^L)*2^S:=by rw [Int.natAbs_mul];exact Nat.mul_le_mul (by omega) ht
  have h2:(v*l).natAbs≤(1+2*2^S)*2^L:=by rw [Int.natAbs_mul];exact Nat.mul_le_mul (by omega) hl
  have h3:=Int.natAbs_add_le (u*t) (v*l)
  have e1:(1+2*2^L)*2^S=2^S+2*(2^S*2^L):=by grind
  have e2:(1+2*2^S)*2^L=2^L+2*(2^S*2^L):=by grind
  have e3:(2:Nat)^(S+L+3)=8*(2^S*2^L):=by rw [Nat.pow_add,Nat.pow_add];omega
  have h4:(2:Nat)^S*1≤2^S*2^L:=Nat.mul_le_mul_left _ Nat.one_le_two_pow
  have h5:(1:Nat)*2^L≤2^S*2^L:=Nat.mul_le_mul_right _ Nat.one_le_two_pow
  omega
theorem Sums.le2 {e0 e:Tab} {top low p S L M:Nat} {u v u' v':Int} (h:Sums e0 e top low u v u' v') (hM:Le M e0) (hS:RLe top S e0) (hL:RLe low L e0) (hm:S+L+3≤M) (co:Co (e0 top p) (e0 low p) u v u' v') :
    Le M e∧RLe top (S+L+3) e∧RLe low (S+L+3) e:=by
  have h1:RLe top (S+L+3) e:=fun y=>by rw [h.t];exact cof_le co.bu co.bv (hS _) (hL _) (hS _) (hL _)
  have h2:RLe low (S+L+3) e:=fun y=>by rw [h.l];exact cof_le co.bu' co.bv' (hS _) (hL _) (hS _) (hL _)
  refine ⟨fun x y=>?_,h1,h2⟩
  by_cases hx:x=top
  · subst hx;exact h1.mono hm y
  · by_cases hl:x=low
    · subst hl;exact h2.mono hm y
    · rw [h.o x hx hl];exact hM x y
theorem meet_ex2 {e:Tab} {cap M S L top low p n:Nat} (htl:top≠low) (hM:Le M e) (hS:RLe top S e) (hL:RLe low L e) (hm:S+L+3≤M) (hcap:M≤cap) (hx:e top p≠0) (hn:(e top p).natAbs<4^n) :
    ∃C e' s t s' t',MeetR cap top low p e C e'∧Met e e' top low p s t s' t'∧Le M e'∧RLe top (S+L+3) e'∧RLe low (S+L+3) e'∧rapps C e=e'∧C.length≤3*n∧(∀n,top<n→low<n→∀x∈C,x.ok n):=by
  obtain ⟨C,e',s,t,s',t',hR,a1,a2,a3,a4,a5,a6⟩:=meet_from2 (cap:=cap) htl (fun h co=>(h.le2 hM hS hL hm co).1.mono hcap) n e 1 0 0 1 (Sums.refl e top low) (head_init hx) hn
  obtain ⟨b1,b2,b3⟩:=a1.le2 hM hS hL hm a2.co
  refine ⟨C,e',s,t,s',t',hR,⟨a1,a2.co,?_,a3,a2.keep,?_⟩,b1,b2,b3,a4,a5,a6⟩
  · rw [a1.t];exact a2.nz
  · have:=a2.ends (by rw [←a1.l];exact a3)
    rw [←a1.t] at this
    exact this
theorem take_ex2 {cap low w n S M:Nat} {st:List Nat} (hcap:M≤cap):∀(k top:Nat) (e:Tab) (L:Nat),top+k=st.length→Stairs e st w low→Wide e w→Le M e→RLe low L e→(∀i,top≤i→i<st.length→RLe i S e)→L+k*k*(S+1)+2*k≤M →
    (∀i,i<top→∀y,y≤sat st i→e low y=0)→(∀i,top≤i→i<st.length→(e i (sat st i)).natAbs<4^n) →
    ∃C top' e',TakeR cap low w st top e C top' e'∧Stairs e' st w low∧Le M e'∧rapps C e=e'∧C.length≤k*(3*n+2*k)∧(∀x∈C,x.ok (low+1)) ∧
      top≤top'∧top'≤st.length∧(∀i,i<top'→∀y,y≤sat st i→e' low y=0)∧(top'<st.length→fp (e' low) 0 w<sat st top')∧(∀x,low<x→∀y,e' x y=e x y):=by
  intro k
  induction k with
  | zero =>
    intro top e L hk hs hw hc hl hS hle hz hn
    exact ⟨[],top,e,.stop (hc.mono hcap) (fun h=>by omega),hs,hc,rfl,by simp,fun x hx=>absurd hx (by simp),Nat.le_refl _,by omega,hz,fun h=>by omega,fun _ _ _=>rfl⟩
  | succ k ih =>
    intro top e L hk hs hw hc hl hS hle hz hn
    have htop:top<st.length:=by omega
    have htl:top≠low:=by have:=hs.len;omega
    have hq:(k+1)*(k+1)*(S+1)=k*k*(S+1)+(k*(S+1)+k*(S+1))+(S+1):=by grind
    by_cases h1:sat st top≤fp (e low) 0 w
    · by_cases h2:sat st top=fp (e low) 0 w
      · -- they meet
        have hzlow:∀y,y<sat st top→e low y=0:=fun y hy=>fp_zero (e low) w 0 y (by omega) (by omega)
        obtain ⟨L1,e1,s,t,s',t',m1,m2,m3,m3t,m3l,m4,m5,m6⟩:=meet_ex2 (cap:=cap) htl hc (hS top (Nat.le_refl _) htop) hl (by omega) hcap (hs.nz top htop) (hn top (Nat.le_refl _) htop)
        have r1:∀x,x≠top→x≠low→∀y,e1 x y=e x y:=m2.sums.o
        have z1:∀y,y<sat st top→e1 top y=0:=fun y hy=>by rw [m2.sums.t,hs.zl top htop y hy,hzlow y hy];simp
        have y1:∀y,y≤sat st top→e1 low y=0:=fun y hy=>by
          rcases Nat.lt_or_eq_of_le hy with z | z
          · rw [m2.sums.l,hs.zl top htop y z,hzlow y z];simp
          · rw [z];exact m2.zero
        have lown:∀i,i<st.length→i≠low:=fun i hi=>by have:=hs.len;omega
        obtain ⟨L2,e2,a1,a2,a2',a3,a4,a5,a6,a7,_⟩:=lrow_ex2 (cap:=cap) (st:=st) (row:=top) (S:=S) hcap k (top+1) e1 (S+L+3) m3 m3t (by omega) (fun i h3 h4=>⟨by omega,by rw [r1 i (by omega) (lown i (by omega))];exact hs.nz i (by omega),fun y=>by rw [r1 i (by omega) (lown i (by omega))];exact hS i (by omega) (by omega) y⟩)
        have l2:RLe low (S+L+3) e2:=fun y=>by rw [a6 low (Ne.symm htl)];exact m3l y
        obtain ⟨L3,e3,b1,b2,b2',b3,b4,b5,b6,b7,_⟩:=lrow_ex2 (cap:=cap) (st:=st) (row:=low) (S:=S) hcap k (top+1) e2 (S+L+3) a2 l2 (by omega) (fun i h3 h4=>⟨lown i (by omega),by rw [a6 i (by omega),r1 i (by omega) (lown i (by omega))];exact hs.nz i (by omega),fun y=>by rw [a6 i (by omega),r1 i (by omega) (lown i (by omega))];exact hS i (by omega) (by omega) y⟩)
        have zt:∀y,y≤sat st top→∀i,top+1≤i→i<top+1+k→e i y=0:=fun y hy i h3 h4=>hs.zl i (by omega) y (by have:=hs.mono top i (by omega) (by omega);omega)
        have q3:∀x,x≠top→x≠low→∀y,e3 x y=e x y:=fun x h3 h4 y=>by rw [b6 x h4,a6 x h3,r1 x h3 h4]
        have t3:∀y,y≤sat st top→e3 top y=e1 top y:=fun y hy=>by
          rw [b6 top htl,a7 y (fun i h3 h4=>by rw [r1 i (by omega) (lown i (by omega))];exact zt y hy i h3 h4)]
        have l3:∀y,y≤sat st top→e3 low y=0:=fun y hy=>by
          rw [b7 y (fun i h3 h4=>by rw [a6 i (by omega),r1 i (by omega) (lown i (by omega))];exact zt y hy i h3 h4),a6 low (Ne.symm htl)]
          exact y1 y hy
        have hs3:Stairs e3 st w low:=by
          refine ⟨hs.len,hs.lt,hs.mono,fun i hi=>?_,fun i hi y hy=>?_,fun x h3 h4 y=>?_⟩
          · by_cases hi2:i=top
            · subst hi2;rw [t3 _ (Nat.le_refl _)];exact m2.nz
            · rw [q3 i hi2 (lown i hi)];exact hs.nz i hi
          · by_cases hi2:i=top
            · subst hi2;rw [t3 _ (by omega)];exact z1 y hy
            · rw [q3 i hi2 (lown i hi)];exact hs.zl i hi y hy
          · rw [q3 x (by omega) (by omega)];exact hs.zr x h3 h4 y
        have hL:st.length - (top+1)=k:=by omega
        have e3':rapps (L1++(L2++L3)) e=e3:=by rw [rapps_app,rapps_app,m4,a3,b3]
        obtain ⟨L4,top',e',c1,c2,c3,c4,c5,c6,c7,c8,c9,c10,c11⟩:=ih (top+1) e3 (S+L+3+k*(S+1)) (by omega) hs3 (e3'▸wide_app hw _) b2 b2'
          (fun i h3 h4 y=>by rw [q3 i (by omega) (lown i h4)];exact hS i (by omega) h4 y) (by omega)
          (fun i hi y hy=>by
            by_cases hi2:i=top
            · subst hi2;exact l3 y hy
            · have:=hs.mono i top (by omega) htop
              exact l3 y (by omega))
          (fun i h3 h4=>by rw [q3 i (by omega) (lown i h4)];exact hn i (by omega) h4)
        refine ⟨_,top',e',.meet (hc.mono hcap) htop h2 m1 (by rw [hL];exact a1) (by rw [hL];exact b1) c1,c2,c3,?_,?_,?_,by omega,c8,c9,c10,?_⟩
        · rw [←c4,←e3'];simp only [rapps_app]
        · simp only [List.length_append]
          have e4:(k+1)*(3*n+2*(k+1))=k*(3*n+2*k)+2*k+(3*n+2*k+2):=by grind
          omega
        · intro x hx
          simp only [List.mem_append] at hx
          have:=hs.len
          rcases hx with z | z | z | z
          · exact m6 _ (by omega) (by omega) x z
          · exact a5 _ (by omega) (by omega) x z
          · exact b5 _ (by omega) (by omega) x z
          · exact c6 x z
        · intro x hx y
          have:=hs.len
          rw [c11 x hx,q3 x (by omega) (by omega)]
      · -- on to the next step
        have hlt:sat st top<fp (e low) 0 w:=by omega
        obtain ⟨C,top',e',c1,c2,c3,c4,c5,c6,c7,c8,c9,c10,c11⟩:=ih (top+1) e L (by omega) hs hw hc hl (fun i h3 h4=>hS i (by omega) h4) (by omega)
          (fun i hi y hy=>by
            by_cases hi2:i=top
            · subst hi2;exact fp_zero (e low) w 0 y (by omega) (by omega)
            · exact hz i (by omega) y hy)
          (fun i h3 h4=>hn i (by omega) h4)
        refine ⟨C,top',e',.skip (hc.mono hcap) htop hlt c1,c2,c3,c4,?_,c6,by omega,c8,c9,c10,c11⟩
        have e4:(k+1)*(3*n+2*(k+1))=k*(3*n+2*k)+2*k+(3*n+2*k+2):=by grind
        omega
    · exact ⟨[],top,e,.stop (hc.mono hcap) (fun h=>h1 h.2),hs,hc,rfl,by simp,fun x hx=>absurd hx (by simp),Nat.le_refl _,by omega,hz,fun h=>by omega,fun _ _ _=>rfl⟩
def redB (m B:Nat):Nat→Nat→Nat
  | 0,R=>R
  | k+1,R=>redB m B k (max R (B+(m - (k+1))*(R+1)))
theorem redB_ge (m B:Nat):∀(k R:Nat),R≤redB m B k R
  | 0,R=>Nat.le_refl _
  | k+1,R=>Nat.le_trans (Nat.le_max_left _ _) (redB_ge m B k _)
theorem red_ex2 {cap w n M B:Nat} {st:List Nat} (hcap:M≤cap):∀(k:Nat) (e:Tab) (R:Nat),k≤st.length→Stairs e st w n→Le M e→(∀x,x<k→RLe x B e)→(∀x,k≤x→x<st.length→RLe x R e)→redB st.length B k R≤M →
    ∃C e',Red cap st k e C e'∧Stairs e' st w n∧Le M e'∧rapps C e=e'∧C.length≤so st.length k∧(∀x∈C,x.ok n) ∧
      (∀x,k≤x→∀y,e' x y=e x y)∧(∀i,i<st.length→e' i (sat st i)=e i (sat st i)) ∧
      (∀i t,i<k→i<t→t<st.length→2*(e' i (sat st t)).natAbs≤(e' t (sat st t)).natAbs)
  | 0,e,R,hk,hs,hc,hB,hR,hle=>⟨[],e,⟨hc.mono hcap,rfl,rfl⟩,hs,hc,rfl,by simp,fun x hx=>absurd hx (by simp),fun _ _ _=>rfl,fun _ _=>rfl,fun i t h _ _=>absurd h (by omega)⟩
  | k+1,e,R,hk,hs,hc,hB,hR,hle=>by
    simp only [so]
    have hmax:max R (B+(st.length - (k+1))*(R+1))≤M:=Nat.le_trans (redB_ge _ _ _ _) hle
    obtain ⟨L1,e1,a1,a2,a2',a3,a4,a5,a6,a7,a8⟩:=lrow_ex2 (cap:=cap) (st:=st) (row:=k) (S:=R) hcap (st.length - (k+1)) (k+1) e B hc (hB k (by omega)) (Nat.le_trans (Nat.le_max_right _ _) hmax)
      (fun i h1 h2=>⟨by omega,hs.nz i (by omega),hR i h1 (by omega)⟩)
    have zt:∀y,y≤sat st k→∀i,k+1≤i→i<k+1+(st.length - (k+1))→e i y=0:=fun y hy i h3 h4=>hs.zl i (by omega) y (by have:=hs.mono k i (by omega) (by omega);omega)
    have hk1:∀y,y≤sat st k→e1 k y=e k y:=fun y hy=>a7 y (zt y hy)
    have hs1:Stairs e1 st w n:=by
      refine ⟨hs.len,hs.lt,hs.mono,fun i hi=>?_,fun i hi y hy=>?_,fun x h3 h4 y=>?_⟩
      · by_cases h:i=k
        · subst h;rw [hk1 _ (Nat.le_refl _)];exact hs.nz i hi
        · rw [a6 i h];exact hs.nz i hi
      · by_cases h:i=k
        · subst h;rw [hk1 _ (by omega)];exact hs.zl i hi y hy
        · rw [a6 i h];exact hs.zl i hi y hy
      · rw [a6 x (by omega)];exact hs.zr x h3 h4 y
    obtain ⟨L2,e',b1,b2,b3,b4,b5,b6,b7,b8,b9⟩:=red_ex2 (B:=B) hcap k e1 _ (by omega) hs1 a2 (fun x hx y=>by rw [a6 x (by omega)];exact hB x (by omega) y)
      (fun x h1 h2=>by
        by_cases hx:x=k
        · subst hx;exact a2'.mono (Nat.le_max_right _ _)
        · exact fun y=>by rw [a6 x hx];exact (hR x (by omega) h2).mono (Nat.le_max_left _ _) y) hle
    refine ⟨L1++L2,e',⟨L1,e1,L2,a1,b1,rfl⟩,b2,b3,by rw [rapps_app,a3,b4],by rw [List.length_append];omega,?_,?_,?_,?_⟩
    · intro x hx
      have:=hs.len
      rcases List.mem_append.mp hx with z | z
      · exact a5 n (by omega) (by omega) x z
      · exact b6 x z
    · intro x hx y;rw [b7 x (by omega),a6 x (by omega)]
    · intro i hi
      rw [b8 i hi]
      by_cases h:i=k
      · subst h;exact hk1 _ (Nat.le_refl _)
      · exact a6 i h _
    · intro i t h1 h2 h3
      by_cases h:i=k
      · subst h
        have:=a8 (fun p q h4 h5 h6=>hs.zl q (by omega) _ (hs.mono p q h5 (by omega))) t (by omega) (by omega)
        rw [b7 i (Nat.le_refl _),b7 t (by omega),a6 t (by omega)]
        exact this
      · exact b9 i t (by omega) h2 h3
theorem build_ex2 {e0:Tab} {cap w n c N M B T:Nat} (hw:Wide e0 w) (hk:Known e0 w n c N) (hMc:M≤cap) (hBM:B≤M) (hcB:c≤B)
    (hK:∀m,m<n→c+m*m*(c+1)+2*m≤B) (hR:∀m,m≤n→redB m B m B≤M)
    (hP:∀m m',m<n→m'≤n→m*(3*N+2*m)+(m+1)+so m' m'≤T) :
    ∀(k low:Nat) (L0:List RC) (st:List Nat),low+k=n→(∀x∈L0,x.ok low)→Stairs (rapps L0 e0) st w low→Redd (rapps L0 e0) st→(∀x,low≤x→∀y,rapps L0 e0 x y=e0 x y) →
      ∃L st' e',Build cap w k low st (rapps L0 e0) L st' e'∧rapps (L0++L) e0=e'∧Stairs e' st' w n∧Redd e' st'∧(∀x∈L,x.ok n)∧L.length≤k*T∧(∀x,n≤x→∀y,e' x y=e0 x y)∧Le c e':=by
  intro k
  induction k with
  | zero =>
    intro low L0 st hn hok hs hr ho
    have hc:Le c (rapps L0 e0):=fun x y=>by
      by_cases hx:x<low
      · exact hk.bd low (by omega) L0 st hok hs hr x hx y
      · rw [ho x (by omega)];exact hk.row x y
    have hn':low=n:=by omega
    refine ⟨[],st,_,⟨hc.mono (by omega),rfl,rfl,rfl⟩,by rw [List.append_nil],hn'▸hs,hr,fun x hx=>absurd hx (by simp),by simp,fun x hx y=>ho x (by omega) y,hc⟩
  | succ k ih =>
    intro low L0 st hn hok hs hr ho
    have hc:Le c (rapps L0 e0):=fun x y=>by
      by_cases hx:x<low
      · exact hk.bd low (by omega) L0 st hok hs hr x hx y
      · rw [ho x (by omega)];exact hk.row x y
    have hm:=hs.len
    have hKm:=hK st.length (by omega)
    have hB1:Le B (rapps L0 e0):=hc.mono hcB
    obtain ⟨L1,top,e1,t1,t2,t3,t4,t5,t6,_,t8,t9,t10,t11⟩:=take_ex2 (cap:=cap) (n:=N) (S:=c) (M:=B) (by omega) st.length 0 (rapps L0 e0) c (by omega) hs (wide_app hw L0) hB1 (hc.row _) (fun i _ _=>hc.row i) hKm (fun i hi=>absurd hi (by omega)) (fun i _ h2=>hk.piv low (by omega) L0 st hok hs hr i h2)
    have hex:∃st1 L2 e2,((fp (e1 low) 0 w<w∧st1=ins st top (fp (e1 low) 0 w)∧L2=liftL low top st.length∧e2=rapps L2 e1) ∨
       (¬ fp (e1 low) 0 w<w∧st1=st∧L2=[]∧e2=e1))∧Stairs e2 st1 w (low+1)∧st1.length≤st.length+1∧Le B e2∧rapps L2 e1=e2∧L2.length≤st.length+1 ∧
       (∀x∈L2,x.ok (low+1))∧(∀x,low<x→∀y,e2 x y=e1 x y):=by
      by_cases hp:fp (e1 low) 0 w<w
      · refine ⟨_,_,_,Or.inl ⟨hp,rfl,rfl,rfl⟩,lift_stairs t2 t8 t9 t10 hp rfl,by rw [ins_len t8];omega,t3.app_swap _ (fun x y=>lift_app t8 hm e1 x y),rfl,lift_len ..,lift_ok t8 hm,?_⟩
        intro x hx y
        rw [lift_app t8 hm,if_neg (by omega),if_neg (by omega),if_neg (by omega),if_neg (by omega)]
      · refine ⟨_,_,_,Or.inr ⟨hp,rfl,rfl,rfl⟩,?_,by omega,t3,rfl,by simp,fun x hx=>absurd hx (by simp),fun _ _ _=>rfl⟩
        refine ⟨by omega,t2.lt,t2.mono,t2.nz,t2.zl,fun x h1 h2 y=>?_⟩
        by_cases hx:x=low
        · subst hx
          by_cases hy:y<w
          · exact fp_zero (e1 x) w 0 y (by omega) (by omega)
          · have:=wide_app (wide_app hw L0) L1
            rw [t4] at this
            exact this x y (by omega)
        · exact t2.zr x h1 (by omega) y
    obtain ⟨st1,L2,e2,u1,u2,u3,u4,u5,u6,u7,u8⟩:=hex
    have hR1:=hR st1.length (by omega)
    obtain ⟨L3,e3,r1,r2,r3,r4,r5,r6,r7,r8,r9⟩:=red_ex2 (cap:=cap) (M:=M) (B:=B) hMc st1.length e2 B (Nat.le_refl _) u2 (u4.mono hBM) (fun x _=>u4.row x) (fun x _ _=>u4.row x) hR1
    have he3:rapps (L0++(L1++(L2++L3))) e0=e3:=by simp only [rapps_app];rw [t4,u5,r4]
    obtain ⟨L4,st',e',b1,b2,b3,b4,b5,b6,b7,b8⟩:=ih (low+1) (L0++(L1++(L2++L3))) st1 (by omega)
      (fun x hx=>by
        simp only [List.mem_append] at hx
        rcases hx with z | z | z | z
        · exact (hok x z).mono (by omega)
        · exact t6 x z
        · exact u7 x z
        · exact r6 x z)
      (by rw [he3];exact r2) (by rw [he3];exact fun i t h1 h2=>r9 i t (by omega) h1 h2)
      (fun x hx y=>by
        have:=u2.len
        rw [he3,r7 x (by omega),u8 x (by omega),t11 x (by omega),ho x (by omega)])
    rw [he3] at b1
    refine ⟨L1++(L2++(L3++L4)),st',e',⟨L1,top,e1,st1,L2,e2,L3,e3,L4,t1,t8,hm,u1,r1,b1,rfl⟩,?_,b3,b4,?_,?_,b7,b8⟩
    · rw [←b2];simp only [List.append_assoc]
    · intro x hx
      simp only [List.mem_append] at hx
      rcases hx with z | z | z | z
      · exact (t6 x z).mono (by omega)
      · exact (u7 x z).mono (by omega)
      · exact (r6 x z).mono (by omega)
      · exact b5 x z
    · have hP1:=hP st.length st1.length (by omega) (by omega)
      have e5:(k+1)*T=k*T+T:=Nat.succ_mul _ _
      simp only [List.length_append]
      omega
end E1
namespace E1
abbrev Vc:=Nat→Int
def cmb (a:Vc) (e:Tab):Nat→Vc
  | 0=>fun _=>0
  | n+1=>fun y=>cmb a e n y+a n*e n y
def InR (n:Nat) (e:Tab) (v:Vc):Prop:=∃a:Vc,∀y,v y=cmb a e n y
theorem cmb_zero (e:Tab):∀n y,cmb (fun _=>0) e n y=0
  | 0,_=>rfl
  | n+1,y=>by simp [cmb,cmb_zero e n y]
theorem cmb_add (a b:Vc) (m:Int) (e:Tab):∀n y,cmb (fun i=>a i+m*b i) e n y=cmb a e n y+m*cmb b e n y
  | 0,_=>by simp [cmb]
  | n+1,y=>by simp only [cmb];rw [cmb_add a b m e n y];grind
def one (x:Nat):Vc:=fun i=>if i=x then 1 else 0
theorem cmb_one {x:Nat} (e:Tab) (y:Nat):∀n,cmb (one x) e n y=if x<n then e x y else 0
  | 0=>by simp [cmb]
  | n+1=>by
    simp only [cmb,cmb_one e y n,one]
    by_cases h:n=x
    · subst h;simp
    · simp only [if_neg h,Int.zero_mul,Int.add_zero]
      by_cases h2:x<n
      · rw [if_pos h2,if_pos (by omega)]
      · rw [if_neg h2,if_neg (by omega)]
theorem InR.zero (n:Nat) (e:Tab):InR n e (fun _=>0):=⟨fun _=>0,fun y=>(cmb_zero e n y).symm⟩
theorem InR.add {n:Nat} {e:Tab} {u v:Vc} (hu:InR n e u) (hv:InR n e v) (m:Int):InR n e (fun y=>u y+m*v y):=by
  obtain ⟨a,ha⟩:=hu
  obtain ⟨b,hb⟩:=hv
  exact ⟨fun i=>a i+m*b i,fun y=>by rw [cmb_add,←ha,←hb]⟩
theorem InR.row {n x:Nat} (e:Tab) (h:x<n):InR n e (e x):=⟨one x,fun y=>by rw [cmb_one,if_pos h]⟩
theorem InR.cong {n:Nat} {e:Tab} {u v:Vc} (h:InR n e u) (hv:∀y,v y=u y):InR n e v:=by
  obtain ⟨a,ha⟩:=h
  exact ⟨a,fun y=>by rw [hv,ha]⟩
theorem InR.cmb {n:Nat} {e e':Tab} (h:∀x,x<n→InR n e (e' x)) (a:Vc):∀k,k≤n→InR n e (E1.cmb a e' k)
  | 0,_=>InR.zero n e
  | k+1,hk=>(InR.cmb h a k (by omega)).add (h k (by omega)) (a k)
theorem InR.of {n:Nat} {e e':Tab} {v:Vc} (h:∀x,x<n→InR n e (e' x)) (hv:InR n e' v):InR n e v:=by
  obtain ⟨a,ha⟩:=hv
  exact (InR.cmb h a n (Nat.le_refl _)).cong ha
def lessV (e:Tab) (st:List Nat):Nat→Nat→Vc→Vc
  | _,0,v=>v
  | t,k+1,v=>lessV e st (t+1) k (fun y=>v y - (v (sat st t)).fdiv (e t (sat st t))*e t y)
theorem fdiv_le {a p:Int} (hp:p≠0):(a.fdiv p).natAbs≤a.natAbs:=by
  have key:∀a p:Int,0<p→(a.fdiv p).natAbs≤a.natAbs:=fun a p hp=>by
    rw [Int.fdiv_eq_ediv_of_nonneg _ (by omega)]
    have h1:a=p*(a / p)+a % p:=(Int.mul_ediv_add_emod a p).symm
    have h2:=Int.emod_nonneg a (show p≠0 by omega)
    have h3:=Int.emod_lt_of_pos a hp
    generalize a / p=q at h1 ⊢
    generalize a % p=r at h1 h2 h3
    rcases Int.lt_or_le q 0 with hq | hq
    · have:p*(q+1)≤1*(q+1)∨q+1=0:=by
        rcases Int.lt_or_eq_of_le (show q+1≤0 by omega) with z | z
        · exact .inl (Int.mul_le_mul_of_nonpos_right (by omega) (by omega))
        · exact .inr z
      have e1:p*(q+1)=p*q+p:=by grind
      rcases this with z | z
      · omega
      · have:q=-1:=by omega
        subst this
        omega
    · have:1*q≤p*q:=Int.mul_le_mul_of_nonneg_right (by omega) hq
      omega
  rcases Int.lt_or_lt_of_ne hp with h | h
  · have:=key (-a) (-p) (by omega)
    rw [Int.neg_fdiv_neg,Int.natAbs_neg] at this
    exact this
  · exact key a p h
theorem lessV_le {e:Tab} {st:List Nat} {c:Nat} (hc:Le c e):∀(k t:Nat) (v:Vc) (L:Nat),(∀i,t≤i→i<t+k→e i (sat st i)≠0)→(∀y,(v y).natAbs≤2^L)→∀y,(lessV e st t k v y).natAbs≤2^(L+k*(c+1))
  | 0,t,v,L,_,h=>fun y=>by simpa [lessV] using h y
  | k+1,t,v,L,hn,h=>fun y=>by
    have h1:∀y,(v y - (v (sat st t)).fdiv (e t (sat st t))*e t y).natAbs≤2^(L+c+1):=fun y=>by
      have a1:((v (sat st t)).fdiv (e t (sat st t))*e t y).natAbs≤2^L*2^c:=by
        rw [Int.natAbs_mul];exact Nat.mul_le_mul (Nat.le_trans (fdiv_le (hn t (Nat.le_refl _) (by omega))) (h _)) (hc _ _)
      have a2:=h y
      have a3:=pow_sum L c
      omega
    have h2:=lessV_le hc k (t+1) _ (L+c+1) (fun i h1 h2=>hn i (by omega) (by omega)) h1 y
    have e1:L+c+1+k*(c+1)=L+(k+1)*(c+1):=by rw [Nat.succ_mul];omega
    rw [e1] at h2
    exact h2
def tal (w:Nat) (e:Tab) (n:Nat):Tab:=fun x y=>if y<w then e x y else if x<n∧y=w+x then 1 else 0
end E1
namespace E1
open Dt
theorem room_s {h w c N:Nat} (hs:(h≤4∧w≤4)∨(h=1∧w=5)∨(h=5∧w=1)) (hc:c≤23):Room h w c N 15 1048576 (fun low=>low*(3*N+2*low)+(low+1)+6):=by
  refine ⟨fun m m' h1 h2 h3 h4=>?_,?_,fun low m m' h1 h2 h3 h4 h5=>?_⟩
  · have:=so_le (m':=m') (by omega)
    rcases (show m=0∨m=1∨m=2∨m=3 by omega) with rfl | rfl | rfl | rfl <;> omega
  · exact Nat.le_trans (ups_mono 15 hc) (by decide)
  · have:=so_le (m':=m') (by omega)
    have:m*(3*N+2*m)≤low*(3*N+2*low):=Nat.mul_le_mul h2 (by omega)
    omega
theorem brought_s {e:Tab} {h w:Nat} (hs:(h≤4∧w≤4)∨(h=1∧w=5)) (hw:Wide e w) (hh:∀x y,h≤x→e x y=0) (hB:∀x y,(e x y).natAbs≤2^4) :
    ∃L e',BroughtR 1048576 h w e L e'∧(Fine e' h w∧apps2 L e=e')∧L.length≤5000000:=by
  have hm:∀m,m≤h→m≤w→m=0∨m=1∨m=2∨m=3∨m=4:=fun m _ _=>by omega
  have a1:(h≤4∧w≤4)∨(h=1∧w=5)∨(h=5∧w=1):=by omega
  have a2:(w≤4∧h≤4)∨(w=1∧h=5)∨(w=5∧h=1):=by omega
  obtain ⟨L,e',b1,b2,_,b4,b5,_⟩:=brought_ex (cap:=1048576) (c1:=23) (N1:=12) (c2:=23) (N2:=12) (c:=23) (N:=12) (B:=2^4) (D:=2^23) (D2:=2^23) (b:=24) hw hh hB (by decide +kernel)
    (fun m h1 h2=>by rcases hm m h1 h2 with rfl | rfl | rfl | rfl | rfl <;> decide +kernel) (by decide +kernel)
    (fun m h1 h2=>by rcases hm m h1 h2 with rfl | rfl | rfl | rfl | rfl <;> decide +kernel) (by decide +kernel) (Nat.le_refl _) (by decide +kernel) (room_s a1 (Nat.le_refl _)) (room_s a2 (Nat.le_refl _))
    (fun L e1 r _ _ _ _ ht=>ht.pr) (by decide +kernel) (by decide +kernel) (by decide +kernel) (room_s a1 (by decide)) (room_s a2 (by decide)) (by decide)
  have s1:∀h,h≤5→sumP (fun low=>low*(3*12+2*low)+(low+1)+6) 0 h≤600:=by
    intro h hh
    rcases (show h=0∨h=1∨h=2∨h=3∨h=4∨h=5 by omega) with rfl | rfl | rfl | rfl | rfl | rfl <;> simp only [sumP] <;> omega
  have q1:=s1 h (by omega)
  have q2:=s1 w (by omega)
  have q5:min h w*24≤4*24:=Nat.mul_le_mul_right _ (by omega)
  have q6:=Nat.mul_le_mul q5 (Nat.add_le_add q1 q2)
  have q7:min h w*(min h w*(3*12+2))≤4*(4*(3*12+2)):=Nat.mul_le_mul (by omega) (Nat.mul_le_mul (by omega) (Nat.le_refl _))
  have q8:min h w≤4:=by omega
  exact ⟨L,e',b1,⟨b4,b2⟩,Nat.le_trans (Nat.le_trans b5 (Nat.add_le_add (Nat.add_le_add q1 q2) (Nat.add_le_add q6 (Nat.add_le_add q7 q8)))) (by decide)⟩
theorem known_4 {e0:Tab} {w n:Nat} (hn:n≤4) (hB:∀x y,(e0 x y).natAbs≤2^4):Known e0 w n 23 12:=by
  have hbd:∀low,low≤n→∀(L:List RC) (st:List Nat),(∀x∈L,x.ok low)→Stairs (rapps L e0) st w low→Redd (rapps L e0) st→∀x,x<low→∀y,(rapps L e0 x y).natAbs≤2^23:=by
    intro low hl L st hL hs hr x hx y
    have h1:=reset hL (fun x _ y=>hB x y) rfl hs hr x hx y
    have hm:st.length≤4:=by have:=hs.len;omega
    refine Nat.le_trans h1 ?_
    generalize st.length=m at hm
    have:∀m,m≤4→m*(fac m*(2^4)^m)≤2^23:=by decide +kernel
    exact this m hm
  refine ⟨fun x y=>Nat.le_trans (hB x y) (Nat.pow_le_pow_right (by decide) (by decide)),hbd,fun low hl L st hL hs hr i hi=>?_⟩
  have:=hbd low hl L st hL hs hr i (by have:=hs.len;omega) (sat st i)
  refine Nat.lt_of_le_of_lt this ?_
  decide +kernel
theorem build_4 {e0:Tab} {w n:Nat} (hn:n≤4) (hw:Wide e0 w) (hB:∀x y,(e0 x y).natAbs≤2^4) :
    ∃L st e',Build 1048576 w n 0 [] e0 L st e'∧rapps L e0=e'∧Stairs e' st w n∧(∀x∈L,x.ok n)∧L.length≤100000∧Le 23 e':=by
  have hrow:∀m,m≤4→redB m 300 m 300≤1048576:=by decide +kernel
  have hK:∀m,m<4→23+m*m*(23+1)+2*m≤300:=by decide +kernel
  have hP:∀m,m<4→∀m',m'<5→m*(3*12+2*m)+(m+1)+so m' m'≤8300:=by decide +kernel
  obtain ⟨L,st,e',b1,b2,b3,b4,b5,b6,b7,b8⟩:=build_ex2 (cap:=1048576) (M:=1048576) (B:=300) (T:=8300) hw (known_4 (w:=w) hn hB) (Nat.le_refl _) (by decide) (by decide) (fun m hm=>hK m (by omega)) (fun m hm=>hrow m (by omega)) (fun m m' h1 h2=>hP m (by omega) m' (by omega)) n 0 [] []
    (by omega) (fun x hx=>absurd hx (by simp)) ⟨Nat.zero_le _,fun i h=>absurd h (by simp),fun i j _ h=>absurd h (by simp),fun i h=>absurd h (by simp),fun i h=>absurd h (by simp),fun x _ h=>absurd h (by omega)⟩ (fun i t _ h=>absurd h (by simp)) (fun _ _ _=>rfl)
  refine ⟨L,st,e',b1,b2,b3,b5,?_,b8⟩
  have:n*8300≤4*8300:=Nat.mul_le_mul_right _ hn
  omega
end E1
namespace X1
open PySem L2
def toCh (c:Bool×E1.RC):Ch:=match c.2 with
  | .add i j q=>.add c.1 i j q
  | .swap i j=>.swap c.1 i j
  | .turn i=>.turn c.1 i
section
variable {m n:Nat} {T U:Tb}
theorem ent_out_row (h:Rect m n T) {x:Nat} (hx:m≤x) (y:Nat):ent T x y=0:=by
  unfold ent
  have:T.getD x []=[]:=by
    have:T.length≤x:=by rw [h.1];exact hx
    simp [this]
  rw [this];rfl
theorem ent_out_col (h:Rect m n T) (x:Nat) {y:Nat} (hy:n≤y):ent T x y=0:=by
  by_cases hx:x<m
  · unfold ent
    have:(T.getD x []).length≤y:=by rw [h.row hx];exact hy
    simp only [List.getD_eq_getElem?_getD,List.getElem?_eq_none (by simpa only [List.getD_eq_getElem?_getD] using this)]
    rfl
  · exact ent_out_row h (by omega) y
theorem wide_ent (h:Rect m n T):E1.Wide (ent T) n:=fun x y hy=>ent_out_col h x hy
theorem ent_inj (h:Rect m n T) (h':Rect m n U) (e:ent T=ent U):T=U:=tb_ext h h' fun i j _ _=>by rw [e]
theorem toCh_ok {c:Bool×E1.RC} (h:E1.ok2 m n c):(toCh c).ok m n:=by
  obtain ⟨s,c⟩:=c
  cases c <;> cases s <;> exact h
theorem ent_toCh (h:Rect m n T) {c:Bool×E1.RC} (hc:E1.ok2 m n c):ent ((toCh c).app T)=E1.app2 c (ent T):=by
  have hr:=Ch.app_rect h (toCh_ok hc)
  funext x y
  obtain ⟨s,c⟩:=c
  by_cases hx:x<m
  · by_cases hy:y<n
    · cases s with
      | true =>
        cases c with
        | add i j q =>
          obtain ⟨h1,h2,h3⟩:=(show i<m∧j<m∧i≠j from hc)
          show ent ((Ch.add true i j q).app T) x y=E1.addR (ent T) i j q x y
          rw [ent_add_row h h1 h2 hy];rfl
        | swap i j =>
          obtain ⟨h1,h2,h3⟩:=(show i<m∧j<m∧i≠j from hc)
          show ent ((Ch.swap true i j).app T) x y=ent T (E1.sw i j x) y
          rw [ent_swap_row h h1 h2]
          unfold E1.sw
          by_cases e1:x=i
          · rw [if_pos e1,if_neg (by omega),if_pos e1]
          · by_cases e2:x=j
            · rw [if_pos e2,if_neg e1,if_pos e2]
            · rw [if_neg e2,if_neg e1,if_neg e1,if_neg e2]
        | turn i =>
          have h1:i<m:=hc
          show ent ((Ch.turn true i).app T) x y=E1.turnR (ent T) i x y
          rw [ent_turn_row h h1];rfl
      | false =>
        cases c with
        | add i j q =>
          obtain ⟨h1,h2,h3⟩:=(show i<n∧j<n∧i≠j from hc)
          show ent ((Ch.add false i j q).app T) x y=E1.addR (E1.tipT (ent T)) i j q y x
          rw [ent_add_col h h1 hx];rfl
        | swap i j =>
          obtain ⟨h1,h2,h3⟩:=(show i<n∧j<n∧i≠j from hc)
          show ent ((Ch.swap false i j).app T) x y=ent T x (E1.sw i j y)
          rw [ent_swap_col h h1 h2 hx]
          unfold E1.sw
          by_cases e1:y=i
          · rw [if_pos e1,if_neg (by omega),if_pos e1]
          · by_cases e2:y=j
            · rw [if_pos e2,if_neg e1,if_pos e2]
            · rw [if_neg e2,if_neg e1,if_neg e1,if_neg e2]
        | turn i =>
          have h1:i<n:=hc
          show ent ((Ch.turn false i).app T) x y=E1.turnR (E1.tipT (ent T)) i y x
          rw [ent_turn_col h h1 hx];rfl
    · rw [ent_out_col hr x (by omega)]
      have hz:∀x,ent T x y=0:=fun x=>ent_out_col h x (by omega)
      cases s with
      | true =>
        cases c with
        | add i j q=>show 0=E1.addR (ent T) i j q x y;unfold E1.addR;rw [hz,hz,hz];split <;> simp
        | swap i j=>exact (hz _).symm
        | turn i=>show 0=E1.turnR (ent T) i x y;unfold E1.turnR;rw [hz,hz];split <;> rfl
      | false =>
        cases c with
        | add i j q =>
          obtain ⟨h1,h2,h3⟩:=(show i<n∧j<n∧i≠j from hc)
          show 0=E1.addR (E1.tipT (ent T)) i j q y x
          unfold E1.addR;rw [if_neg (by omega)];exact (hz x).symm
        | swap i j =>
          obtain ⟨h1,h2,h3⟩:=(show i<n∧j<n∧i≠j from hc)
          show 0=ent T x (E1.sw i j y)
          unfold E1.sw;rw [if_neg (by omega),if_neg (by omega)];exact (hz x).symm
        | turn i =>
          have h1:i<n:=hc
          show 0=E1.turnR (E1.tipT (ent T)) i y x
          unfold E1.turnR;rw [if_neg (by omega)];exact (hz x).symm
  · rw [ent_out_row hr (by omega)]
    have hz:∀y,ent T x y=0:=fun y=>ent_out_row h (by omega) y
    cases s with
    | true =>
      cases c with
      | add i j q =>
        obtain ⟨h1,h2,h3⟩:=(show i<m∧j<m∧i≠j from hc)
        show 0=E1.addR (ent T) i j q x y
        unfold E1.addR;rw [if_neg (by omega)];exact (hz y).symm
      | swap i j =>
        obtain ⟨h1,h2,h3⟩:=(show i<m∧j<m∧i≠j from hc)
        show 0=ent T (E1.sw i j x) y
        unfold E1.sw;rw [if_neg (by omega),if_neg (by omega)];exact (hz y).symm
      | turn i =>
        have h1:i<m:=hc
        show 0=E1.turnR (ent T) i x y
        unfold E1.turnR;rw [if_neg (by omega)];exact (hz y).symm
    | false =>
      cases c with
      | add i j q=>show 0=E1.addR (E1.tipT (ent T)) i j q y x;unfold E1.addR E1.tipT;rw [hz,hz,hz];split <;> simp
      | swap i j=>exact (hz _).symm
      | turn i=>show 0=E1.turnR (E1.tipT (ent T)) i y x;unfold E1.turnR E1.tipT;rw [hz,hz];split <;> rfl
def tipB (n:Nat) (T:Tb):Tb:=(List.range n).map fun j=>T.map fun r=>r.getD j 0
theorem tipB_rect (h:Rect m n T):Rect n m (tipB n T):=by
  refine ⟨by simp [tipB],fun r hr=>?_⟩
  obtain ⟨j,_,rfl⟩:=List.mem_map.mp hr
  rw [List.length_map,h.1]
theorem ent_tipB (h:Rect m n T):ent (tipB n T)=E1.tipT (ent T):=by
  funext x y
  by_cases hx:x<n
  · by_cases hy:y<m
    · show ent (tipB n T) x y=ent T y x
      have hy':y<T.length:=by rw [h.1];exact hy
      unfold ent tipB
      simp [hx,hy']
    · rw [ent_out_col (tipB_rect h) x (by omega)]
      exact (ent_out_row h (by omega) x).symm
  · rw [ent_out_row (tipB_rect h) (by omega)]
    exact (ent_out_col h y (by omega)).symm
end
end X1
namespace X1
open PySem L2
theorem sc_q00:FnScope ["table","width","row"] ["table"] (defScope s_q00):=⟨rfl,rfl,rfl,by decide +kernel,rfl,by decide +kernel,by decide +kernel⟩
theorem sc_q01:FnScope ["table"] ["table"] (defScope s_q01):=⟨rfl,rfl,rfl,by decide +kernel,rfl,by decide +kernel,by decide +kernel⟩
theorem sc_q02:FnScope ["rows","change","total","places","place"] ["rows","change"] (defScope s_q02):=⟨rfl,rfl,rfl,by decide +kernel,rfl,by decide +kernel,by decide +kernel⟩
theorem sc_q03:FnScope ["rows","change","one","many"] ["rows","change"] (defScope s_q03):=⟨rfl,rfl,rfl,by decide +kernel,rfl,by decide +kernel,by decide +kernel⟩
theorem sc_q04:FnScope ["rows","change","one","row"] ["rows","change"] (defScope s_q04):=⟨rfl,rfl,rfl,by decide +kernel,rfl,by decide +kernel,by decide +kernel⟩
theorem sc_q05:FnScope ["parts","one","two","kept"] ["parts","one","two"] (defScope s_q05):=⟨rfl,rfl,rfl,by decide +kernel,rfl,by decide +kernel,by decide +kernel⟩
theorem sc_q06:FnScope ["table","change"] ["table","change"] (defScope s_q06):=⟨rfl,rfl,rfl,by decide +kernel,rfl,by decide +kernel,by decide +kernel⟩
theorem sc_q07:FnScope ["table","changes","rows","change"] ["table","changes"] (defScope s_q07):=⟨rfl,rfl,rfl,by decide +kernel,rfl,by decide +kernel,by decide +kernel⟩
theorem sc_q08:FnScope ["change"] ["change"] (defScope s_q08):=⟨rfl,rfl,rfl,by decide +kernel,rfl,by decide +kernel,by decide +kernel⟩
theorem sc_q09:FnScope ["changes"] ["changes"] (defScope s_q09):=⟨rfl,rfl,rfl,by decide +kernel,rfl,by decide +kernel,by decide +kernel⟩
theorem sc_q0a:FnScope ["row","place","number"] ["row"] (defScope s_q0a):=⟨rfl,rfl,rfl,by decide +kernel,rfl,by decide +kernel,by decide +kernel⟩
theorem sc_q0b:FnScope ["walk","steps","low","top"] ["walk"] (defScope s_q0b):=⟨rfl,rfl,rfl,by decide +kernel,rfl,by decide +kernel,by decide +kernel⟩
theorem sc_q0c:FnScope ["walk","steps","low","top","place"] ["walk","steps","low"] (defScope s_q0c):=⟨rfl,rfl,rfl,by decide +kernel,rfl,by decide +kernel,by decide +kernel⟩
theorem sc_q0d:FnScope ["walk","steps","row","start","step"] ["walk","steps","row","start"] (defScope s_q0d):=⟨rfl,rfl,rfl,by decide +kernel,rfl,by decide +kernel,by decide +kernel⟩
theorem sc_q0e:FnScope ["walk","low","top","height","row"] ["walk","low","top","height"] (defScope s_q0e):=⟨rfl,rfl,rfl,by decide +kernel,rfl,by decide +kernel,by decide +kernel⟩
theorem sc_q0f:FnScope ["rows","place"] ["rows","place"] (defScope s_q0f):=⟨rfl,rfl,rfl,by decide +kernel,rfl,by decide +kernel,by decide +kernel⟩
theorem sc_q0g:FnScope ["table","walk"] ["table"] (defScope s_q0g):=⟨rfl,rfl,rfl,by decide +kernel,rfl,by decide +kernel,by decide +kernel⟩
theorem sc_q0h:FnScope ["table","rows"] ["table"] (defScope s_q0h):=⟨rfl,rfl,rfl,by decide +kernel,rfl,by decide +kernel,by decide +kernel⟩
theorem sc_q0i:FnScope ["rows"] ["rows"] (defScope s_q0i):=⟨rfl,rfl,rfl,by decide +kernel,rfl,by decide +kernel,by decide +kernel⟩
theorem sc_q0j:FnScope ["walk"] ["walk"] (defScope s_q0j):=⟨rfl,rfl,rfl,by decide +kernel,rfl,by decide +kernel,by decide +kernel⟩
theorem sc_q0k:FnScope ["rows","place","row","other","number"] ["rows"] (defScope s_q0k):=⟨rfl,rfl,rfl,by decide +kernel,rfl,by decide +kernel,by decide +kernel⟩
theorem sc_q0l:FnScope ["walk","length","one","two"] ["walk"] (defScope s_q0l):=⟨rfl,rfl,rfl,by decide +kernel,rfl,by decide +kernel,by decide +kernel⟩
theorem sc_q0m:FnScope ["walk","one","two"] ["walk","one","two"] (defScope s_q0m):=⟨rfl,rfl,rfl,by decide +kernel,rfl,by decide +kernel,by decide +kernel⟩
theorem sc_q0n:FnScope ["walk","place"] ["walk"] (defScope s_q0n):=⟨rfl,rfl,rfl,by decide +kernel,rfl,by decide +kernel,by decide +kernel⟩
theorem sc_q0o:FnScope ["one","two"] ["one","two"] (defScope s_q0o):=⟨rfl,rfl,rfl,by decide +kernel,rfl,by decide +kernel,by decide +kernel⟩
theorem sc_q0p:FnScope ["one","two","there","back"] ["one","two"] (defScope s_q0p):=⟨rfl,rfl,rfl,by decide +kernel,rfl,by decide +kernel,by decide +kernel⟩
theorem sc_q0q:FnScope ["table","row","width","rest"] ["table","row"] (defScope s_q0q):=⟨rfl,rfl,rfl,by decide +kernel,rfl,by decide +kernel,by decide +kernel⟩
theorem sc_q0r:FnScope ["table"] ["table"] (defScope s_q0r):=⟨rfl,rfl,rfl,by decide +kernel,rfl,by decide +kernel,by decide +kernel⟩
theorem sc_q0s:FnScope ["total","place"] ["total","place"] (defScope s_q0s):=⟨rfl,rfl,rfl,by decide +kernel,rfl,by decide +kernel,by decide +kernel⟩
theorem sc_q0t:FnScope ["table","row","walk","rest","top","place","stair","times"] ["table","row"] (defScope s_q0t):=⟨rfl,rfl,rfl,by decide +kernel,rfl,by decide +kernel,by decide +kernel⟩
theorem sc_q0u:FnScope ["table","numbers"] ["table"] (defScope s_q0u):=⟨rfl,rfl,rfl,by decide +kernel,rfl,by decide +kernel,by decide +kernel⟩
theorem sc_q0v:FnScope ["table","number"] ["table","number"] (defScope s_q0v):=⟨rfl,rfl,rfl,by decide +kernel,rfl,by decide +kernel,by decide +kernel⟩
theorem sc_q0w:FnScope ["numbers","answer","number"] ["numbers"] (defScope s_q0w):=⟨rfl,rfl,rfl,by decide +kernel,rfl,by decide +kernel,by decide +kernel⟩
theorem sc_q0x:FnScope ["one","two","rest"] ["one","two"] (defScope s_q0x):=⟨rfl,rfl,rfl,by decide +kernel,rfl,by decide +kernel,by decide +kernel⟩
theorem sc_q0y:FnScope ["_law_script","_law_k"] ["_law_script","_law_k"] (defScope s_q0y):=⟨rfl,rfl,rfl,by decide +kernel,rfl,by decide +kernel,by decide +kernel⟩
theorem sc_q0z:FnScope ["_law_table"] ["_law_table"] (defScope s_q0z):=⟨rfl,rfl,rfl,by decide +kernel,rfl,by decide +kernel,by decide +kernel⟩
theorem sc_q10:FnScope ["_law_script","_law_first","_law_high","_law_wide","_law_table","_law_k","_law_row","_law_j","_law_cell"] ["_law_script","_law_first","_law_high","_law_wide"] (defScope s_q10):=⟨rfl,rfl,rfl,by decide +kernel,rfl,by decide +kernel,by decide +kernel⟩
theorem sc_q11:FnScope ["_law_which","_law_table","_law_change","_law_row","_law_number"] ["_law_which","_law_table","_law_change","_law_row","_law_number"] (defScope s_q11):=⟨rfl,rfl,rfl,by decide +kernel,rfl,by decide +kernel,by decide +kernel⟩
theorem sc_q12:FnScope ["_law_which","_law_table","_law_change","_law_row","_law_number","_law_word"] ["_law_which","_law_table","_law_change","_law_row","_law_number"] (defScope s_q12):=⟨rfl,rfl,rfl,by decide +kernel,rfl,by decide +kernel,by decide +kernel⟩
theorem sc_q13:FnScope ["_law_table","_law_way","_law_made"] ["_law_table","_law_way"] (defScope s_q13):=⟨rfl,rfl,rfl,by decide +kernel,rfl,by decide +kernel,by decide +kernel⟩
theorem sc_q14:FnScope ["_law_script","_law_high","_law_wide","_law_side","_law_many","_law_way","_law_far"] ["_law_script","_law_high","_law_wide"] (defScope s_q14):=⟨rfl,rfl,rfl,by decide +kernel,rfl,by decide +kernel,by decide +kernel⟩
theorem sc_q15:FnScope ["_law_which","_law_table","_law_change","_law_row","_law_number","e","_law_under"] ["_law_which","_law_table","_law_change","_law_row","_law_number"] (defScope s_q15):=⟨rfl,rfl,rfl,by decide +kernel,rfl,by decide +kernel,by decide +kernel⟩
theorem sc_q16:FnScope ["_law_due","_law_which","_law_table","_law_change","_law_row","_law_number"] ["_law_due","_law_which","_law_table","_law_change","_law_row","_law_number"] (defScope s_q16):=⟨rfl,rfl,rfl,by decide +kernel,rfl,by decide +kernel,by decide +kernel⟩
theorem sc_q17:FnScope ["_law_script","_law_high","_law_wide","_law_way","_law_table","_law_bad","_law_change","_law_word","_law_more","_law_number","_law_which","_law_due","_law_handed"] ["_law_script"] (defScope s_q17):=⟨rfl,rfl,rfl,by decide +kernel,rfl,by decide +kernel,by decide +kernel⟩
theorem sc_q18:FnScope ["self","table"] ["self","table"] (defScope s_q18):=⟨rfl,rfl,rfl,by decide +kernel,rfl,by decide +kernel,by decide +kernel⟩
theorem sc_q19:FnScope ["self"] ["self"] (defScope s_q19):=⟨rfl,rfl,rfl,by decide +kernel,rfl,by decide +kernel,by decide +kernel⟩
theorem sc_q1a:FnScope ["self","change"] ["self","change"] (defScope s_q1a):=⟨rfl,rfl,rfl,by decide +kernel,rfl,by decide +kernel,by decide +kernel⟩
theorem sc_q1b:FnScope ["self","one","two","many"] ["self","one","two","many"] (defScope s_q1b):=⟨rfl,rfl,rfl,by decide +kernel,rfl,by decide +kernel,by decide +kernel⟩
theorem sc_q1c:FnScope ["self","one","two"] ["self","one","two"] (defScope s_q1c):=⟨rfl,rfl,rfl,by decide +kernel,rfl,by decide +kernel,by decide +kernel⟩
theorem sc_q1d:FnScope ["self","one"] ["self","one"] (defScope s_q1d):=⟨rfl,rfl,rfl,by decide +kernel,rfl,by decide +kernel,by decide +kernel⟩
theorem sc_q1e:FnScope ["self","one","two","place","number","part"] ["self","one","two","place"] (defScope s_q1e):=⟨rfl,rfl,rfl,by decide +kernel,rfl,by decide +kernel,by decide +kernel⟩
theorem sc_q1f:FnScope ["self","top","low","place"] ["self","top","low","place"] (defScope s_q1f):=⟨rfl,rfl,rfl,by decide +kernel,rfl,by decide +kernel,by decide +kernel⟩
def IsCh (H:Hp) (t:Addr) (c:Ch):Prop:=H t=some (.tup (chV c))
def IsChs (H:Hp) (l:Addr) (ts:List Addr) (cs:List Ch):Prop:=H l=some (.lst (ts.map V.ref))∧Paired (IsCh H) ts cs
theorem pimp {α β:Type} {F G:α→β→Prop}:∀{l:List α} {l':List β},Paired F l l'→(∀a b,F a b→G a b)→Paired G l l'
  | _,_,.nil,_=>.nil
  | _,_,.cons h t,f=>.cons (f _ _ h) (pimp t f)
theorem IsChs.same {H H':Hp} {l:Addr} {ts:List Addr} {cs:List Ch} (h:IsChs H l ts cs) (s:Same H H'):IsChs H' l ts cs :=
  ⟨s _ _ h.1,pimp h.2 fun _ _ e=>s _ _ e⟩
theorem pget {α β:Type} {F:α→β→Prop}:∀{l:List α} {l':List β} {i:Nat} {a:α},Paired F l l'→l[i]?=some a→∃b,l'[i]?=some b∧F a b
  | _,_,_,_,.nil,e=>by simp at e
  | _,_,0,_,.cons h _,e=>by simp at e;subst e;exact ⟨_,rfl,h⟩
  | _,_,i+1,a,.cons _ t,e=>by
    obtain ⟨b,h1,h2⟩:=pget (i:=i) (a:=a) t (by simpa using e)
    exact ⟨b,by simpa using h1,h2⟩
theorem mref {rs:List Addr} {i:Nat} {y:V} (h:(rs.map V.ref)[i]?=some y):∃r,rs[i]?=some r∧y=.ref r:=by
  rw [List.getElem?_map] at h
  cases e:rs[i]? with
  | none=>rw [e] at h;cases h
  | some r=>rw [e] at h;exact ⟨r,rfl,(Option.some.inj h).symm⟩
theorem mint {xs:List Int} {i:Nat} {y:V} (h:(xs.map V.int)[i]?=some y):∃r,xs[i]?=some r∧y=.int r:=by
  rw [List.getElem?_map] at h
  cases e:xs[i]? with
  | none=>rw [e] at h;cases h
  | some r=>rw [e] at h;exact ⟨r,rfl,(Option.some.inj h).symm⟩
theorem rget {rs:List Addr} {i:Nat} {r:Addr} (h:rs[i]?=some r):(rs.map V.ref)[i]?=some (.ref r):=by rw [List.getElem?_map,h];rfl
theorem iget {xs:List Int} {i:Nat} {x:Int} (h:xs[i]?=some x):(xs.map V.int)[i]?=some (.int x):=by rw [List.getElem?_map,h];rfl
theorem ixN_nat {n i:Nat} (h:i<n):ixN n (i:Int)=some i:=by
  unfold ixN
  rw [if_pos (Int.natCast_nonneg i),if_pos (by omega)]
  simp
inductive RowAt (H:Hp) (rs:List Addr) (T:Tb) (i n:Nat):Prop
  | mk (r:Addr) (_:rs[i]?=some r) (_:T[i]?=some (T.getD i [])) (_:IsRow H r (T.getD i [])) (_:(T.getD i []).length=n):RowAt H rs T i n
theorem _root_.L2.TabAt.at {H:Hp} {a:Addr} {rs:List Addr} {T:Tb} {m n i:Nat} (t:TabAt H a rs T) (hr:Rect m n T) (hi:i<m):RowAt H rs T i n:=by
  have hl:i<T.length:=by rw [hr.1];exact hi
  have e:T[i]?=some (T.getD i []):=by simp [hl]
  obtain ⟨r,h1,h2⟩:=t.tab.2.get e
  exact ⟨r,h1,e,h2,hr.row hi⟩
theorem _root_.L2.TabAt.len {H:Hp} {a:Addr} {rs:List Addr} {T:Tb} {m n:Nat} (t:TabAt H a rs T) (hr:Rect m n T):rs.length=m:=by rw [t.tab.2.length,hr.1]
theorem getD_some {row:List Int} {j n:Nat} (hl:row.length=n) (hj:j<n):row[j]?=some (row.getD j 0):=by
  have:j<row.length:=by omega
  simp [this]
theorem _root_.L2.TabAt.put {H H2:Hp} {a D:Addr} {rs:List Addr} {T:Tb} {i:Nat} {row:List Int} (t:TabAt H a rs T) (s:Same H H2) (hD:H2 D=none) :
    TabAt (upd (upd H2 D (.lst (row.map V.int))) a (.lst ((rs.map V.ref).set i (.ref D)))) a (rs.set i D) (T.set i row) ∧
    Stay H (upd (upd H2 D (.lst (row.map V.int))) a (.lst ((rs.map V.ref).set i (.ref D)))) (a::rs)∧∀b∈rs.set i D,b∈rs∨H b=none:=by
  have nd:=List.nodup_cons.mp t.nd
  have fD:H D=none:=s.free hD
  have hDa:D≠a:=(ne_of_none t.tab.1 fD).symm
  have hDr:D∉rs:=fun z=>by
    obtain ⟨row',e⟩:=t.tab.2.tracked D z
    rw [IsRow,fD] at e;cases e
  have hmem:∀b∈rs.set i D,b∈rs∨b=D:=fun b hb=>List.mem_or_eq_of_mem_set hb
  refine ⟨⟨⟨?_,?_⟩,?_⟩,fun b o e hb=>?_,fun b hb=>?_⟩
  · rw [upd_same,List.map_set]
  · have h1:IsRows (upd (upd H2 D (.lst (row.map V.int))) a (.lst ((rs.map V.ref).set i (.ref D)))) rs T:=t.tab.2.imp fun r hr o e=>by
      have hra:r≠a:=by rintro rfl;exact nd.1 hr
      have hrD:r≠D:=by rintro rfl;exact hDr hr
      rw [upd_ne hra,upd_ne hrD];exact s r o e
    refine h1.put ?_
    show upd _ a _ D=_
    rw [upd_ne hDa,upd_same]
  · refine List.nodup_cons.mpr ⟨fun z=>?_,?_⟩
    · rcases hmem a z with z | z
      · exact nd.1 z
      · exact hDa z.symm
    · exact (nodup_set nd.2 hDr)
  · have hba:b≠a:=fun z=>hb (by rw [z];exact List.mem_cons_self)
    rw [upd_ne hba,upd_ne (ne_of_none e fD)];exact s b o e
  · rcases hmem b hb with z | z
    · exact .inl z
    · exact .inr (by rw [z];exact fD)
where
  nodup_set:∀{rs:List Addr} {i:Nat} {D:Addr},rs.Nodup→D∉rs→(rs.set i D).Nodup
    | [],_,_,h,_=>h
    | r::rs,0,D,h,hD=>List.nodup_cons.mpr ⟨fun z=>hD (List.mem_cons_of_mem _ z),(List.nodup_cons.mp h).2⟩
    | r::rs,i+1,D,h,hD=>by
      refine List.nodup_cons.mpr ⟨fun z=>?_,nodup_set (List.nodup_cons.mp h).2 fun z=>hD (List.mem_cons_of_mem _ z)⟩
      rcases List.mem_or_eq_of_mem_set z with z | z
      · exact (List.nodup_cons.mp h).1 z
      · exact hD (by rw [z];exact List.mem_cons_self)
section
variable {P:Program} {w:World} {K:PySem.W.Frag} {mg:Str→Option Value} {base:Heap}
inductive SpSwap (vs:List V) (H:Hp) (Q:VK):Prop
  | mk (p:Addr) (xs:List V) (i j:Nat) (x y:V) (_:vs=[.ref p,.int i,.int j]) (_:H p=some (.lst xs)) (_:xs[i]?=some x) (_:xs[j]?=some y) (_:Q .non (upd H p (.lst ((xs.set i y).set j x)))):SpSwap vs H Q
def spSwap:Sp:=fun vs H Q _=>SpSwap vs H Q
theorem ok_q05 (D:DefAt K mg "swap_parts" s_q05 ["parts","one","two"]) (T:Bt mg):Callee P w K mg base 1 "swap_parts" ["parts","one","two"] spSwap:=by
  refine D.ok (k:=0) sc_q05 (fun vs H Q E h=>?_) (fun f cdv A outer s H vs Q E hr h=>?_)
  · obtain ⟨_,_,_,_,_,_,rfl,_⟩:=h
    rfl
  · obtain ⟨p,xs,i,j,x,y,rfl,hp,hx,hy,k⟩:=h
    refine ⟨_,(pss_cons (ps_set (i:=3) sc_q05.nd rfl (Or.inl rfl) (pe_ix ix_list (pv 0) (pv 1) (fun _ _=>rfl)))
        (pss_cons (ps_asg (pe_ix ix_list (pv 0) (pv 2) (fun _ _=>rfl)) (pg_sub (pv 0) (pv 1) set_list))
        (pss_one (ps_asg (pv 3) (pg_sub (pv 0) (pv 2) set_list))))),?_⟩
    have hi:i<xs.length:=(List.getElem?_eq_some_iff.mp hx).1
    have hj:j<xs.length:=(List.getElem?_eq_some_iff.mp hy).1
    refine ⟨_,rfl,_,rfl,p,xs,_,x,rfl,rfl,SqL.of hp,atI_nat hx,?_⟩
    refine ⟨_,rfl,_,rfl,p,xs,_,y,rfl,rfl,SqL.of hp,atI_nat hy,?_⟩
    refine ⟨_,rfl,_,rfl,p,xs,_,i,rfl,rfl,hp,ixN_nat hi,?_⟩
    refine ⟨_,rfl,_,rfl,_,rfl,p,_,_,j,rfl,rfl,upd_same,ixN_nat (by rw [List.length_set];exact hj),?_⟩
    rw [upd_upd]
    exact k
inductive SpRefT (vs:List V) (H:Hp) (Q:VK):Prop
  | mk (a:Addr) (rs:List Addr) (T:Tb) (m n:Nat) (_:vs=[.ref a]) (_:TabAt H a rs T) (_:Rect (m+1) (n+1) T) (_:Q .non H):SpRefT vs H Q
def spRefT:Sp:=fun vs H Q _=>SpRefT vs H Q
theorem ok_q00 (D:DefAt K mg "refuse_no_table" s_q00 ["table"]) (T:Bt mg):Callee P w K mg base 1 "refuse_no_table" ["table"] spRefT:=by
  refine D.ok (k:=0) sc_q00 (fun vs H Q E h=>?_) (fun f cdv A outer s H vs Q E hr h=>?_)
  · obtain ⟨_,_,_,_,_,rfl,_⟩:=h
    rfl
  · obtain ⟨a,rs,Tt,m,n,rfl,ht,hr',k⟩:=h
    refine ⟨_,(pss_cons (ps_if (pt_cmpR op_eq (pe_callB call_len_seq rfl T.len bt_len (pa_cons (pv 0) pa_nil)) pe_int (nomark _)) (pss_one ps_never) pss_nil)
        (pss_cons (ps_set (i:=1) sc_q00.nd rfl (Or.inl rfl) (pe_callB call_len_seq rfl T.len bt_len (pa_cons (pe_ix ix_list (pv 0) pe_int (fun _ _=>rfl)) pa_nil)))
        (pss_cons (ps_if (pt_cmpR op_eq (pv 1) pe_int (nomark _)) (pss_one ps_never) pss_nil)
        (pss_one (ps_for PassesOwn.never rfl (pi_list (pv 0)) (pg_name (i:=2) sc_q00.nd rfl (Or.inl rfl)) (pss_one (ps_if (pt_cmpR op_ne (pe_callB call_len_seq rfl T.len bt_len (pa_cons (pv 2) pa_nil)) (pv 1) (nomark _)) (pss_one ps_never) pss_nil))))))),?_⟩
    have hl:=ht.len hr'
    obtain ⟨r0,e0,_,hr0,hl0⟩:=ht.at hr' (Nat.succ_pos m)
    have h1:=ht.tab.1
    refine ⟨_,rfl,a,_,rfl,.inl (SqL.of h1),rfl,_,rfl,iteN (v_ne (by rw [List.length_map,hl];omega)) ?_⟩
    refine ⟨_,rfl,a,_,_,_,rfl,rfl,SqL.of h1,atI_nat (j:=0) (rget e0),r0,_,rfl,.inl (SqL.of hr0),?_⟩
    refine ⟨_,rfl,rfl,_,rfl,iteN (v_ne (by rw [List.length_map,hl0];omega)) ?_⟩
    refine ⟨_,rfl,a,rfl,⟨_,SqL.of h1⟩,for_list (K:=K) (a:=a) (xs:=rs.map V.ref) (fun i σ H2=>H2=H∧∃v,σ=[some (.ref a),some (.int (((Tt.getD 0 []).map V.int).length:Nat)),v]) ⟨rfl,none,rfl⟩ (fun i σ H2 _ h=>by rw [h.1];exact SqL.of h1) ?_ ?_⟩
    · rintro i y σ H2 hi ⟨rfl,v,rfl⟩
      obtain ⟨r,er,rfl⟩:=mref hi
      have him:i<m+1:=by rw [←hl];exact (List.getElem?_eq_some_iff.mp er).1
      obtain ⟨r',er',_,hrow,hlrow⟩:=ht.at hr' him
      rw [er] at er';cases er'
      refine ⟨_,rfl,r,_,rfl,.inl (SqL.of hrow),_,rfl,rfl,_,rfl,iteNS ?_ ?_⟩
      · rw [List.length_map,List.length_map,hlrow,hl0]
      · exact ⟨rfl,_,rfl⟩
    · rintro σ H2 ⟨rfl,_⟩
      exact k
inductive SpCopy (vs:List V) (H:Hp) (Q:VK):Prop
  | mk (a:Addr) (rs:List Addr) (T:Tb) (_:vs=[.ref a]) (_:TabAt H a rs T) (_:T.length≤1000) (_:∀(p:Addr) (qs:List Addr) (H':Hp),Same H H'→TabAt H' p qs T→(∀b∈p::qs,H b=none)→Q (.ref p) H'):SpCopy vs H Q
def spCopy:Sp:=fun vs H Q _=>SpCopy vs H Q
structure CopyAt (H H2:Hp) (qs:List Addr) (T:Tb):Prop where
  same:Same H H2
  rows:IsRows H2 qs T
  nd:qs.Nodup
  new:∀b∈qs,H b=none
theorem CopyAt.start (H:Hp):CopyAt H H [] []:=⟨Same.refl H,.nil,List.nodup_nil,fun _ h=>nomatch h⟩
theorem psnoc {α β:Type} {F:α→β→Prop} {a:α} {b:β}:∀{l:List α} {l':List β},Paired F l l'→F a b→Paired F (l++[a]) (l'++[b])
  | _,_,.nil,h=>.cons h .nil
  | _,_,.cons h t,h'=>.cons h (psnoc t h')
theorem CopyAt.more {H H2:Hp} {qs:List Addr} {T:Tb} {p:Addr} {row:List Int} (c:CopyAt H H2 qs T) (hp:H2 p=none):CopyAt H (upd H2 p (.lst (row.map V.int))) (qs++[p]) (T++[row]):=by
  have hq:p∉qs:=fun z=>by
    obtain ⟨r,e⟩:=c.rows.tracked p z
    rw [IsRow,hp] at e;cases e
  refine ⟨c.same.laid hp,psnoc (c.rows.imp fun r hr o e=>?_) upd_same,?_,fun b hb=>?_⟩
  · have:r≠p:=by rintro rfl;exact hq hr
    rw [upd_ne this];exact e
  · refine List.nodup_append.mpr ⟨c.nd,by simp,fun a ha b hb=>?_⟩
    have:b=p:=by simpa using hb
    subst this
    rintro rfl;exact hq ha
  · rcases List.mem_append.mp hb with z | z
    · exact c.new b z
    · have:b=p:=by simpa using z
      subst this
      exact c.same.free hp
theorem CopyAt.done {H H2:Hp} {qs:List Addr} {T:Tb} {p:Addr} (c:CopyAt H H2 qs T) (hp:H2 p=none):Same H (upd H2 p (.lst (qs.map V.ref)))∧TabAt (upd H2 p (.lst (qs.map V.ref))) p qs T∧∀b∈p::qs,H b=none:=by
  have hq:p∉qs:=fun z=>by
    obtain ⟨r,e⟩:=c.rows.tracked p z
    rw [IsRow,hp] at e;cases e
  refine ⟨c.same.laid hp,⟨⟨upd_same,c.rows.imp fun r hr o e=>?_⟩,List.nodup_cons.mpr ⟨hq,c.nd⟩⟩,fun b hb=>?_⟩
  · have:r≠p:=by rintro rfl;exact hq hr
    rw [upd_ne this];exact e
  · rcases List.mem_cons.mp hb with rfl | z
    · exact c.same.free hp
    · exact c.new b z
theorem ok_q01 (D:DefAt K mg "copied" s_q01 ["table"]) (T:Bt mg):Callee P w K mg base 1 "copied" ["table"] spCopy:=by
  refine D.ok (k:=0) sc_q01 (fun vs H Q E h=>?_) (fun f cdv A outer s H vs Q E hr h=>?_)
  · obtain ⟨_,_,_,rfl,_⟩:=h
    rfl
  · obtain ⟨a,rs,Tt,rfl,ht,hz,k⟩:=h
    refine ⟨_,(pss_one (ps_ret (pe_comp (N:=["row"]) (cap:=[]) (k:=1) (CompScope.mk' (defScope s_q01) ["table"] rfl rfl (by decide +kernel)) rfl (pi_list (pv 0)) (fun _ _ _ _=>(pg_name (i:=0) (show (["row"]:List Str).Nodup by decide +kernel) rfl (Or.inl rfl))) (fun _ _ _ _=>(pe_callTy (call_list_ofK (K:=K) rfl) rfl T.list bt_list (pa_cons (pv 0) pa_nil)))))),?_⟩
    have h1:=ht.tab.1
    have hlen:=ht.tab.2.length
    refine ⟨_,rfl,a,rfl,⟨_,SqL.of h1⟩,comp_list (K:=K) (a:=a) (xs:=rs.map V.ref) (fun i ys H2=>∃qs,ys=qs.map V.ref∧qs.length=i∧i≤Tt.length∧CopyAt H H2 qs (Tt.take i)) (by rw [List.length_map,hlen];exact Nat.le_trans hz (by decide)) ⟨[],rfl,rfl,Nat.zero_le _,by simpa using CopyAt.start H⟩ (fun i ys H2 ⟨qs,e,e2,_⟩=>by rw [e,List.length_map,e2]) (fun i ys H2 _ ⟨qs,_,_,_,c⟩=>SqL.of (c.same _ _ h1)) ?_ ?_⟩
    · rintro i x ys H2 hx ⟨qs,rfl,hq,hi,c⟩
      obtain ⟨r,er,rfl⟩:=mref hx
      obtain ⟨row,erow,hrow⟩:=pget ht.tab.2 er
      refine ⟨rfl,_,rfl,r,_,rfl,.inl (SqL.of (c.same _ _ hrow)),fun l hl=>?_⟩
      have hlt:i<Tt.length:=(List.getElem?_eq_some_iff.mp erow).1
      refine ⟨qs++[l],by rw [List.map_append];rfl,by rw [List.length_append,hq];rfl,hlt,?_⟩
      have e:Tt.take (i+1)=Tt.take i++[row]:=by rw [List.take_succ,erow];rfl
      rw [e]
      exact c.more hl
    · rintro ys H2 ⟨qs,rfl,hq,hi,c⟩ p hp
      rw [List.length_map,hlen,List.take_length] at c
      obtain ⟨q1,q2,q3⟩:=c.done hp
      exact k p qs _ q1 q2 q3
end
end X1
namespace X1
open PySem L2
theorem sd_row (s:Bool):decide (V.str (sd s)=V.str "row")=s:=by
  cases s
  · exact decide_eq_false (by decide +kernel)
  · exact decide_eq_true rfl
def Ch.word:Ch→Str
  | .add _ _ _ _ => "add"
  | .swap _ _ _ => "swap"
  | .turn _ _ => "turn"
theorem ne_swap_add:¬ V.str "swap" = V.str "add" := by decide +kernel
theorem ne_turn_add:¬ V.str "turn" = V.str "add" := by decide +kernel
theorem ne_turn_swap:¬ V.str "turn" = V.str "swap" := by decide +kernel
theorem swap_perm {rs:List Addr} {i j:Nat} {a b:Addr} (hi:rs[i]?=some a) (hj:rs[j]?=some b):((rs.set i b).set j a).Perm rs:=by
  obtain ⟨h1,e1⟩:=List.getElem?_eq_some_iff.mp hi
  obtain ⟨h2,e2⟩:=List.getElem?_eq_some_iff.mp hj
  subst e1 e2
  exact List.set_set_perm h1 h2
def Ch.rowd:Ch→Ch
  | .add _ i j q=>.add true i j q
  | .swap _ i j=>.swap true i j
  | .turn _ i=>.turn true i
def Ch.fits (B:Nat):Ch→Prop
  | .add _ _ _ q=>q.natAbs≤2^B
  | _=>True
theorem cell_of {T:Tb} {i j:Nat} {v:Int} (h:(T.getD i [])[j]?=some v):v=ent T i j:=by
  unfold ent
  rw [List.getD_eq_getElem?_getD (l:=T.getD i []),h];rfl
structure Fill (H H2:Hp) (l:Addr) (qs:List Addr) (T:Tb):Prop where
  same:Same H H2
  tab:TabAt H2 l qs T
  new:H l=none
theorem Fill.more {H H2 H3:Hp} {l r:Addr} {qs:List Addr} {T:Tb} {row:List Int} (md:Fill H H2 l qs T) (s:Same H2 H3) (hr:IsRow H3 r row) (hn:H2 r=none):Fill H (upd H3 l (.lst (qs.map V.ref++[.ref r]))) l (qs++[r]) (T++[row]):=by
  have nd:=List.nodup_cons.mp md.tab.nd
  have hrl:r≠l:=(ne_of_none md.tab.tab.1 hn).symm
  have hrq:r∉qs:=fun z=>by
    obtain ⟨w,e⟩:=md.tab.tab.2.tracked r z
    rw [IsRow,hn] at e;cases e
  refine ⟨fun b o e=>?_,⟨⟨?_,?_⟩,?_⟩,md.new⟩
  · have hb:b≠l:=fun z=>by rw [z,md.new] at e;cases e
    rw [upd_ne hb];exact s _ _ (md.same _ _ e)
  · rw [upd_same,List.map_append];rfl
  · refine psnoc (md.tab.tab.2.imp fun b hb o e=>?_) ?_
    · have hbl:b≠l:=by rintro rfl;exact nd.1 hb
      rw [upd_ne hbl];exact s _ _ e
    · show upd H3 l _ r=_
      rw [upd_ne hrl];exact hr
  · refine List.nodup_cons.mpr ⟨fun z=>?_,List.nodup_append.mpr ⟨nd.2,by simp,fun x hx y hy=>?_⟩⟩
    · rcases List.mem_append.mp z with z | z
      · exact nd.1 z
      · have e:l=r:=by simpa using z
        exact hrl e.symm
    · have:y=r:=by simpa using hy
      subst this
      rintro rfl;exact hrq hx
theorem Rect.snoc {m n:Nat} {T:Tb} {row:List Int} (h:Rect m n T) (hr:row.length=n):Rect (m+1) n (T++[row]) :=
  ⟨by rw [List.length_append,h.1];rfl,fun q hq=>by
    rcases List.mem_append.mp hq with z | z
    · exact h.2 q z
    · have:q=row:=by simpa using z
      rw [this];exact hr⟩
section
variable {P:Program} {w:World} {K:PySem.W.Frag} {mg:Str→Option Value} {base:Heap}
inductive SpRow (B:Nat) (vs:List V) (H:Hp) (Q:VK):Prop
  | mk (a t:Addr) (rs:List Addr) (T:Tb) (m n:Nat) (c:Ch) (_:vs=[.ref a,.ref t]) (_:TabAt H a rs T) (_:Rect m n T) (_:n≤1000) (_:IsCh H t c) (_:c.rowd.ok m n) (_:c.fits B) (_:E1.Le B (ent T)) (_:∀(qs:List Addr) (H':Hp),TabAt H' a qs (c.rowd.app T)→Stay H H' (a::rs)→(∀b∈qs,b∈rs∨H b=none)→Q .non H'):SpRow B vs H Q
def spRow (B:Nat):Sp:=fun vs H Q _=>SpRow B vs H Q
theorem take_zip {f:Int→Int→Int} {xs ys:List Int} {i:Nat} {x y:Int} (hx:xs[i]?=some x) (hy:ys[i]?=some y):(List.zipWith f xs ys).take (i+1)=(List.zipWith f xs ys).take i++[f x y]:=by
  rw [List.take_succ,List.getElem?_zipWith,hx,hy];rfl
theorem take_map {f:Int→Int} {xs:List Int} {i:Nat} {x:Int} (hx:xs[i]?=some x):(xs.map f).take (i+1)=(xs.map f).take i++[f x]:=by
  rw [List.take_succ,List.getElem?_map,hx];rfl
theorem ok_q03 {B:Nat} (hB:B≤33554432) (D:DefAt K mg "change_by_row" s_q03 ["rows","change"]) (T:Bt mg) (C_q05:Callee P w K mg base 1 "swap_parts" ["parts","one","two"] spSwap):Callee P w K mg base 2 "change_by_row" ["rows","change"] (spRow B):=by
  refine D.ok (k:=1) sc_q03 (fun vs H Q E h=>?_) (fun f cdv A outer s H vs Q E hr h=>?_)
  · obtain ⟨_,_,_,_,_,_,_,rfl,_⟩:=h
    rfl
  · obtain ⟨a,t,rs,Tt,m,n,c,rfl,ht,hr',hn,hc,hok,hsm,hle,k⟩:=h
    refine ⟨_,(pss_cons (ps_set (i:=2) sc_q03.nd rfl (Or.inl rfl) (pe_ix ix_tup (pv 1) pe_int (fun _ _=>rfl)))
        (pss_one (ps_if (pt_cmpR op_eq (pe_ix ix_tup (pv 1) pe_int (fun _ _=>rfl)) pe_str (nomark _)) (pss_cons (ps_set (i:=3) sc_q03.nd rfl (Or.inr rfl) (pe_ix ix_tup (pv 1) pe_int (fun _ _=>rfl)))
        (pss_one (ps_asg (pe_comp (N:=["many","number","other"]) (cap:=[3]) (k:=2) (CompScope.mk' (defScope s_q03) ["rows","change","one","many"] rfl rfl (by decide +kernel)) rfl (pi_zip rfl T.zip (pa_cons (pe_ix ix_list (pv 0) (pv 2) (fun _ _=>rfl)) (pa_cons (pe_ix ix_list (pv 0) (pe_ix ix_tup (pv 1) pe_int (fun _ _=>rfl)) (fun _ _=>rfl)) pa_nil))) (fun _ _ _ _=>(pg_tupK (K:=K) (n:=2) rfl rfl (pgs_cons (pg_name (i:=1) (show (["many","number","other"]:List Str).Nodup by decide +kernel) rfl (Or.inl rfl)) (pgs_cons (pg_name (i:=2) (show (["many","number","other"]:List Str).Nodup by decide +kernel) rfl (Or.inl rfl)) pgs_nil)))) (fun _ _ _ _=>(pe_op op_add (pv 1) (pe_op (op_mulB B hB) (pv 0) (pv 2))))) (pg_sub (pv 0) (pv 2) set_list)))) (pss_one (ps_if (pt_cmpR op_eq (pe_ix ix_tup (pv 1) pe_int (fun _ _=>rfl)) pe_str (nomark _)) (pss_one (ps_expr (pe_callC C_q05 (hr.mono (by decide)) rfl (pa_cons (pv 0) (pa_cons (pv 2) (pa_cons (pe_ix ix_tup (pv 1) pe_int (fun _ _=>rfl)) pa_nil)))))) (pss_one (ps_asg (pe_comp (N:=["number"]) (cap:=[]) (k:=1) (CompScope.mk' (defScope s_q03) ["rows","change","one","many"] rfl rfl (by decide +kernel)) rfl (pi_list (pe_ix ix_list (pv 0) (pv 2) (fun _ _=>rfl))) (fun _ _ _ _=>(pg_name (i:=0) (show (["number"]:List Str).Nodup by decide +kernel) rfl (Or.inl rfl))) (fun _ _ _ _=>(pe_un un_neg (pv 0)))) (pg_sub (pv 0) (pv 2) set_list)))))))),?_⟩
    have hl:=ht.len hr'
    have h1:=ht.tab.1
    cases c with
    | add sd i j q =>
      obtain ⟨hi,hj,hij⟩:=hok
      have hi:i<m:=hi
      have hj:j<m:=hj
      obtain ⟨ri,ei,_,hri,hli⟩:=ht.at hr' hi
      obtain ⟨rj,ej,_,hrj,hlj⟩:=ht.at hr' hj
      have hci:i<(rs.map V.ref).length:=by rw [List.length_map,hl];exact hi
      refine ⟨_,rfl,t,_,_,_,rfl,rfl,SqT.of hc,rfl,?_⟩
      refine ⟨_,rfl,t,_,_,_,rfl,rfl,SqT.of hc,rfl,rfl,_,rfl,iteP rfl ?_⟩
      refine ⟨_,rfl,t,_,_,_,rfl,rfl,SqT.of hc,rfl,?_⟩
      refine ⟨_,rfl,_,rfl,a,_,_,_,rfl,rfl,SqL.of h1,atI_nat (rget ei),_,rfl,_,rfl,t,_,_,_,rfl,rfl,SqT.of hc,rfl,a,_,_,_,rfl,rfl,SqL.of h1,atI_nat (rget ej),ri,rj,_,_,rfl,SqL.of hri,SqL.of hrj,?_⟩
      refine comp_it (J:=Itz K ri rj) (n:=n) (fun i' ys H2=>Same H H2∧i'≤n∧ys=((List.zipWith (fun x y=>x+q*y) (Tt.getD i []) (Tt.getD j [])).take i').map V.int) (Nat.le_trans hn (by decide)) ⟨Same.refl H,Nat.zero_le _,by simp⟩ (fun i' ys H2 ⟨_,hle,e⟩=>by rw [e,List.length_map,List.length_take,List.length_zipWith,hli,hlj];omega)
        (fun i' ys H2 hlt ⟨sm,_,_⟩=>⟨_,_,SqL.of (sm _ _ hri),SqL.of (sm _ _ hrj),by rw [List.length_map,hli];exact hlt,by rw [List.length_map,hlj];exact hlt⟩)
        (fun ys H2 ⟨sm,_,_⟩=>⟨_,_,SqL.of (sm _ _ hri),SqL.of (sm _ _ hrj),.inl (by rw [List.length_map,hli];exact Nat.le_refl _)⟩) ?_ ?_
      · rintro i' x ys H2 H3 hlt ⟨sm,_,rfl⟩ ⟨p,u,v,rfl,hp,rfl,hu,hv⟩
        have hu:=hu _ (SqL.of (sm _ _ hri))
        have hv:=hv _ (SqL.of (sm _ _ hrj))
        obtain ⟨u',eu,rfl⟩:=mint hu
        obtain ⟨v',ev,rfl⟩:=mint hv
        refine ⟨p,_,rfl,SqT.of upd_same,rfl,_,_,rfl,_,_,rfl,rfl,rfl,?_⟩
        refine ⟨_,rfl,_,rfl,_,rfl,_,_,rfl,rfl,⟨hsm,by rw [cell_of ev];exact hle j i'⟩,_,_,rfl,rfl,sm.laid hp,hlt,?_⟩
        rw [take_zip eu ev,List.map_append]
        rfl
      · rintro ys H2 ⟨sm,_,rfl⟩ p hp
        have e:(List.zipWith (fun x y=>x+q*y) (Tt.getD i []) (Tt.getD j [])).take n=List.zipWith (fun x y=>x+q*y) (Tt.getD i []) (Tt.getD j []):=List.take_of_length_le (by rw [List.length_zipWith,hli,hlj];omega)
        rw [e]
        have hpa:a≠p:=ne_of_none (sm _ _ h1) hp
        refine ⟨_,rfl,_,rfl,a,_,_,i,rfl,rfl,by rw [upd_ne hpa];exact sm _ _ h1,ixN_nat hci,?_⟩
        obtain ⟨q1,q2,q3⟩:=ht.put (i:=i) (row:=List.zipWith (fun x y=>x+q*y) (Tt.getD i []) (Tt.getD j [])) sm hp
        exact k _ _ q1 q2 q3
    | swap sd i j =>
      obtain ⟨hi,hj,hij⟩:=hok
      have hi:i<m:=hi
      have hj:j<m:=hj
      obtain ⟨ri,ei,ti,hri,hli⟩:=ht.at hr' hi
      obtain ⟨rj,ej,tj,hrj,hlj⟩:=ht.at hr' hj
      refine ⟨_,rfl,t,_,_,_,rfl,rfl,SqT.of hc,rfl,?_⟩
      refine ⟨_,rfl,t,_,_,_,rfl,rfl,SqT.of hc,rfl,rfl,_,rfl,iteN ne_swap_add ?_⟩
      refine ⟨_,rfl,t,_,_,_,rfl,rfl,SqT.of hc,rfl,rfl,_,rfl,iteP rfl ?_⟩
      refine ⟨_,rfl,_,rfl,_,rfl,t,_,_,_,rfl,rfl,SqT.of hc,rfl,a,_,i,j,_,_,rfl,h1,rget ei,rget ej,?_⟩
      have nd:=List.nodup_cons.mp ht.nd
      have eR:((rs.map V.ref).set i (.ref rj)).set j (.ref ri)=((rs.set i rj).set j ri).map V.ref:=by rw [List.map_set,List.map_set]
      have perm:((rs.set i rj).set j ri).Perm rs:=swap_perm ei ej
      have mem:∀b,b∈(rs.set i rj).set j ri↔b∈rs:=fun b=>perm.mem_iff
      refine k ((rs.set i rj).set j ri) _ ⟨⟨?_,?_⟩,?_⟩ (fun b o e hb=>?_) (fun b hb=>.inl ((mem b).mp hb))
      · rw [upd_same,eR]
      · refine (((ht.tab.2.put (i:=i) hrj).put (i:=j) hri)).imp fun r hrr o e=>?_
        have:r≠a:=by rintro rfl;exact nd.1 ((mem r).mp hrr)
        rw [upd_ne this];exact e
      · exact List.nodup_cons.mpr ⟨fun z=>nd.1 ((mem a).mp z),perm.nodup_iff.mpr nd.2⟩
      · rw [upd_ne (fun z=>hb (by rw [z];exact List.mem_cons_self))];exact e
    | turn sd i =>
      have hi:i<m:=hok
      obtain ⟨ri,ei,ti,hri,hli⟩:=ht.at hr' hi
      have hci:i<(rs.map V.ref).length:=by rw [List.length_map,hl];exact hi
      refine ⟨_,rfl,t,_,_,_,rfl,rfl,SqT.of hc,rfl,?_⟩
      refine ⟨_,rfl,t,_,_,_,rfl,rfl,SqT.of hc,rfl,rfl,_,rfl,iteN ne_turn_add ?_⟩
      refine ⟨_,rfl,t,_,_,_,rfl,rfl,SqT.of hc,rfl,rfl,_,rfl,iteN ne_turn_swap ?_⟩
      refine ⟨_,rfl,_,rfl,a,_,_,_,rfl,rfl,SqL.of h1,atI_nat (rget ei),ri,rfl,⟨_,SqL.of hri⟩,?_⟩
      refine comp_list (K:=K) (a:=ri) (xs:=(Tt.getD i []).map V.int) (fun i' ys H2=>H2=H∧i'≤n∧ys=(((Tt.getD i []).map fun x=>-x).take i').map V.int) (by rw [List.length_map,hli];exact Nat.le_trans hn (by decide)) ⟨rfl,Nat.zero_le _,by simp⟩ (fun i' ys H2 ⟨_,hle,e⟩=>by rw [e,List.length_map,List.length_take,List.length_map,hli];omega) (fun i' ys H2 _ ⟨e,_,_⟩=>by rw [e];exact SqL.of hri) ?_ ?_
      · rintro i' x ys H2 hx ⟨rfl,_,rfl⟩
        obtain ⟨u,eu,rfl⟩:=mint hx
        refine ⟨rfl,_,rfl,_,rfl,rfl,?_,?_⟩
        · have:=(List.getElem?_eq_some_iff.mp eu).1;omega
        · rw [take_map (f:=fun x=>-x) eu,List.map_append];rfl
      · rintro ys H2 ⟨rfl,_,rfl⟩ p hp
        have e:(((Tt.getD i []).map fun x=>-x).take ((Tt.getD i []).map V.int).length)=(Tt.getD i []).map fun x=>-x:=List.take_of_length_le (by rw [List.length_map,List.length_map];exact Nat.le_refl _)
        rw [e]
        have hpa:a≠p:=ne_of_none h1 hp
        refine ⟨_,rfl,_,rfl,a,_,_,i,rfl,rfl,by rw [upd_ne hpa];exact h1,ixN_nat hci,?_⟩
        obtain ⟨q1,q2,q3⟩:=ht.put (i:=i) (row:=(Tt.getD i []).map fun x=>-x) (Same.refl _) hp
        exact k _ _ q1 q2 q3
end
end X1
namespace X1
open PySem L2
section
variable {P:Program} {w:World} {K:PySem.W.Frag} {mg:Str→Option Value} {base:Heap}
inductive SpBack (vs:List V) (H:Hp) (Q:VK):Prop
  | mk (t:Addr) (c:Ch) (_:vs=[.ref t]) (_:IsCh H t c) (_:∀(p:Addr) (H':Hp),Same H H'→IsCh H' p c.back→Q (.ref p) H'):SpBack vs H Q
def spBack:Sp:=fun vs H Q _=>SpBack vs H Q
theorem ok_q08 (D:DefAt K mg "change_back" s_q08 ["change"]) (T:Bt mg):Callee P w K mg base 1 "change_back" ["change"] spBack:=by
  refine D.ok (k:=0) sc_q08 (fun vs H Q E h=>?_) (fun f cdv A outer s H vs Q E hr h=>?_)
  · obtain ⟨_,_,rfl,_⟩:=h
    rfl
  · obtain ⟨t,c,rfl,hc,k⟩:=h
    refine ⟨_,(pss_cons (ps_if (pt_cmpR op_eq (pe_ix ix_tup (pv 0) pe_int (fun _ _=>rfl)) pe_str (nomark _)) (pss_one (ps_ret (pe_tup (pa_cons pe_str (pa_cons (pe_ix ix_tup (pv 0) pe_int (fun _ _=>rfl)) (pa_cons (pe_ix ix_tup (pv 0) pe_int (fun _ _=>rfl)) (pa_cons (pe_ix ix_tup (pv 0) pe_int (fun _ _=>rfl)) (pa_cons (pe_un un_neg (pe_ix ix_tup (pv 0) pe_int (fun _ _=>rfl))) pa_nil)))))))) pss_nil)
        (pss_one (ps_ret (pv 0)))),?_⟩
    cases c with
    | add sd i j q =>
      refine ⟨_,rfl,t,_,_,_,rfl,rfl,SqT.of hc,rfl,rfl,_,rfl,iteP rfl ?_⟩
      refine ⟨_,rfl,t,_,_,_,rfl,rfl,SqT.of hc,rfl,_,rfl,t,_,_,_,rfl,rfl,SqT.of hc,rfl,_,rfl,t,_,_,_,rfl,rfl,SqT.of hc,rfl,_,rfl,t,_,_,_,rfl,rfl,SqT.of hc,rfl,_,rfl,by show 5≤sizeLine;decide,fun p hp=>?_⟩
      exact k p _ (same_upd hp) upd_same
    | swap sd i j =>
      refine ⟨_,rfl,t,_,_,_,rfl,rfl,SqT.of hc,rfl,rfl,_,rfl,iteN ne_swap_add ?_⟩
      exact ⟨_,rfl,k t H (Same.refl H) hc⟩
    | turn sd i =>
      refine ⟨_,rfl,t,_,_,_,rfl,rfl,SqT.of hc,rfl,rfl,_,rfl,iteN ne_turn_add ?_⟩
      exact ⟨_,rfl,k t H (Same.refl H) hc⟩
inductive SpBacks (vs:List V) (H:Hp) (Q:VK):Prop
  | mk (l:Addr) (ts:List Addr) (cs:List Ch) (_:vs=[.ref l]) (_:IsChs H l ts cs) (_:cs.length≤sizeLine) (_:∀(p:Addr) (qs:List Addr) (H':Hp),Same H H'→IsChs H' p qs (backs cs)→Q (.ref p) H'):SpBacks vs H Q
def spBacks:Sp:=fun vs H Q _=>SpBacks vs H Q
theorem ok_q09 (D:DefAt K mg "taken_back" s_q09 ["changes"]) (T:Bt mg) (C_q08:Callee P w K mg base 1 "change_back" ["change"] spBack):Callee P w K mg base 2 "taken_back" ["changes"] spBacks:=by
  refine D.ok (k:=1) sc_q09 (fun vs H Q E h=>?_) (fun f cdv A outer s H vs Q E hr h=>?_)
  · obtain ⟨_,_,_,rfl,_⟩:=h
    rfl
  · obtain ⟨l,ts,cs,rfl,hcs,hz,k⟩:=h
    refine ⟨_,(pss_one (ps_ret (pe_comp (N:=["change"]) (cap:=[]) (k:=1) (CompScope.mk' (defScope s_q09) ["changes"] rfl rfl (by decide +kernel)) rfl (pi_rev rfl T.reversed (pa_cons (pv 0) pa_nil)) (fun _ _ _ _=>(pg_name (i:=0) (show (["change"]:List Str).Nodup by decide +kernel) rfl (Or.inl rfl))) (fun _ _ _ _=>(pe_callC C_q08 (hr.mono (by decide)) rfl (pa_cons (pv 0) pa_nil)))))),?_⟩
    have hl:=Paired.length hcs.2
    refine ⟨_,rfl,l,_,rfl,hcs.1,comp_it (J:=Itv K l (ts.map V.ref).length) (n:=cs.length) (fun i ys H2=>∃qs,ys=qs.map V.ref∧Same H H2∧qs.length=i∧i≤cs.length∧Paired (IsCh H2) qs ((backs cs).take i)) hz ⟨[],rfl,Same.refl H,rfl,Nat.zero_le _,by simpa using Paired.nil⟩ (fun i ys H2 ⟨qs,e,_,e2,_⟩=>by rw [e,List.length_map,e2])
      (fun i ys H2 hi ⟨qs,_,s2,_⟩=>⟨by rw [List.length_map,hl];exact hi,_,SqL.of (s2 _ _ hcs.1),rfl⟩) (fun ys H2 _=>by show cs.length=(ts.map V.ref).length;rw [List.length_map,hl]) ?_ ?_⟩
    · rintro i x ys H2 H3 hi ⟨qs,rfl,s2,hq,_,hp⟩ ⟨rfl,hx⟩
      have hx:=hx _ (SqL.of (s2 _ _ hcs.1))
      rw [List.length_map,hl] at hx
      obtain ⟨t,et,rfl⟩:=mref hx
      obtain ⟨c,ec,hc⟩:=pget hcs.2 et
      refine ⟨rfl,_,rfl,t,c,rfl,s2 _ _ hc,fun p H4 s4 hb=>?_⟩
      refine ⟨qs++[p],by rw [List.map_append];rfl,s2.trans s4,by rw [List.length_append,hq];rfl,hi,?_⟩
      have e:(backs cs).take (i+1)=(backs cs).take i++[c.back]:=by
        have eb:(backs cs)[i]?=some c.back:=by
          unfold backs
          rw [List.getElem?_map,List.getElem?_reverse hi,ec]
          rfl
        rw [List.take_succ,eb];rfl
      rw [e]
      exact psnoc (pimp hp fun _ _ z=>s4 _ _ z) hb
    · rintro ys H2 ⟨qs,rfl,s2,hq,_,hp⟩ p hpn
      have e:(backs cs).take cs.length=backs cs:=List.take_of_length_le (by unfold backs;simp)
      rw [e] at hp
      exact k p qs _ (s2.laid hpn) ⟨upd_same,pimp hp fun _ _ z=>same_upd hpn _ _ z⟩
end
end X1
namespace X1
open PySem L2
theorem iteB {b:Bool} {A B:Prop} (hb:b=true) (h:A):if b=true then A else B:=by rw [hb];exact iteT h
theorem iteB0 {b:Bool} {A B:Prop} (hb:b=false) (h:B):if b=true then A else B:=by rw [hb];exact iteF h
theorem cut_all {xs:List V} (h:xs.length≤500):cutV xs none (some 500)=xs:=by
  have e:HT.sIx xs.length xs.length (some 500)=xs.length:=by
    have:=HT.sIx_nat xs.length xs.length 500
    rw [show ((500:Nat):Int)=(500:Int) from rfl] at this
    rw [this];omega
  unfold cutV
  rw [e,HT.sIx_none]
  simp
theorem sizeN (k:Nat) (hk:0<k) (x:Int):∃h:Nat,1+x % (k:Int)=((h+1:Nat):Int)∧h+1≤k:=by
  have h1:0≤x % (k:Int):=Int.emod_nonneg _ (by omega)
  have h2:x % (k:Int)<k:=Int.emod_lt_of_pos _ (by omega)
  obtain ⟨h,e⟩:=Int.eq_ofNat_of_zero_le h1
  exact ⟨h,by omega,by omega⟩
def Big (c:Nat) (T:Tb):Prop:=∀r∈T,∀x∈r,x.natAbs≤c
theorem Big.ent {c:Nat} {T:Tb} (h:Big c T) (x y:Nat):(ent T x y).natAbs≤c:=by
  unfold X1.ent
  rw [List.getD_eq_getElem?_getD,List.getD_eq_getElem?_getD]
  cases e:T[x]? with
  | none=>simp
  | some r =>
    simp only [Option.getD_some]
    cases e2:r[y]? with
    | none=>simp
    | some v=>exact h r (List.mem_of_getElem? e) v (List.mem_of_getElem? e2)
theorem Big.mono {c d:Nat} {T:Tb} (h:Big c T) (hd:c≤d):Big d T:=fun r hr x hx=>Nat.le_trans (h r hr x hx) hd
theorem Big.set {c:Nat} {T:Tb} {row:List Int} (h:Big c T) (hr:∀x∈row,x.natAbs≤c) (i:Nat):Big c (T.set i row):=fun r hm=>by
  rcases List.mem_or_eq_of_mem_set hm with z | z
  · exact h r z
  · rw [z];exact hr
theorem getD_mem {T:Tb} {i:Nat} (h:i<T.length):T.getD i []∈T:=by
  have:T[i]?=some (T.getD i []):=by simp [h]
  exact List.mem_of_getElem? this
section
variable {P:Program} {w:World} {K:PySem.W.Frag} {mg:Str→Option Value} {base:Heap}
inductive SpAt (K:PySem.W.Frag) (vs:List V) (H:Hp) (Q:VK):Prop
  | mk (a:Addr) (ns:List Int) (k:Nat) (_:vs=[.ref a,.int k]) (_:SqL K H a (ns.map V.int)) (_:Q (.int (ns.getD k 0)) H):SpAt K vs H Q
def spAt (K:PySem.W.Frag):Sp:=fun vs H Q _=>SpAt K vs H Q
theorem ok_q0y (D:DefAt K mg "_law_at" s_q0y ["_law_script","_law_k"]) (T:Bt mg):Callee P w K mg base 1 "_law_at" ["_law_script","_law_k"] (spAt K):=by
  refine D.ok (k:=0) sc_q0y (fun vs H Q E h=>?_) (fun f cdv A outer s H vs Q E hr h=>?_)
  · obtain ⟨_,_,_,rfl,_⟩:=h
    rfl
  · obtain ⟨a,ns,i,rfl,ha,k⟩:=h
    refine ⟨_,(pss_cons (ps_if (pt_cmpR op_lt (pv 1) (pe_callB call_len_seq rfl T.len bt_len (pa_cons (pv 0) pa_nil)) (nomark _)) (pss_one (ps_ret (pe_ix ix_list (pv 0) (pv 1) (fun _ _=>rfl)))) pss_nil)
        (pss_one (ps_ret pe_int))),?_⟩
    refine ⟨_,rfl,_,rfl,a,_,rfl,.inl ha,_,_,rfl,rfl,_,rfl,?_⟩
    rw [List.length_map]
    by_cases hi:i<ns.length
    · refine iteP (by omega) ⟨_,rfl,_,rfl,a,_,_,_,rfl,rfl,ha,atI_nat (iget (getD_some rfl hi)),k⟩
    · refine iteN (by omega) ?_
      have:ns.getD i 0=0:=by simp [Nat.not_lt.mp hi]
      rw [this] at k
      exact k
theorem ok_q0z (D:DefAt K mg "_law_copy" s_q0z ["_law_table"]) (T:Bt mg):Callee P w K mg base 1 "_law_copy" ["_law_table"] spCopy:=by
  refine D.ok (k:=0) sc_q0z (fun vs H Q E h=>?_) (fun f cdv A outer s H vs Q E hr h=>?_)
  · obtain ⟨_,_,_,rfl,_⟩:=h
    rfl
  · obtain ⟨a,rs,Tt,rfl,ht,hz,k⟩:=h
    refine ⟨_,(pss_one (ps_ret (pe_comp (N:=["_law_row"]) (cap:=[]) (k:=1) (CompScope.mk' (defScope s_q0z) ["_law_table"] rfl rfl (by decide +kernel)) rfl (pi_list (pv 0)) (fun _ _ _ _=>(pg_name (i:=0) (show (["_law_row"]:List Str).Nodup by decide +kernel) rfl (Or.inl rfl))) (fun _ _ _ _=>(pe_callTy (call_list_ofK (K:=K) rfl) rfl T.list bt_list (pa_cons (pv 0) pa_nil)))))),?_⟩
    have h1:=ht.tab.1
    have hlen:=ht.tab.2.length
    refine ⟨_,rfl,a,rfl,⟨_,SqL.of h1⟩,comp_list (K:=K) (a:=a) (xs:=rs.map V.ref) (fun i ys H2=>∃qs,ys=qs.map V.ref∧qs.length=i∧i≤Tt.length∧CopyAt H H2 qs (Tt.take i)) (by rw [List.length_map,hlen];exact Nat.le_trans hz (by decide)) ⟨[],rfl,rfl,Nat.zero_le _,by simpa using CopyAt.start H⟩ (fun i ys H2 ⟨qs,e,e2,_⟩=>by rw [e,List.length_map,e2]) (fun i ys H2 _ ⟨qs,_,_,_,c⟩=>SqL.of (c.same _ _ h1)) ?_ ?_⟩
    · rintro i x ys H2 hx ⟨qs,rfl,hq,hi,c⟩
      obtain ⟨r,er,rfl⟩:=mref hx
      obtain ⟨row,erow,hrow⟩:=pget ht.tab.2 er
      refine ⟨rfl,_,rfl,r,_,rfl,.inl (SqL.of (c.same _ _ hrow)),fun l hl=>?_⟩
      have hlt:i<Tt.length:=(List.getElem?_eq_some_iff.mp erow).1
      refine ⟨qs++[l],by rw [List.map_append];rfl,by rw [List.length_append,hq];rfl,hlt,?_⟩
      have e:Tt.take (i+1)=Tt.take i++[row]:=by rw [List.take_succ,erow];rfl
      rw [e]
      exact c.more hl
    · rintro ys H2 ⟨qs,rfl,hq,hi,c⟩ p hp
      rw [List.length_map,hlen,List.take_length] at c
      obtain ⟨q1,q2,q3⟩:=c.done hp
      exact k p qs _ q1 q2 q3
end
end X1
namespace X1
open PySem L2
theorem pred_sub {m i:Nat} (h:i<m):∃k,m - i=k+1:=⟨m - i - 1,by omega⟩
theorem sub_succ' {a i k:Nat} (h:a - i=k+1):a - (i+1)=k:=by omega
theorem in2 {b p l:Addr} {F:List Addr} (h:b∈F):b∈p::l::F:=List.mem_cons_of_mem _ (List.mem_cons_of_mem _ h)
theorem n_rs:¬ (("rows" : Str) = "side"):=by decide +kernel
theorem n_rc:¬ (("rows" : Str) = "changes"):=by decide +kernel
theorem n_sc:¬ (("side" : Str) = "changes"):=by decide +kernel
def flds (a:Addr) (s:Bool) (l:Addr):List (Str×V):=[("rows",.ref a),("side",.str (sd s)),("changes",.ref l)]
theorem pf2 (a:Addr) (x:V):putF "side" x (putF "rows" (.ref a) [])=([("rows",V.ref a),("side",x)]:List (Str×V)):=by
  simp only [putF,n_rs,if_false]
theorem pf3 (a l:Addr) (x:V):putF "changes" (.ref l) ([("rows",V.ref a),("side",x)]:List (Str×V))=([("rows",V.ref a),("side",x),("changes",.ref l)]:List (Str×V)):=by
  simp only [putF,n_rc,n_sc,if_false]
theorem flds_putR (a b:Addr) (s:Bool) (l:Addr):putF "rows" (.ref b) (flds a s l)=flds b s l:=by
  simp only [flds,putF,if_true]
theorem flds_putS (a:Addr) (s t:Bool) (l:Addr):putF "side" (.str (sd t)) (flds a s l)=flds a t l:=by
  simp only [flds,putF,n_rs,if_false,if_true]
theorem flds_eq (a:Addr) (s:Bool) (l:Addr):flds a s l=putF "changes" (.ref l) (putF "side" (.str (sd s)) (putF "rows" (.ref a) [])):=by rw [pf2,pf3];rfl
theorem flds_rows (a:Addr) (s:Bool) (l:Addr):(flds a s l).lookup ("rows" : Str)=some (.ref a):=by
  rw [flds_eq,lookup_putF,if_neg n_rc,lookup_putF,if_neg n_rs,lookup_putF,if_pos rfl]
theorem flds_side (a:Addr) (s:Bool) (l:Addr):(flds a s l).lookup ("side" : Str)=some (.str (sd s)):=by
  rw [flds_eq,lookup_putF,if_neg n_sc,lookup_putF,if_pos rfl]
theorem flds_changes (a:Addr) (s:Bool) (l:Addr):(flds a s l).lookup ("changes" : Str)=some (.ref l):=by
  rw [flds_eq,lookup_putF,if_pos rfl]
theorem flds_no (a:Addr) (s:Bool) (l:Addr) {m:Str} (h1:¬ m = "rows") (h2:¬ m = "side") (h3:¬ m = "changes"):(flds a s l).lookup m=none:=by
  rw [flds_eq,lookup_putF,if_neg h3,lookup_putF,if_neg h2,lookup_putF,if_neg h1];rfl
theorem no_q1g (a:Addr) (s:Bool) (l:Addr):(flds a s l).lookup ("make" : Str)=none:=flds_no a s l (by decide +kernel) (by decide +kernel) (by decide +kernel)
theorem no_q1h (a:Addr) (s:Bool) (l:Addr):(flds a s l).lookup ("add_times" : Str)=none:=flds_no a s l (by decide +kernel) (by decide +kernel) (by decide +kernel)
theorem no_q1i (a:Addr) (s:Bool) (l:Addr):(flds a s l).lookup ("swap_rows" : Str)=none:=flds_no a s l (by decide +kernel) (by decide +kernel) (by decide +kernel)
theorem no_q1j (a:Addr) (s:Bool) (l:Addr):(flds a s l).lookup ("turn_row" : Str)=none:=flds_no a s l (by decide +kernel) (by decide +kernel) (by decide +kernel)
theorem no_q1k (a:Addr) (s:Bool) (l:Addr):(flds a s l).lookup ("lessen" : Str)=none:=flds_no a s l (by decide +kernel) (by decide +kernel) (by decide +kernel)
theorem no_q1l (a:Addr) (s:Bool) (l:Addr):(flds a s l).lookup ("meet" : Str)=none:=flds_no a s l (by decide +kernel) (by decide +kernel) (by decide +kernel)
theorem no_q1m (a:Addr) (s:Bool) (l:Addr):(flds a s l).lookup ("tip_over" : Str)=none:=flds_no a s l (by decide +kernel) (by decide +kernel) (by decide +kernel)
def tc (s:Bool) (c:E1.RC):Ch:=toCh (s,c)
inductive WalkEx (C:Addr) (H0 H:Hp) (p:Addr) (e:E1.Tab) (m n:Nat) (s:Bool) (cs:List Ch):Prop
  | mk (dx a l:Addr) (rs ts:List Addr) (T:Tb) (_:H p=some (.ins C dx (flds a s l))) (_:TabAt H a rs T) (_:Rect m n T) (_:ent T=e) (_:IsChs H l ts cs) (_:l∉a::rs) (_:∀b∈p::l::a::rs,H0 b=none):WalkEx C H0 H p e m n s cs
structure WalkAt (C:Addr) (H0 H:Hp) (p:Addr) (e:E1.Tab) (m n:Nat) (s:Bool) (cs:List Ch):Prop where
  same:Same H0 H
  ex:WalkEx C H0 H p e m n s cs
  m0:0<m
  n0:0<n
  m1:m≤1000
  n1:n≤1000
section
variable {C:Addr} {H0 H H':Hp} {p:Addr} {e:E1.Tab} {m n:Nat} {s:Bool} {cs:List Ch}
theorem WalkAt.on (W:WalkAt C H0 H p e m n s cs) (sm:Same H H'):WalkAt C H0 H' p e m n s cs:=by
  obtain ⟨dx,a,l,rs,ts,T,hp,ht,hr,he,hc,hl,hn⟩:=W.ex
  exact ⟨W.same.trans sm,⟨dx,a,l,rs,ts,T,sm _ _ hp,ht.same sm,hr,he,hc.same sm,hl,hn⟩,W.m0,W.n0,W.m1,W.n1⟩
theorem WalkAt.sub {H1:Hp} (W:WalkAt C H1 H p e m n s cs) (sm:Same H0 H1):WalkAt C H0 H p e m n s cs:=by
  obtain ⟨dx,a,l,rs,ts,T,hp,ht,hr,he,hc,hl,hn⟩:=W.ex
  exact ⟨sm.trans W.same,⟨dx,a,l,rs,ts,T,hp,ht,hr,he,hc,hl,fun b hb=>sm.free (hn b hb)⟩,W.m0,W.n0,W.m1,W.n1⟩
theorem WalkAt.laid {q:Addr} {o:HO} (W:WalkAt C H0 H p e m n s cs) (hq:H q=none):WalkAt C (upd H0 q o) (upd H q o) p e m n s cs:=by
  have W2:=W.on (same_upd (o:=o) hq)
  obtain ⟨dx,a,l,rs,ts,T,hp,ht,hr,he,hc,hl,hn⟩:=W2.ex
  obtain ⟨dx',a',l',rs',ts',T',hp',ht',_,_,hc',_,_⟩:=W.ex
  refine ⟨fun b u eb=>?_,⟨dx,a,l,rs,ts,T,hp,ht,hr,he,hc,hl,fun b hb=>?_⟩,W.m0,W.n0,W.m1,W.n1⟩
  · by_cases z:b=q
    · subst z;rw [upd_same] at eb ⊢;exact eb
    · rw [upd_ne z] at eb ⊢;exact W.same b u eb
  · have hb0:=hn b hb
    have hbq:b≠q:=by
      rintro rfl
      have hp2:(upd H b o) p=some (.ins C dx' (flds a' s l')):=same_upd hq _ _ hp'
      rw [hp] at hp2
      have e1:flds a s l=flds a' s l':=by injection hp2 with z;injection z
      have ea:a=a':=by
        have:=congrArg (fun f=>List.lookup ("rows" : Str) f) e1
        simp only [flds_rows] at this
        injection this with z;injection z
      have el:l=l':=by
        have:=congrArg (fun f=>List.lookup ("changes" : Str) f) e1
        simp only [flds_changes] at this
        injection this with z;injection z
      subst ea el
      have hrs:rs=rs':=by
        have h1:=same_upd (o:=o) hq _ _ ht'.tab.1
        rw [ht.tab.1] at h1
        injection h1 with z;injection z with z
        exact map_ref_inj z
      subst hrs
      rcases List.mem_cons.mp hb with z | hb
      · rw [z] at hq;rw [hp'] at hq;cases hq
      rcases List.mem_cons.mp hb with z | hb
      · rw [z] at hq;rw [hc'.1] at hq;cases hq
      obtain ⟨u,hu⟩:=ht'.tracked b hb
      rw [hu] at hq;cases hq
    rw [upd_ne hbq];exact hb0
where
  map_ref_inj:∀{xs ys:List Addr},xs.map V.ref=ys.map V.ref→xs=ys
    | [],[],_=>rfl
    | [],_::_,h=>by simp at h
    | _::_,[],h=>by simp at h
    | x::xs,y::ys,h=>by
      simp only [List.map_cons,List.cons.injEq,V.ref.injEq] at h
      rw [h.1,map_ref_inj h.2]
theorem WalkAt.put {q:Addr} {o u:HO} (W:WalkAt C H0 H p e m n s cs) (hq:H0 q=some u) (hm:∀xs,u≠.tup xs):WalkAt C (upd H0 q o) (upd H q o) p e m n s cs:=by
  obtain ⟨dx,a,l,rs,ts,T,hp,ht,hr,he,hc,hl,hn⟩:=W.ex
  have ne:∀b∈p::l::a::rs,b≠q:=fun b hb z=>by rw [z] at hb;rw [hn q hb] at hq;cases hq
  have st:Stay H (upd H q o) [q]:=fun b v eb hb=>by rw [upd_ne (by simpa using hb)];exact eb
  refine ⟨fun b v eb=>?_,⟨dx,a,l,rs,ts,T,?_,?_,hr,he,⟨?_,?_⟩,hl,fun b hb=>?_⟩,W.m0,W.n0,W.m1,W.n1⟩
  · by_cases z:b=q
    · subst z;rw [upd_same] at eb ⊢;exact eb
    · rw [upd_ne z] at eb ⊢;exact W.same b v eb
  · rw [upd_ne (ne p (by simp))];exact hp
  · exact ht.stay st fun b hb=>by simpa using ne b (in2 hb)
  · rw [upd_ne (ne l (by simp))];exact hc.1
  · refine pimp hc.2 fun t c z=>?_
    show upd H q o t=_
    have:t≠q:=by
      rintro rfl
      have h2:=W.same _ _ hq
      rw [IsCh,h2] at z
      exact hm _ (Option.some.inj z)
    rw [upd_ne this];exact z
  · rw [upd_ne (ne b hb)];exact hn b hb
end
structure WTxt (K:PySem.W.Frag) (C:Addr):Prop where
  cl:Cls K C
  nR:NoAttr K C "rows"
  nS:NoAttr K C "side"
  nC:NoAttr K C "changes"
section
variable {P:Program} {w:World} {K:PySem.W.Frag} {mg:Str→Option Value} {base:Heap} {C:Addr}
theorem WalkAt.cell {H0 H:Hp} {p:Addr} {e:E1.Tab} {m n:Nat} {s:Bool} {cs:List Ch} {σ:St} {iw i j x y:Nat} {Q:VK} (W:WalkAt C H0 H p e m n s cs) (X:WTxt K C) (hw:σ[iw]?=some (some (.ref p))) (hi:σ[i]?=some (some (.int (x:Nat)))) (hj:σ[j]?=some (some (.int (y:Nat))))
    (hx:x<m) (hy:y<n) (k:Q (.int (e x y)) H):tOp (rIxL K) (tOp (rIxL K) (tFld K (tVar iw) "rows") (tVar i)) (tVar j) σ H Q:=by
  obtain ⟨dx,a,l,rs,ts,T,hp,ht,hr,rfl,hc,hl,hn⟩:=W.ex
  obtain ⟨r,er,_,hrow,hlr⟩:=ht.at hr hx
  exact ⟨_,hw,p,C,dx,_,_,rfl,hp,X.cl,X.nR,flds_rows _ _ _,_,hi,a,_,_,_,rfl,rfl,SqL.of ht.tab.1,atI_nat (rget er),_,hj,r,_,_,_,rfl,rfl,SqL.of hrow,atI_nat (iget (getD_some hlr hy)),k⟩
theorem WalkAt.rowAt {H0 H:Hp} {p:Addr} {e:E1.Tab} {m n:Nat} {s:Bool} {cs:List Ch} {σ:St} {iw i x:Nat} {Q:VK} (W:WalkAt C H0 H p e m n s cs) (X:WTxt K C) (hw:σ[iw]?=some (some (.ref p))) (hi:σ[i]?=some (some (.int (x:Nat))))
    (hx:x<m) (k:∀(r:Addr) (row:List Int),IsRow H r row→row.length=n→(fun y=>row.getD y 0)=e x→Q (.ref r) H):tOp (rIxL K) (tFld K (tVar iw) "rows") (tVar i) σ H Q:=by
  obtain ⟨dx,a,l,rs,ts,T,hp,ht,hr,rfl,hc,hl,hn⟩:=W.ex
  obtain ⟨r,er,_,hrow,hlr⟩:=ht.at hr hx
  exact ⟨_,hw,p,C,dx,_,_,rfl,hp,X.cl,X.nR,flds_rows _ _ _,_,hi,a,_,_,_,rfl,rfl,SqL.of ht.tab.1,atI_nat (rget er),k r _ hrow hlr rfl⟩
theorem WalkAt.rows {H0 H:Hp} {p:Addr} {e:E1.Tab} {m n:Nat} {s:Bool} {cs:List Ch} {σ:St} {iw:Nat} {Q:VK} (W:WalkAt C H0 H p e m n s cs) (X:WTxt K C) (hw:σ[iw]?=some (some (.ref p)))
    (k:∀(a:Addr) (rs:List Addr) (T:Tb),TabAt H a rs T→Rect m n T→ent T=e→(∀b∈a::rs,H0 b=none)→Q (.ref a) H):tFld K (tVar iw) "rows" σ H Q:=by
  obtain ⟨dx,a,l,rs,ts,T,hp,ht,hr,he,hc,hl,hn⟩:=W.ex
  exact ⟨_,hw,p,C,dx,_,_,rfl,hp,X.cl,X.nR,flds_rows _ _ _,k a rs T ht hr he fun b hb=>hn b (in2 hb)⟩
theorem WalkAt.ob {H0 H:Hp} {p:Addr} {e:E1.Tab} {m n:Nat} {s:Bool} {cs:List Ch} (W:WalkAt C H0 H p e m n s cs):∃(dx a l:Addr),H p=some (.ins C dx (flds a s l)):=by
  obtain ⟨dx,a,l,rs,ts,T,hp,_,_,_,_,_,_⟩:=W.ex
  exact ⟨dx,a,l,hp⟩
inductive SpCol (vs:List V) (H:Hp) (Q:VK):Prop
  | mk (a:Addr) (rs:List Addr) (T:Tb) (m n y:Nat) (_:vs=[.ref a,.int y]) (_:TabAt H a rs T) (_:Rect m n T) (_:y<n) (_:m≤1000) (_:∀q,H q=none→Q (.ref q) (upd H q (.lst ((T.map fun r=>r.getD y 0).map V.int)))):SpCol vs H Q
def spCol:Sp:=fun vs H Q _=>SpCol vs H Q
theorem take_mapR {f:List Int→Int} {xs:Tb} {i:Nat} {x:List Int} (hx:xs[i]?=some x):(xs.map f).take (i+1)=(xs.map f).take i++[f x]:=by
  rw [List.take_succ,List.getElem?_map,hx];rfl
theorem ok_q0f (D:DefAt K mg "column_of" s_q0f ["rows","place"]) (T:Bt mg):Callee P w K mg base 1 "column_of" ["rows","place"] spCol:=by
  refine D.ok (k:=0) sc_q0f (fun vs H Q E h=>?_) (fun f cdv A outer s H vs Q E hr h=>?_)
  · obtain ⟨_,_,_,_,_,_,rfl,_⟩:=h
    rfl
  · obtain ⟨a,rs,Tt,m,n,y,rfl,ht,hr',hy,hm,k⟩:=h
    refine ⟨_,(pss_one (ps_ret (pe_comp (N:=["place","row"]) (cap:=[1]) (k:=1) (CompScope.mk' (defScope s_q0f) ["rows","place"] rfl rfl (by decide +kernel)) rfl (pi_list (pv 0)) (fun _ _ _ _=>(pg_name (i:=1) (show (["place","row"]:List Str).Nodup by decide +kernel) rfl (Or.inl rfl))) (fun _ _ _ _=>(pe_ix (ix_listK (K:=K) rfl) (pv 1) (pv 0) (fun _ _=>rfl)))))),?_⟩
    have h1:=ht.tab.1
    have hl:=ht.len hr'
    refine ⟨_,rfl,a,rfl,⟨_,SqL.of h1⟩,comp_list (K:=K) (a:=a) (xs:=rs.map V.ref) (fun i ys H2=>H2=H∧i≤m∧ys=((Tt.map fun r=>r.getD y 0).take i).map V.int) (by rw [List.length_map,hl];exact Nat.le_trans hm (by decide)) ⟨rfl,Nat.zero_le _,by simp⟩ (fun i ys H2 ⟨_,hle,e⟩=>by rw [e,List.length_map,List.length_take,List.length_map,hr'.1];omega) (fun i ys H2 _ ⟨e,_,_⟩=>by rw [e];exact SqL.of h1) ?_ ?_⟩
    · rintro i x ys H2 hx ⟨rfl,_,rfl⟩
      obtain ⟨r,er,rfl⟩:=mref hx
      have him:i<m:=by rw [←hl];exact (List.getElem?_eq_some_iff.mp er).1
      obtain ⟨r',er',erow,hrow,hlr⟩:=ht.at hr' him
      rw [er] at er';cases er'
      refine ⟨rfl,_,rfl,_,rfl,r,_,_,_,rfl,rfl,SqL.of hrow,atI_nat (iget (getD_some hlr hy)),rfl,him,?_⟩
      rw [take_mapR (f:=fun r=>r.getD y 0) erow,List.map_append];rfl
    · rintro ys H2 ⟨rfl,_,rfl⟩ q hq
      have e:((Tt.map fun r=>r.getD y 0).take (rs.map V.ref).length)=Tt.map fun r=>r.getD y 0:=List.take_of_length_le (by rw [List.length_map,List.length_map,hl,hr'.1];exact Nat.le_refl _)
      rw [e]
      exact k q hq
inductive SpInit (C:Addr) (vs:List V) (H:Hp) (Q:VK):Prop
  | mk (H0:Hp) (x dx a:Addr) (rs:List Addr) (T:Tb) (m n:Nat) (_:vs=[.ref x,.ref a]) (_:H x=some (.ins C dx [])) (_:Same H0 H) (_:H0 x=none) (_:TabAt H a rs T) (_:Rect m n T) (_:0<m) (_:0<n) (_:m≤1000) (_:n≤1000) (_:∀H',WalkAt C H0 H' x (ent T) m n true []→Q .non H'):SpInit C vs H Q
def spInit (C:Addr):Sp:=fun vs H Q _=>SpInit C vs H Q
theorem ok_q1n (D:MkAt K mg C "Walk" "Walk.__init__" s_q18 ["self","table"]) (T:Bt mg) (X:WTxt K C) (C_q01:Callee P w K mg base 1 "copied" ["table"] spCopy):Maker P w K mg base C 2 "Walk" ["self","table"] (spInit C):=by
  refine D.ok (k:=1) sc_q18 (fun vs H Q E h=>?_) (fun f cdv A outer s H vs Q E hr h=>?_)
  · obtain ⟨_,_,_,_,_,_,_,_,rfl,_⟩:=h
    rfl
  · obtain ⟨H0,x,dx,a,rs,Tt,m,n,rfl,hx,sm0,hx0,ht,hr',m0,n0,m1,n1,k⟩:=h
    refine ⟨_,(pss_cons (ps_fld (pv 0) (pe_callC C_q01 (hr.mono (by decide)) rfl (pa_cons (pv 1) pa_nil)) rfl)
        (pss_cons (ps_fld (pv 0) pe_str rfl)
        (pss_one (ps_fld (pv 0) (pe_lst pa_nil) rfl)))),?_⟩
    refine ⟨_,rfl,a,rs,Tt,rfl,ht,by rw [hr'.1];exact m1,fun a2 qs H1 s1 ht1 new1=>?_⟩
    refine ⟨_,rfl,x,C,dx,_,rfl,s1 _ _ hx,X.cl,X.nR,by show 0<1000;decide,?_⟩
    refine ⟨_,rfl,x,C,dx,_,rfl,upd_same,X.cl,X.nS,by show 1<1000;decide,?_⟩
    rw [pf2,upd_upd]
    refine ⟨Nat.zero_le _,fun l hl=>?_⟩
    have hxl:x≠l:=by
      rintro rfl;rw [upd_same] at hl;cases hl
    have hl1:H1 l=none:=by rw [upd_ne hxl.symm] at hl;exact hl
    refine ⟨_,rfl,x,C,dx,_,rfl,by rw [upd_ne hxl,upd_same],X.cl,X.nC,by show 2<1000;decide,?_⟩
    have hx1:=s1 _ _ hx
    have hax:∀b∈a2::qs,b≠x:=fun b hb z=>by
      have:=new1 b hb
      rw [z,hx] at this;cases this
    have hal:∀b∈a2::qs,b≠l:=fun b hb z=>by
      obtain ⟨o,ho⟩:=ht1.tracked b hb
      rw [z,hl1] at ho;cases ho
    refine k _ ⟨fun b o eb=>?_,⟨dx,a2,l,qs,[],Tt,?_,?_,hr',rfl,⟨?_,.nil⟩,fun z=>(hal l z) rfl,fun b hb=>?_⟩,m0,n0,m1,n1⟩
    · have hbx:b≠x:=fun z=>by rw [z,hx0] at eb;cases eb
      have hb1:=s1 _ _ (sm0 _ _ eb)
      rw [upd_ne hbx,upd_ne (ne_of_none hb1 hl1),upd_ne hbx]
      exact hb1
    · rw [upd_same,pf3];rfl
    · refine ht1.stay (F:=[x,l]) (fun b o eb hb=>?_) fun b hb=>?_
      · have hb:b≠x∧b≠l:=by simpa using hb
        rw [upd_ne hb.1,upd_ne hb.2,upd_ne hb.1];exact eb
      · simp [hax b hb,hal b hb]
    · rw [upd_ne hxl.symm,upd_same];rfl
    · rcases List.mem_cons.mp hb with z | hb
      · rw [z];exact hx0
      rcases List.mem_cons.mp hb with z | hb
      · rw [z];exact sm0.free (s1.free hl1)
      · exact sm0.free (new1 b hb)
theorem tipB_take {T:Tb} {n i:Nat} (hi:i<n):(tipB n T).take (i+1)=(tipB n T).take i++[T.map fun r=>r.getD i 0]:=by
  have e:(tipB n T)[i]?=some (T.map fun r=>r.getD i 0):=by
    unfold tipB
    rw [List.getElem?_map,List.getElem?_range hi];rfl
  rw [List.take_succ,e];rfl
inductive SpTip (C:Addr) (vs:List V) (H:Hp) (Q:VK):Prop
  | mk (H0:Hp) (p:Addr) (e:E1.Tab) (m n:Nat) (s:Bool) (cs:List Ch) (_:vs=[.ref p]) (_:WalkAt C H0 H p e m n s cs) (_:∀H',WalkAt C H0 H' p (E1.tipT e) n m (!s) cs→Q .non H'):SpTip C vs H Q
def spTip (C:Addr):Sp:=fun vs H Q _=>SpTip C vs H Q
theorem ok_q19 (D:MDefAt K C "tip_over" "Walk.tip_over" s_q19 ["self"]) (T:Bt mg) (X:WTxt K C) (C_q0f:Callee P w K mg base 1 "column_of" ["rows","place"] spCol):MCallee P w K mg base C 2 "tip_over" ["self"] (spTip C):=by
  refine D.ok (k:=1) X.cl sc_q19 (fun vs H Q E h=>?_) (fun f cdv A outer s H vs Q E hr h=>?_)
  · obtain ⟨_,_,_,_,_,_,_,rfl,_⟩:=h
    rfl
  · obtain ⟨H0,p,e,m,n,s,cs,rfl,W,k⟩:=h
    refine ⟨_,(pss_cons (ps_fld (pv 0) (pe_comp (N:=["self","place"]) (cap:=[0]) (k:=1) (CompScope.mk' (defScope s_q19) ["self"] rfl rfl (by decide +kernel)) rfl (pi_range1 rfl T.range (pa_cons (pe_callB call_len_seq rfl T.len bt_len (pa_cons (pe_ix ix_list (pe_fld (pv 0) rfl) pe_int (fun _ _=>rfl)) pa_nil)) pa_nil)) (fun _ _ _ _=>(pg_name (i:=1) (show (["self","place"]:List Str).Nodup by decide +kernel) rfl (Or.inl rfl))) (fun _ _ _ _=>(pe_callC C_q0f (hr.mono (by decide)) rfl (pa_cons (pe_fldK (K:=K) rfl (pv 0) rfl) (pa_cons (pv 1) pa_nil))))) rfl)
        (pss_one (ps_fld (pv 0) (pe_ifExp (pt_cmpR op_eq (pe_fld (pv 0) rfl) pe_str (nomark _)) pe_str pe_str) rfl))),?_⟩
    obtain ⟨dx,a,l,rs,ts,Tt,hp,ht,hr',he,hc,hla,hn⟩:=W.ex
    have h1:=ht.tab.1
    have hl:=ht.len hr'
    obtain ⟨r0,e0,_,hr0,hl0⟩:=ht.at hr' W.m0
    refine ⟨_,rfl,p,C,dx,_,_,rfl,hp,X.cl,X.nR,flds_rows _ _ _,a,_,_,_,rfl,rfl,SqL.of h1,atI_nat (j:=0) (rget e0),r0,_,rfl,.inl (SqL.of hr0),_,rfl,by omega,by rw [List.length_map,hl0];have:=W.n1;omega,?_⟩
    rw [List.length_map,hl0]
    refine comp_it (J:=Itr 0 _) (n:=n) (fun i ys H2=>∃qs,ys=qs.map V.ref∧qs.length=i∧i≤n∧CopyAt H H2 qs ((tipB n Tt).take i)) (Nat.le_trans W.n1 (by decide)) ⟨[],rfl,rfl,Nat.zero_le _,by simpa using CopyAt.start H⟩ (fun i ys H2 ⟨qs,e,e2,_⟩=>by rw [e,List.length_map,e2])
      (fun i ys H2 hi _=>by show i<Int.toNat _;simpa using hi) (fun ys H2 _=>by show Int.toNat _≤n;simp) ?_ ?_
    · rintro i x ys H2 H3 hi ⟨qs,rfl,hq,_,c⟩ ⟨rfl,hx0⟩
      obtain rfl:=z0 hx0
      refine ⟨rfl,_,rfl,p,C,dx,_,_,rfl,c.same _ _ hp,X.cl,X.nR,flds_rows _ _ _,_,rfl,a,rs,Tt,m,n,i,rfl,ht.same c.same,hr',hi,W.m1,fun q hqn=>?_⟩
      refine ⟨qs++[q],by rw [List.map_append];rfl,by rw [List.length_append,hq];rfl,hi,?_⟩
      rw [tipB_take hi]
      exact c.more hqn
    · rintro ys H2 ⟨qs,rfl,hq,_,c⟩ p2 hp2
      have et:(tipB n Tt).take n=tipB n Tt:=List.take_of_length_le (by simp [tipB])
      rw [et] at c
      obtain ⟨q1,q2,q3⟩:=c.done hp2
      generalize hH3:upd H2 p2 (.lst (qs.map V.ref))=H3 at q1 q2 ⊢
      have hp3:=q1 _ _ hp
      refine ⟨_,rfl,p,C,dx,_,rfl,hp3,X.cl,X.nR,by show 3<1000;decide,?_⟩
      rw [flds_putR]
      refine ⟨_,rfl,p,C,dx,_,_,rfl,upd_same,X.cl,X.nS,flds_side _ _ _,rfl,_,rfl,?_⟩
      have fin:WalkAt C H0 (upd H3 p (.ins C dx (flds p2 (!s) l))) p (E1.tipT e) n m (!s) cs:=by
        refine ⟨fun b o eb=>?_,⟨dx,p2,l,qs,ts,tipB n Tt,upd_same,?_,tipB_rect hr',by rw [ent_tipB hr',he],⟨?_,?_⟩,fun z=>?_,fun b hb=>?_⟩,W.n0,W.m0,W.n1,W.m1⟩
        · have hbp:b≠p:=fun z=>by rw [z,hn p (by simp)] at eb;cases eb
          rw [upd_ne hbp];exact q1 _ _ (W.same _ _ eb)
        · refine q2.stay (F:=[p]) (fun b o eb hb=>by rw [upd_ne (by simpa using hb)];exact eb) fun b hb=>?_
          have:=q3 b hb
          simp only [List.mem_singleton]
          rintro rfl;rw [hp] at this;cases this
        · rw [upd_ne (ne_of hc.1 hp (by intro z;cases z))];exact q1 _ _ hc.1
        · refine pimp hc.2 fun t c z=>?_
          show upd H3 p _ t=_
          rw [upd_ne (ne_of z hp (by intro z;cases z))];exact q1 _ _ z
        · have:=q3 l z
          rw [hc.1] at this;cases this
        · rcases List.mem_cons.mp hb with z | hb
          · rw [z];exact hn p (by simp)
          rcases List.mem_cons.mp hb with z | hb
          · rw [z];exact hn l (by simp)
          · exact W.same.free (q3 b hb)
      rw [sd_row]
      cases s with
      | true =>
        refine iteT ⟨_,rfl,p,C,dx,_,rfl,upd_same,X.cl,X.nS,by show 3<1000;decide,?_⟩
        rw [upd_upd,show (V.str "column")=V.str (sd false) from rfl,flds_putS]
        exact k _ fin
      | false =>
        refine iteF ⟨_,rfl,p,C,dx,_,rfl,upd_same,X.cl,X.nS,by show 3<1000;decide,?_⟩
        rw [upd_upd,show (V.str "row")=V.str (sd true) from rfl,flds_putS]
        exact k _ fin
end
end X1
namespace X1
open PySem L2
theorem rowd_toCh (s:Bool) (c:E1.RC):(toCh (s,c)).rowd=toCh (true,c):=by cases c <;> rfl
theorem fits_toCh {B:Nat} {s:Bool} {c:E1.RC} (h:E1.qle B c):(toCh (s,c)).fits B:=by cases c <;> exact h
section
variable {P:Program} {w:World} {K:PySem.W.Frag} {mg:Str→Option Value} {base:Heap} {C:Addr}
inductive SpMake (B:Nat) (C:Addr) (vs:List V) (H:Hp) (Q:VK):Prop
  | mk (H0:Hp) (p t:Addr) (e:E1.Tab) (m n:Nat) (s:Bool) (cs:List Ch) (c:E1.RC) (_:vs=[.ref p,.ref t]) (_:WalkAt C H0 H p e m n s cs) (_:IsCh H t (tc s c)) (_:c.ok m) (_:E1.qle B c) (_:E1.Le B e) (_:cs.length<sizeLine) (_:∀H',WalkAt C H0 H' p (c.app e) m n s (cs++[tc s c])→Q .non H'):SpMake B C vs H Q
def spMake (B:Nat) (C:Addr):Sp:=fun vs H Q _=>SpMake B C vs H Q
theorem ok_q1a {B:Nat} (D:MDefAt K C "make" "Walk.make" s_q1a ["self","change"]) (T:Bt mg) (X:WTxt K C) (C_q03:Callee P w K mg base 2 "change_by_row" ["rows","change"] (spRow B)):MCallee P w K mg base C 3 "make" ["self","change"] (spMake B C):=by
  refine D.ok (k:=2) X.cl sc_q1a (fun vs H Q E h=>?_) (fun f cdv A outer s H vs Q E hr h=>?_)
  · obtain ⟨_,_,_,_,_,_,_,_,_,rfl,_⟩:=h
    rfl
  · obtain ⟨H0,p,t,e,m,n,s,cs,c,rfl,W,ht,hok,hq,hle,hz,k⟩:=h
    refine ⟨_,(pss_cons (ps_expr (pe_callC C_q03 (hr.mono (by decide)) rfl (pa_cons (pe_fld (pv 0) rfl) (pa_cons (pv 1) pa_nil))))
        (pss_one (ps_expr (pe_bm PySem.F.plainAttrs_list PySem.F.slot_list_append PySem.F.type_list_append mt_append (pe_fld (pv 0) rfl) (pa_cons (pv 1) pa_nil))))),?_⟩
    obtain ⟨dx,a,l,rs,ts,Tt,hp,hta,hr',he,hc,hla,hn⟩:=W.ex
    have hokT:(toCh (s,c)).rowd.ok m n:=by rw [rowd_toCh];exact toCh_ok (show E1.ok2 m n (true,c) from hok)
    refine ⟨_,rfl,p,C,dx,_,_,rfl,hp,X.cl,X.nR,flds_rows _ _ _,_,rfl,a,t,rs,Tt,m,n,toCh (s,c),rfl,hta,hr',W.n1,ht,hokT,fits_toCh hq,by rw [he];exact hle,fun qs H1 ht1 st1 new1=>?_⟩
    have npa:p∉a::rs:=fun z=>by
      rcases List.mem_cons.mp z with z | z
      · subst z;rw [hta.tab.1] at hp;cases hp
      · obtain ⟨row,e2⟩:=hta.tab.2.tracked p z
        rw [IsRow,hp] at e2;cases e2
    have hp1:=st1 _ _ hp npa
    have hl1:=st1 _ _ hc.1 hla
    have nt:t∉a::rs:=fun z=>by
      rcases List.mem_cons.mp z with z | z
      · subst z;rw [IsCh,hta.tab.1] at ht;cases ht
      · obtain ⟨row,e2⟩:=hta.tab.2.tracked t z
        rw [IsRow,ht] at e2;cases e2
    have ht1':=st1 _ _ ht nt
    refine ⟨_,rfl,p,C,dx,_,_,rfl,hp1,X.cl,X.nC,flds_changes _ _ _,.inl ⟨rfl,_,SqL.of hl1⟩,_,rfl,l,_,_,rfl,rfl,hl1,by rw [List.length_map,Paired.length hc.2];exact hz,?_⟩
    have hent:ent ((toCh (s,c)).rowd.app Tt)=c.app e:=by
      rw [rowd_toCh,ent_toCh hr' (show E1.ok2 m n (true,c) from hok),he];rfl
    have hrect:Rect m n ((toCh (s,c)).rowd.app Tt):=Ch.app_rect hr' hokT
    have memq:∀b∈a::qs,b∈a::rs∨H b=none:=fun b hb=>by
      rcases List.mem_cons.mp hb with z | z
      · exact .inl (by rw [z];exact List.mem_cons_self)
      · rcases new1 b z with z | z
        · exact .inl (List.mem_cons_of_mem _ z)
        · exact .inr z
    have hlq:l∉a::qs:=fun z=>by
      rcases memq l z with z | z
      · exact hla z
      · rw [hc.1] at z;cases z
    refine k _ ⟨fun b o eb=>?_,⟨dx,a,l,qs,ts++[t],_,?_,?_,hrect,hent,⟨?_,?_⟩,hlq,fun b hb=>?_⟩,W.m0,W.n0,W.m1,W.n1⟩
    · have hbl:b≠l:=fun z=>by rw [z,hn l (by simp)] at eb;cases eb
      rw [upd_ne hbl]
      refine st1 _ _ (W.same _ _ eb) fun z=>?_
      rw [hn b (in2 z)] at eb;cases eb
    · rw [upd_ne (ne_of hp1 hl1 (by intro z;cases z))];exact hp1
    · exact ht1.stay (F:=[l]) (fun b o eb hb=>by rw [upd_ne (by simpa using hb)];exact eb) fun b hb=>by
        simp only [List.mem_singleton]
        rintro rfl;exact hlq hb
    · rw [upd_same,List.map_append];rfl
    · refine psnoc (pimp hc.2 fun t' c' z=>?_) ?_
      · show upd H1 l _ t'=_
        have z1:H1 t'=some (.tup (chV c')):=st1 _ _ z fun zz=>by
          rcases List.mem_cons.mp zz with zz | zz
          · subst zz;rw [IsCh,hta.tab.1] at z;cases z
          · obtain ⟨row,e2⟩:=hta.tab.2.tracked t' zz
            rw [IsRow,z] at e2;cases e2
        rw [upd_ne (ne_of z1 hl1 (by intro z;cases z))];exact z1
      · show upd H1 l _ t=_
        rw [upd_ne (ne_of ht1' hl1 (by intro z;cases z))];exact ht1'
    · rcases List.mem_cons.mp hb with z | hb
      · rw [z];exact hn p (by simp)
      rcases List.mem_cons.mp hb with z | hb
      · rw [z];exact hn l (by simp)
      · rcases memq b hb with z | z
        · exact hn b (in2 z)
        · exact W.same.free z
inductive SpAdd (B:Nat) (C:Addr) (vs:List V) (H:Hp) (Q:VK):Prop
  | mk (H0:Hp) (p:Addr) (e:E1.Tab) (m n:Nat) (s:Bool) (cs:List Ch) (i j:Nat) (q:Int) (_:vs=[.ref p,.int i,.int j,.int q]) (_:WalkAt C H0 H p e m n s cs) (_:i<m) (_:j<m) (_:i≠j) (_:q.natAbs≤2^B) (_:E1.Le B e) (_:cs.length+(E1.lch i j q).length≤sizeLine) (_:∀H',WalkAt C H0 H' p (E1.addR e i j q) m n s (cs++(E1.lch i j q).map (tc s))→Q .non H'):SpAdd B C vs H Q
def spAdd (B:Nat) (C:Addr):Sp:=fun vs H Q _=>SpAdd B C vs H Q
theorem ok_q1b {B:Nat} (D:MDefAt K C "add_times" "Walk.add_times" s_q1b ["self","one","two","many"]) (T:Bt mg) (X:WTxt K C) (M_q1g:MCallee P w K mg base C 3 "make" ["self","change"] (spMake B C)):MCallee P w K mg base C 4 "add_times" ["self","one","two","many"] (spAdd B C):=by
  refine D.ok (k:=3) X.cl sc_q1b (fun vs H Q E h=>?_) (fun f cdv A outer s H vs Q E hr h=>?_)
  · obtain ⟨_,_,_,_,_,_,_,_,_,_,rfl,_⟩:=h
    rfl
  · obtain ⟨H0,p,e,m,n,s,cs,i,j,q,rfl,W,hi,hj,hij,hq,hle,hz,k⟩:=h
    refine ⟨_,(pss_one (ps_if (pt_cmpR op_ne (pv 3) pe_int (nomark _)) (pss_one (ps_expr (pe_methC M_q1g (pv 0) (hr.mono (by decide)) (pa_cons (pe_tup (pa_cons pe_str (pa_cons (pe_fld (pv 0) rfl) (pa_cons (pv 1) (pa_cons (pv 2) (pa_cons (pv 3) pa_nil)))))) pa_nil)))) pss_nil)),?_⟩
    refine ⟨_,rfl,rfl,_,rfl,?_⟩
    by_cases h0:q=0
    · refine iteNS (by rw [h0]) ?_
      have e1:E1.lch i j q=[]:=by unfold E1.lch;rw [if_pos h0]
      rw [e1,h0,E1.addR_zero] at k
      exact k H (by simpa using W)
    · refine iteNN (v_ne h0) ?_
      have e1:E1.lch i j q=[.add i j q]:=by unfold E1.lch;rw [if_neg h0]
      rw [e1] at k hz
      obtain ⟨dx,a,l,hp⟩:=W.ob
      refine ⟨_,rfl,p,dx,_,rfl,hp,(by first | exact no_q1k _ _ _ | exact no_q1g _ _ _ | exact no_q1h _ _ _ | exact no_q1i _ _ _ | exact no_q1m _ _ _ | exact no_q1l _ _ _ | exact no_q1j _ _ _),_,rfl,p,C,dx,_,_,rfl,hp,X.cl,X.nS,flds_side _ _ _,_,rfl,_,rfl,_,rfl,by show 5≤sizeLine;decide,fun t ht=>?_⟩
      exact ⟨H0,p,t,e,m,n,s,cs,.add i j q,rfl,W.on (same_upd ht),upd_same,⟨hi,hj,hij⟩,hq,hle,hz,fun H' W'=>k H' W'⟩
inductive SpSwapR (B:Nat) (C:Addr) (vs:List V) (H:Hp) (Q:VK):Prop
  | mk (H0:Hp) (p:Addr) (e:E1.Tab) (m n:Nat) (s:Bool) (cs:List Ch) (i j:Nat) (_:vs=[.ref p,.int i,.int j]) (_:WalkAt C H0 H p e m n s cs) (_:i<m) (_:j<m) (_:E1.Le B e) (_:cs.length+(if i=j then [] else [E1.RC.swap i j]).length≤sizeLine) (_:∀H',WalkAt C H0 H' p (E1.rapps (if i=j then [] else [E1.RC.swap i j]) e) m n s (cs++(if i=j then [] else [E1.RC.swap i j]).map (tc s))→Q .non H'):SpSwapR B C vs H Q
def spSwapR (B:Nat) (C:Addr):Sp:=fun vs H Q _=>SpSwapR B C vs H Q
theorem ok_q1c {B:Nat} (D:MDefAt K C "swap_rows" "Walk.swap_rows" s_q1c ["self","one","two"]) (T:Bt mg) (X:WTxt K C) (M_q1g:MCallee P w K mg base C 3 "make" ["self","change"] (spMake B C)):MCallee P w K mg base C 4 "swap_rows" ["self","one","two"] (spSwapR B C):=by
  refine D.ok (k:=3) X.cl sc_q1c (fun vs H Q E h=>?_) (fun f cdv A outer s H vs Q E hr h=>?_)
  · obtain ⟨_,_,_,_,_,_,_,_,_,rfl,_⟩:=h
    rfl
  · obtain ⟨H0,p,e,m,n,s,cs,i,j,rfl,W,hi,hj,hle,hz,k⟩:=h
    refine ⟨_,(pss_one (ps_if (pt_cmpR op_ne (pv 1) (pv 2) (nomark _)) (pss_one (ps_expr (pe_methC M_q1g (pv 0) (hr.mono (by decide)) (pa_cons (pe_tup (pa_cons pe_str (pa_cons (pe_fld (pv 0) rfl) (pa_cons (pv 1) (pa_cons (pv 2) pa_nil))))) pa_nil)))) pss_nil)),?_⟩
    refine ⟨_,rfl,_,rfl,rfl,_,rfl,?_⟩
    by_cases h0:i=j
    · refine iteNS (by rw [h0]) ?_
      rw [if_pos h0] at k
      exact k H (by simpa [E1.rapps] using W)
    · refine iteNN (v_ne (by omega)) ?_
      rw [if_neg h0] at k hz
      obtain ⟨dx,a,l,hp⟩:=W.ob
      refine ⟨_,rfl,p,dx,_,rfl,hp,(by first | exact no_q1k _ _ _ | exact no_q1g _ _ _ | exact no_q1h _ _ _ | exact no_q1i _ _ _ | exact no_q1m _ _ _ | exact no_q1l _ _ _ | exact no_q1j _ _ _),_,rfl,p,C,dx,_,_,rfl,hp,X.cl,X.nS,flds_side _ _ _,_,rfl,_,rfl,by show 4≤sizeLine;decide,fun t ht=>?_⟩
      exact ⟨H0,p,t,e,m,n,s,cs,.swap i j,rfl,W.on (same_upd ht),upd_same,⟨hi,hj,h0⟩,trivial,hle,hz,fun H' W'=>k H' W'⟩
inductive SpTurnR (B:Nat) (C:Addr) (vs:List V) (H:Hp) (Q:VK):Prop
  | mk (H0:Hp) (p:Addr) (e:E1.Tab) (m n:Nat) (s:Bool) (cs:List Ch) (i:Nat) (_:vs=[.ref p,.int i]) (_:WalkAt C H0 H p e m n s cs) (_:i<m) (_:E1.Le B e) (_:cs.length<sizeLine) (_:∀H',WalkAt C H0 H' p (E1.turnR e i) m n s (cs++[tc s (.turn i)])→Q .non H'):SpTurnR B C vs H Q
def spTurnR (B:Nat) (C:Addr):Sp:=fun vs H Q _=>SpTurnR B C vs H Q
theorem ok_q1d {B:Nat} (D:MDefAt K C "turn_row" "Walk.turn_row" s_q1d ["self","one"]) (T:Bt mg) (X:WTxt K C) (M_q1g:MCallee P w K mg base C 3 "make" ["self","change"] (spMake B C)):MCallee P w K mg base C 4 "turn_row" ["self","one"] (spTurnR B C):=by
  refine D.ok (k:=3) X.cl sc_q1d (fun vs H Q E h=>?_) (fun f cdv A outer s H vs Q E hr h=>?_)
  · obtain ⟨_,_,_,_,_,_,_,_,rfl,_⟩:=h
    rfl
  · obtain ⟨H0,p,e,m,n,s,cs,i,rfl,W,hi,hle,hz,k⟩:=h
    refine ⟨_,(pss_one (ps_expr (pe_methC M_q1g (pv 0) (hr.mono (by decide)) (pa_cons (pe_tup (pa_cons pe_str (pa_cons (pe_fld (pv 0) rfl) (pa_cons (pv 1) pa_nil)))) pa_nil)))),?_⟩
    obtain ⟨dx,a,l,hp⟩:=W.ob
    refine ⟨_,rfl,p,dx,_,rfl,hp,(by first | exact no_q1k _ _ _ | exact no_q1g _ _ _ | exact no_q1h _ _ _ | exact no_q1i _ _ _ | exact no_q1m _ _ _ | exact no_q1l _ _ _ | exact no_q1j _ _ _),_,rfl,p,C,dx,_,_,rfl,hp,X.cl,X.nS,flds_side _ _ _,_,rfl,by show 3≤sizeLine;decide,fun t ht=>?_⟩
    exact ⟨H0,p,t,e,m,n,s,cs,.turn i,rfl,W.on (same_upd ht),upd_same,hi,trivial,hle,hz,fun H' W'=>k H' W'⟩
inductive SpLess (B:Nat) (C:Addr) (vs:List V) (H:Hp) (Q:VK):Prop
  | mk (H0:Hp) (p:Addr) (e:E1.Tab) (m n:Nat) (s:Bool) (cs:List Ch) (i j y:Nat) (_:vs=[.ref p,.int i,.int j,.int y]) (_:WalkAt C H0 H p e m n s cs) (_:i<m) (_:j<m) (_:i≠j) (_:y<n) (_:e j y≠0) (_:E1.Le B e) (_:cs.length+(E1.lch i j (E1.lq e i j y)).length≤sizeLine) (_:∀H',WalkAt C H0 H' p (E1.less e i j y) m n s (cs++(E1.lch i j (E1.lq e i j y)).map (tc s))→Q .non H'):SpLess B C vs H Q
def spLess (B:Nat) (C:Addr):Sp:=fun vs H Q _=>SpLess B C vs H Q
theorem ok_q1e {B:Nat} (hB:B≤33554432) (hB1:1≤B) (hse:base.NoSeer) (htr:P.given.tree=none) (D:MDefAt K C "lessen" "Walk.lessen" s_q1e ["self","one","two","place"]) (T:Bt mg) (X:WTxt K C) (M_q1h:MCallee P w K mg base C 4 "add_times" ["self","one","two","many"] (spAdd B C)):MCallee P w K mg base C 41 "lessen" ["self","one","two","place"] (spLess B C):=by
  refine D.ok (k:=40) X.cl sc_q1e (fun vs H Q E h=>?_) (fun f cdv A outer s H vs Q E hr h=>?_)
  · obtain ⟨_,_,_,_,_,_,_,_,_,_,rfl,_⟩:=h
    rfl
  · obtain ⟨H0,p,e,m,n,s,cs,i,j,y,rfl,W,hi,hj,hij,hy,hnz,hle,hz,k⟩:=h
    refine ⟨_,(pss_cons (ps_set (i:=4) sc_q1e.nd rfl (Or.inl rfl) (pe_ix ix_list (pe_ix ix_list (pe_fld (pv 0) rfl) (pv 1) (fun _ _=>rfl)) (pv 3) (fun _ _=>rfl)))
        (pss_cons (ps_set (i:=5) sc_q1e.nd rfl (Or.inl rfl) (pe_ix ix_list (pe_ix ix_list (pe_fld (pv 0) rfl) (pv 2) (fun _ _=>rfl)) (pv 3) (fun _ _=>rfl)))
        (pss_one (ps_expr (pe_methC M_q1h (pv 0) (hr.mono (by decide)) (pa_cons (pv 1) (pa_cons (pv 2) (pa_cons (pe_un un_neg (pe_op (op_fdivB hse htr hr (by decide) rfl rfl ⟨_,rfl⟩) (pe_op op_add (pe_op (op_mulB B hB) pe_int (pv 4)) (pv 5)) (pe_op (op_mulB B hB) pe_int (pv 5)))) pa_nil)))))))),?_⟩
    have h2:(2:Int).natAbs≤2^B:=by
      have:2^1≤2^B:=Nat.pow_le_pow_right (by decide) hB1
      exact this
    refine W.cell X (iw:=0) (i:=1) (j:=3) rfl rfl rfl hi hy ?_
    refine W.cell X (iw:=0) (i:=2) (j:=3) rfl rfl rfl hj hy ?_
    obtain ⟨dx,a,l,hp⟩:=W.ob
    refine ⟨_,rfl,p,dx,_,rfl,hp,(by first | exact no_q1k _ _ _ | exact no_q1g _ _ _ | exact no_q1h _ _ _ | exact no_q1i _ _ _ | exact no_q1m _ _ _ | exact no_q1l _ _ _ | exact no_q1j _ _ _),_,rfl,_,rfl,_,rfl,_,_,rfl,rfl,⟨h2,hle i y⟩,_,rfl,_,_,rfl,rfl,_,rfl,_,_,rfl,rfl,⟨h2,hle j y⟩,_,_,rfl,rfl,by omega,_,rfl,?_⟩
    have hql:(E1.lq e i j y).natAbs≤2^B:=Nat.le_trans (E1.quo_le hnz) (hle i y)
    exact ⟨H0,p,e,m,n,s,cs,i,j,E1.lq e i j y,rfl,W,hi,hj,hij,hql,hle,hz,fun H' W'=>k H' W'⟩
inductive SpMeet (B:Nat) (C:Addr) (vs:List V) (H:Hp) (Q:VK):Prop
  | mk (H0:Hp) (p:Addr) (e e':E1.Tab) (m n:Nat) (s:Bool) (cs:List Ch) (top low y:Nat) (L:List E1.RC) (_:vs=[.ref p,.int top,.int low,.int y]) (_:WalkAt C H0 H p e m n s cs) (_:E1.MeetR B top low y e L e') (_:top<m) (_:low<m) (_:top≠low) (_:y<n) (_:cs.length+L.length≤sizeLine) (_:∀H',WalkAt C H0 H' p e' m n s (cs++L.map (tc s))→Q .non H'):SpMeet B C vs H Q
def spMeet (B:Nat) (C:Addr):Sp:=fun vs H Q _=>SpMeet B C vs H Q
theorem ok_q1f {B:Nat} (D:MDefAt K C "meet" "Walk.meet" s_q1f ["self","top","low","place"]) (T:Bt mg) (X:WTxt K C) (M_q1k:MCallee P w K mg base C 41 "lessen" ["self","one","two","place"] (spLess B C)) (M_q1i:MCallee P w K mg base C 4 "swap_rows" ["self","one","two"] (spSwapR B C)):MCallee P w K mg base C 42 "meet" ["self","top","low","place"] (spMeet B C):=by
  refine D.ok (k:=41) X.cl sc_q1f (fun vs H Q E h=>?_) (fun f cdv A outer s H vs Q E hr h=>?_)
  · obtain ⟨_,_,_,_,_,_,_,_,_,_,_,_,rfl,_⟩:=h
    rfl
  · obtain ⟨H0,p,e,e',m,n,s,cs,top,low,y,L,rfl,W,hm,ht,hl,htl,hy,hz,k⟩:=h
    refine ⟨_,(pss_one (ps_while PassesOwn.never (pt_cmpR op_ne (pe_ix ix_list (pe_ix ix_list (pe_fld (pv 0) rfl) (pv 2) (fun _ _=>rfl)) (pv 3) (fun _ _=>rfl)) pe_int (nomark _)) (pss_cons (ps_expr (pe_methC M_q1k (pv 0) (hr.mono (by decide)) (pa_cons (pv 2) (pa_cons (pv 1) (pa_cons (pv 3) pa_nil)))))
        (pss_one (ps_if (pt_cmpR op_ne (pe_ix ix_list (pe_ix ix_list (pe_fld (pv 0) rfl) (pv 2) (fun _ _=>rfl)) (pv 3) (fun _ _=>rfl)) pe_int (nomark _)) (pss_cons (ps_expr (pe_methC M_q1k (pv 0) (hr.mono (by decide)) (pa_cons (pv 1) (pa_cons (pv 2) (pa_cons (pv 3) pa_nil)))))
        (pss_one (ps_if (pt_cmpR op_eq (pe_ix ix_list (pe_ix ix_list (pe_fld (pv 0) rfl) (pv 1) (fun _ _=>rfl)) (pv 3) (fun _ _=>rfl)) pe_int (nomark _)) (pss_one (ps_expr (pe_methC M_q1i (pv 0) (hr.mono (by decide)) (pa_cons (pv 1) (pa_cons (pv 2) pa_nil))))) pss_nil))) pss_nil))))),?_⟩
    obtain ⟨N,hN⟩:=E1.meetH_of hm
    refine ⟨fun M σ H2=>σ=[some (.ref p),some (.int top),some (.int low),some (.int y)]∧∃(e1:E1.Tab) (cs1:List Ch) (L1:List E1.RC),E1.MeetH B top low y M e1 L1 e'∧WalkAt C H0 H2 p e1 m n s cs1∧cs1++L1.map (tc s)=cs++L.map (tc s),⟨N,rfl,e,cs,L,hN,W,rfl⟩,?_⟩
    rintro M σ H2 ⟨rfl,e1,cs1,L1,hM,W1,hcs⟩
    have hlen:cs1.length+L1.length=cs.length+L.length:=by
      have:=congrArg List.length hcs
      simpa using this
    refine W1.cell X (iw:=0) (i:=2) (j:=3) rfl rfl rfl hl hy ⟨rfl,_,rfl,?_⟩
    cases M with
    | zero=>exact absurd hM (by simp [E1.MeetH])
    | succ M =>
    rcases hM with ⟨hle,h0,rfl,rfl⟩ | ⟨hle,h0,h1,e2,he2,hle2,hM⟩
    · rw [h0]
      refine iteF ?_
      exact k H2 (by rw [←hcs];simpa using W1)
    · refine iteNN (v_ne h0) ?_
      refine ⟨fun σ' H'=>σ'=[some (.ref p),some (.int top),some (.int low),some (.int y)]∧∃(e1:E1.Tab) (cs1:List Ch) (L1:List E1.RC),E1.MeetH B top low y M e1 L1 e'∧WalkAt C H0 H' p e1 m n s cs1∧cs1++L1.map (tc s)=cs++L.map (tc s),fun σ' H' z=>⟨M,Nat.lt_succ_self _,z⟩,?_⟩
      obtain ⟨dx,a,l,hp⟩:=W1.ob
      have hz1:cs1.length+(E1.lch low top (E1.lq e1 low top y)).length≤sizeLine:=by
        rcases hM with ⟨_,rfl,_⟩ | ⟨_,e3,_,_,⟨_,L2,_,rfl⟩ | ⟨_,rfl,_⟩⟩
        · omega
        · simp only [List.length_append] at hlen;omega
        · simp only [List.length_append] at hlen;omega
      refine ⟨_,rfl,p,dx,_,rfl,hp,(by first | exact no_q1k _ _ _ | exact no_q1g _ _ _ | exact no_q1h _ _ _ | exact no_q1i _ _ _ | exact no_q1m _ _ _ | exact no_q1l _ _ _ | exact no_q1j _ _ _),_,rfl,_,rfl,_,rfl,H0,p,e1,m,n,s,cs1,low,top,y,rfl,W1,hl,ht,htl.symm,hy,h1,hle,hz1,fun H3 W3=>?_⟩
      rw [←he2] at W3
      refine W3.cell X (iw:=0) (i:=2) (j:=3) rfl rfl rfl hl hy ⟨rfl,_,rfl,?_⟩
      rcases hM with ⟨g0,rfl,rfl,k',rfl⟩ | ⟨g0,e3,he3,hle3,hM⟩
      · rw [g0]
        refine iteF ⟨rfl,e',_,[],?_,W3,?_⟩
        · exact .inl ⟨hle2,g0,rfl,rfl⟩
        · simpa using hcs
      · refine iteNN (v_ne g0) ?_
        obtain ⟨dx3,a3,l3,hp3⟩:=W3.ob
        have hz3:(cs1++(E1.lch low top (E1.lq e1 low top y)).map (tc s)).length+(E1.lch top low (E1.lq e2 top low y)).length≤sizeLine:=by
          rcases hM with ⟨_,L2,_,rfl⟩ | ⟨_,rfl,_⟩ <;> simp at hlen ⊢ <;> omega
        refine ⟨_,rfl,p,dx3,_,rfl,hp3,(by first | exact no_q1k _ _ _ | exact no_q1g _ _ _ | exact no_q1h _ _ _ | exact no_q1i _ _ _ | exact no_q1m _ _ _ | exact no_q1l _ _ _ | exact no_q1j _ _ _),_,rfl,_,rfl,_,rfl,H0,p,e2,m,n,s,_,top,low,y,rfl,W3,ht,hl,htl,hy,g0,hle2,hz3,fun H4 W4=>?_⟩
        rw [←he3] at W4
        refine W4.cell X (iw:=0) (i:=1) (j:=3) rfl rfl rfl ht hy ⟨rfl,_,rfl,?_⟩
        rcases hM with ⟨g1,L2,hM2,rfl⟩ | ⟨g1,rfl,rfl,g2,g3,k',rfl⟩
        · refine iteN (v_ne g1) ⟨rfl,e3,_,L2,hM2,W4,?_⟩
          rw [←hcs];simp
        · refine iteP (congrArg V.int g1) ?_
          obtain ⟨dx4,a4,l4,hp4⟩:=W4.ob
          refine ⟨_,rfl,p,dx4,_,rfl,hp4,(by first | exact no_q1k _ _ _ | exact no_q1g _ _ _ | exact no_q1h _ _ _ | exact no_q1i _ _ _ | exact no_q1m _ _ _ | exact no_q1l _ _ _ | exact no_q1j _ _ _),_,rfl,_,rfl,H0,p,e3,m,n,s,_,top,low,rfl,W4,ht,hl,hle3,by rw [if_neg htl];simp at hlen ⊢;omega,fun H5 W5=>?_⟩
          rw [if_neg htl] at W5
          refine ⟨rfl,_,_,[],?_,W5,?_⟩
          · exact .inl ⟨g3,g2,rfl,rfl⟩
          · rw [←hcs];simp
end
end X1
namespace X1
open PySem L2
def stV (st:List Nat):List V:=st.map fun i=>V.int (i:Nat)
theorem stV_len (st:List Nat):(stV st).length=st.length:=by simp [stV]
theorem stV_at {st:List Nat} {i:Nat} (h:i<st.length):(stV st)[i]?=some (.int (E1.sat st i:Nat)):=by
  simp [stV,E1.sat,h]
theorem upd_id {H:Hp} {q:Addr} {o:HO} (h:H q=some o):upd H q o=H:=by
  funext b
  unfold upd
  split
  · rename_i z;rw [z,h]
  · rfl
theorem same_put {H0:Hp} {q:Addr} {o:HO} (h:H0 q=none):Same H0 (upd H0 q o):=same_upd h
section
variable {P:Program} {w:World} {K:PySem.W.Frag} {mg:Str→Option Value} {base:Heap} {C:Addr}
inductive SpFirst (vs:List V) (H:Hp) (Q:VK):Prop
  | mk (r:Addr) (row:List Int) (_:vs=[.ref r]) (_:IsRow H r row) (_:∀H',Same H H'→Q (.int (E1.fp (fun y=>row.getD y 0) 0 row.length:Nat)) H'):SpFirst vs H Q
def spFirst:Sp:=fun vs H Q _=>SpFirst vs H Q
theorem ok_q0a (D:DefAt K mg "first_place" s_q0a ["row"]) (T:Bt mg):Callee P w K mg base 1 "first_place" ["row"] spFirst:=by
  refine D.ok (k:=0) sc_q0a (fun vs H Q E h=>?_) (fun f cdv A outer s H vs Q E hr h=>?_)
  · obtain ⟨_,_,rfl,_⟩:=h
    rfl
  · obtain ⟨r,row,rfl,hrow,k⟩:=h
    refine ⟨_,(pss_cons (ps_for PassesOwn.never rfl (pi_enum rfl T.enumerate (pa_cons (pv 0) pa_nil)) (pg_tup (n:=2) rfl (pgs_cons (pg_name (i:=1) sc_q0a.nd rfl (Or.inl rfl)) (pgs_cons (pg_name (i:=2) sc_q0a.nd rfl (Or.inl rfl)) pgs_nil))) (pss_one (ps_if (pt_cmpR op_ne (pv 2) pe_int (nomark _)) (pss_one (ps_ret (pv 1))) pss_nil)))
        (pss_one (ps_ret (pe_callB call_len_seq rfl T.len bt_len (pa_cons (pv 0) pa_nil))))),?_⟩
    refine ⟨_,rfl,r,_,rfl,SqL.of hrow,for_it (J:=Ite K r) (n:=row.length) (fun i σ H2=>Same H H2∧(∃v1 v2,σ=[some (.ref r),v1,v2])∧∀z,z<i→row.getD z 0=0) ⟨Same.refl H,⟨none,none,rfl⟩,fun z hz=>absurd hz (Nat.not_lt_zero _)⟩
      (fun i σ H2 hi ⟨sm,_⟩=>⟨_,SqL.of (sm _ _ hrow),by rw [List.length_map];exact hi⟩) (fun σ H2 ⟨sm,_⟩=>⟨_,SqL.of (sm _ _ hrow),by rw [List.length_map];exact Nat.le_refl _⟩) ?_ ?_⟩
    · rintro i x σ H2 H3 hi ⟨sm,⟨v1,v2,rfl⟩,hz⟩ ⟨q,u,rfl,hq,rfl,hu⟩
      obtain ⟨u',eu,rfl⟩:=mint (hu _ (SqL.of (sm _ _ hrow)))
      have eu':row.getD i 0=u':=by simp [eu]
      refine ⟨q,_,rfl,SqT.of upd_same,rfl,_,_,rfl,_,_,rfl,rfl,?_⟩
      refine ⟨_,rfl,rfl,_,rfl,?_⟩
      by_cases h0:u'=0
      · refine iteNS (by rw [h0]) ⟨sm.laid hq,⟨_,_,rfl⟩,fun z hzi=>?_⟩
        by_cases e:z=i
        · rw [e,eu',h0]
        · exact hz z (by omega)
      · refine iteNN (v_ne h0) ⟨_,rfl,?_⟩
        have e:E1.fp (fun y=>row.getD y 0) 0 row.length=i:=E1.fp_from _ _ _ (Nat.zero_le _) (by omega) (fun z _ hzi=>hz z hzi) (by show row.getD i 0≠0;rw [eu'];exact h0)
        have:=k (upd H2 q (.tup [.int (i:Nat),.int u'])) (sm.laid hq)
        rw [e] at this
        exact this
    · rintro σ H2 ⟨sm,⟨v1,v2,rfl⟩,hz⟩
      have e:E1.fp (fun y=>row.getD y 0) 0 row.length=row.length:=by
        rw [E1.fp_none row.length 0 (fun z _ hzi=>hz z (by omega))];omega
      have:=k H2 sm
      rw [e] at this
      refine ⟨_,rfl,r,_,rfl,.inl (SqL.of (sm _ _ hrow)),?_⟩
      rw [List.length_map]
      exact this
inductive SpLRow (B:Nat) (C:Addr) (vs:List V) (H:Hp) (Q:VK):Prop
  | mk (H0:Hp) (p q:Addr) (e e':E1.Tab) (m n:Nat) (s:Bool) (cs:List Ch) (st:List Nat) (row t:Nat) (L:List E1.RC) (_:vs=[.ref p,.ref q,.int row,.int t]) (_:WalkAt C H0 H p e m n s cs) (_:H0 q=some (.lst (stV st))) (_:E1.LRow B st row t (st.length - t) e L e') (_:row<m) (_:t≤2000) (_:st.length≤m) (_:(∀i,t≤i→i<st.length→i≠row∧E1.sat st i<n)) (_:cs.length+L.length≤sizeLine) (_:∀H',WalkAt C H0 H' p e' m n s (cs++L.map (tc s))→Q .non H'):SpLRow B C vs H Q
def spLRow (B:Nat) (C:Addr):Sp:=fun vs H Q _=>SpLRow B C vs H Q
theorem ok_q0d {B:Nat} (D:DefAt K mg "lessen_row" s_q0d ["walk","steps","row","start"]) (T:Bt mg) (X:WTxt K C) (M_q1k:MCallee P w K mg base C 41 "lessen" ["self","one","two","place"] (spLess B C)):Callee P w K mg base 42 "lessen_row" ["walk","steps","row","start"] (spLRow B C):=by
  refine D.ok (k:=41) sc_q0d (fun vs H Q E h=>?_) (fun f cdv A outer s H vs Q E hr h=>?_)
  · obtain ⟨_,_,_,_,_,_,_,_,_,_,_,_,_,rfl,_⟩:=h
    rfl
  · obtain ⟨H0,p,q,e,e',m,n,s,cs,st,row,t,L,rfl,W,hq,hL,hrow,ht,hst,hi,hz,k⟩:=h
    refine ⟨_,(pss_one (ps_for PassesOwn.never rfl (pi_range2 rfl T.range (pa_cons (pv 3) (pa_cons (pe_callB call_len_seq rfl T.len bt_len (pa_cons (pv 1) pa_nil)) pa_nil))) (pg_name (i:=4) sc_q0d.nd rfl (Or.inl rfl)) (pss_one (ps_expr (pe_methC M_q1k (pv 0) (hr.mono (by decide)) (pa_cons (pv 2) (pa_cons (pv 4) (pa_cons (pe_ix ix_list (pv 1) (pv 4) (fun _ _=>rfl)) pa_nil)))))))),?_⟩
    have hq1:=W.same _ _ hq
    have hm1:=W.m1
    refine ⟨_,rfl,_,rfl,q,_,rfl,.inl (SqL.of hq1),_,_,rfl,⟨by omega,by omega,by omega,by rw [stV_len];omega⟩,?_⟩
    rw [stV_len]
    have en:((st.length:Int) - (t:Int)).toNat=st.length - t:=by omega
    rw [en]
    refine for_range (fun i σ H2=>∃(v:Option V) (e1:E1.Tab) (cs1:List Ch) (L1:List E1.RC),σ=[some (.ref p),some (.ref q),some (.int row),some (.int t),v]∧E1.LRow B st row (t+i) (st.length - t - i) e1 L1 e'∧WalkAt C H0 H2 p e1 m n s cs1∧cs1++L1.map (tc s)=cs++L.map (tc s)) ⟨none,e,cs,L,rfl,hL,W,rfl⟩ ?_ ?_
    · rintro i σ H2 hlt ⟨v,e1,cs1,L1,rfl,hL1,W1,hcs⟩
      have hlen:cs1.length+L1.length=cs.length+L.length:=by
        have:=congrArg List.length hcs
        simpa using this
      obtain ⟨k',hk'⟩:∃k',st.length - t - i=k'+1:=pred_sub hlt
      rw [hk'] at hL1
      obtain ⟨hle,hnz,L2,hL2,rfl⟩:=hL1
      have ex:((t:Int)+(i:Int))=((t+i:Nat):Int):=by omega
      rw [ex]
      obtain ⟨hne,hsn⟩:=hi (t+i) (by omega) (by omega)
      obtain ⟨dx,a,l,hp⟩:=W1.ob
      have hqa:(stV st)[t+i]?=some (.int (E1.sat st (t+i):Nat)):=stV_at (by omega)
      refine ⟨_,rfl,p,dx,_,rfl,hp,(by first | exact no_q1k _ _ _ | exact no_q1g _ _ _ | exact no_q1h _ _ _ | exact no_q1i _ _ _ | exact no_q1m _ _ _ | exact no_q1l _ _ _ | exact no_q1j _ _ _),_,rfl,_,rfl,_,rfl,_,rfl,q,_,_,_,rfl,rfl,SqL.of (W1.same _ _ hq),atI_nat hqa,H0,p,e1,m,n,s,cs1,row,t+i,E1.sat st (t+i),rfl,W1,hrow,by omega,hne.symm,hsn,hnz,hle,by simp at hlen;omega,fun H3 W3=>?_⟩
      refine ⟨_,_,_,L2,rfl,?_,W3,?_⟩
      · have e2:st.length - t - (i+1)=k':=sub_succ' hk'
        rw [e2];exact hL2
      · rw [←hcs];simp
    · rintro σ H2 ⟨v,e1,cs1,L1,rfl,hL1,W1,hcs⟩
      have e2:st.length - t - (st.length - t)=0:=by omega
      rw [e2] at hL1
      obtain ⟨_,rfl,rfl⟩:=hL1
      exact k H2 (by rw [←hcs];simpa using W1)
inductive SpLift (B:Nat) (C:Addr) (vs:List V) (H:Hp) (Q:VK):Prop
  | mk (H0:Hp) (p:Addr) (e:E1.Tab) (m n:Nat) (s:Bool) (cs:List Ch) (low top ht:Nat) (_:vs=[.ref p,.int low,.int top,.int ht]) (_:WalkAt C H0 H p e m n s cs) (_:low<m) (_:ht≤low) (_:top≤ht) (_:E1.Le B e) (_:cs.length+(E1.liftL low top ht).length≤sizeLine) (_:∀H',WalkAt C H0 H' p (E1.rapps (E1.liftL low top ht) e) m n s (cs++(E1.liftL low top ht).map (tc s))→Q .non H'):SpLift B C vs H Q
def spLift (B:Nat) (C:Addr):Sp:=fun vs H Q _=>SpLift B C vs H Q
theorem ok_q0e {B:Nat} (D:DefAt K mg "lift" s_q0e ["walk","low","top","height"]) (T:Bt mg) (X:WTxt K C) (M_q1i:MCallee P w K mg base C 4 "swap_rows" ["self","one","two"] (spSwapR B C)):Callee P w K mg base 5 "lift" ["walk","low","top","height"] (spLift B C):=by
  refine D.ok (k:=4) sc_q0e (fun vs H Q E h=>?_) (fun f cdv A outer s H vs Q E hr h=>?_)
  · obtain ⟨_,_,_,_,_,_,_,_,_,_,rfl,_⟩:=h
    rfl
  · obtain ⟨H0,p,e,m,n,s,cs,low,top,ht,rfl,W,hlow,h1,h2,hle,hz,k⟩:=h
    refine ⟨_,(pss_cons (ps_expr (pe_methC M_q1i (pv 0) (hr.mono (by decide)) (pa_cons (pv 1) (pa_cons (pv 3) pa_nil))))
        (pss_one (ps_for PassesOwn.never rfl (pi_rangeD rfl T.range (pa_cons (pv 3) (pa_cons (pv 2) (pa_cons (pe_un un_neg pe_int) pa_nil)))) (pg_name (i:=4) sc_q0e.nd rfl (Or.inl rfl)) (pss_one (ps_expr (pe_methC M_q1i (pv 0) (hr.mono (by decide)) (pa_cons (pv 4) (pa_cons (pe_op op_sub (pv 4) pe_int) pa_nil)))))))),?_⟩
    have hm1:=W.m1
    obtain ⟨dx,a,l,hp⟩:=W.ob
    unfold E1.liftL at hz k
    rw [List.length_append] at hz
    refine ⟨_,rfl,p,dx,_,rfl,hp,(by first | exact no_q1k _ _ _ | exact no_q1g _ _ _ | exact no_q1h _ _ _ | exact no_q1i _ _ _ | exact no_q1m _ _ _ | exact no_q1l _ _ _ | exact no_q1j _ _ _),_,rfl,_,rfl,H0,p,e,m,n,s,cs,low,ht,rfl,W,hlow,by omega,hle,by omega,fun H1 W1=>?_⟩
    generalize hL1:(if low=ht then [] else [E1.RC.swap low ht])=L1 at hz k W1
    have hle1:E1.Le B (E1.rapps L1 e):=by
      rw [←hL1]
      split
      · exact hle
      · exact fun x y=>hle _ _
    refine ⟨_,rfl,_,rfl,_,rfl,_,_,rfl,⟨by omega,by omega,by omega,by omega⟩,?_⟩
    have en:((ht:Int) - (top:Int)).toNat=ht - top:=by omega
    rw [en]
    refine for_down (fun i σ H2=>∃(v:Option V) (e1:E1.Tab) (cs1:List Ch),σ=[some (.ref p),some (.int low),some (.int top),some (.int ht),v]∧WalkAt C H0 H2 p e1 m n s cs1∧E1.Le B e1∧E1.rapps (E1.downs top (ht - top - i)) e1=E1.rapps (L1++E1.downs top (ht - top)) e∧cs1++(E1.downs top (ht - top - i)).map (tc s)=cs++(L1++E1.downs top (ht - top)).map (tc s)) ⟨none,_,_,rfl,W1,hle1,by rw [E1.rapps_app];rfl,by simp⟩ ?_ ?_
    · rintro i σ H2 hlt ⟨v,e1,cs1,rfl,W2,hle2,he,hcs⟩
      obtain ⟨k',hk'⟩:∃k',ht - top - i=k'+1:=pred_sub hlt
      rw [hk'] at he hcs
      have hlen:=congrArg List.length hcs
      simp only [List.length_append,List.length_map,E1.downs_len] at hlen hz
      obtain ⟨dx2,a2,l2,hp2⟩:=W2.ob
      have ex1:((ht:Int) - (i:Int))=((top+k'+1:Nat):Int):=by omega
      have ex2:((top+k'+1:Nat):Int) - 1=((top+k':Nat):Int):=by omega
      rw [ex1]
      refine ⟨_,rfl,p,dx2,_,rfl,hp2,(by first | exact no_q1k _ _ _ | exact no_q1g _ _ _ | exact no_q1h _ _ _ | exact no_q1i _ _ _ | exact no_q1m _ _ _ | exact no_q1l _ _ _ | exact no_q1j _ _ _),_,rfl,_,rfl,_,_,rfl,rfl,?_⟩
      dsimp only
      rw [ex2]
      have hne:¬ top+k'+1=top+k':=by omega
      refine ⟨H0,p,e1,m,n,s,cs1,top+k'+1,top+k',rfl,W2,by omega,by omega,hle2,by rw [if_neg hne];simp;omega,fun H3 W3=>?_⟩
      rw [if_neg hne] at W3
      have e2:ht - top - (i+1)=k':=sub_succ' hk'
      refine ⟨_,_,_,rfl,W3,fun x y=>hle2 _ _,?_,?_⟩
      · rw [e2,←he];rfl
      · rw [e2,←hcs];simp [E1.downs]
    · rintro σ H2 ⟨v,e1,cs1,rfl,W2,_,he,hcs⟩
      have e2:ht - top - (ht - top)=0:=by omega
      rw [e2] at he hcs
      refine k H2 ?_
      rw [←he,←hcs]
      simpa [E1.downs,E1.rapps] using W2
inductive SpTake (B:Nat) (C:Addr) (vs:List V) (H:Hp) (Q:VK):Prop
  | mk (H0:Hp) (p q:Addr) (e e1 e2:E1.Tab) (m n:Nat) (s:Bool) (cs:List Ch) (st st1:List Nat) (low top:Nat) (L1 L2:List E1.RC) (_:vs=[.ref p,.ref q,.int low]) (_:WalkAt C H0 H p e m n s cs) (_:H0 q=some (.lst (stV st))) (_:E1.TakeR B low n st 0 e L1 top e1) (_:top≤st.length) (_:st.length≤low) (_:low<m) (_:((E1.fp (e1 low) 0 n<n∧st1=E1.ins st top (E1.fp (e1 low) 0 n)∧L2=E1.liftL low top st.length∧e2=E1.rapps L2 e1)∨(¬ E1.fp (e1 low) 0 n<n∧st1=st∧L2=[]∧e2=e1))) (_:(∀i,i<st.length→E1.sat st i<n)) (_:cs.length+(L1++L2).length≤sizeLine) (_:∀H',WalkAt C (upd H0 q (.lst (stV st1))) H' p e2 m n s (cs++(L1++L2).map (tc s))→Q .non H'):SpTake B C vs H Q
def spTake (B:Nat) (C:Addr):Sp:=fun vs H Q _=>SpTake B C vs H Q
theorem TakeR_le {B low n:Nat} {st:List Nat} {t top:Nat} {e e':E1.Tab} {L:List E1.RC} (h:E1.TakeR B low n st t e L top e'):E1.Le B e':=by
  induction h with
  | stop h _=>exact h
  | skip _ _ _ _ ih=>exact ih
  | meet _ _ _ _ _ _ _ ih=>exact ih
theorem stV_ins (st:List Nat) (top x:Nat):stV (E1.ins st top x)=(stV st).take top++V.int (x:Nat)::(stV st).drop top:=by
  simp [stV,E1.ins,List.map_take,List.map_drop]
theorem tAnd_of {tA tB:TT} {c1 c2:Bool} {σ:St} {H:Hp} {Q:Bool→Hp→Prop} (hA:∀R:Bool→Hp→Prop,R c1 H→tA σ H R) (hB:c1=true→∀R:Bool→Hp→Prop,(∀H3,Same H H3→R c2 H3)→tB σ H R) (k:∀H3,Same H H3→Q (c1&&c2) H3):tAnd tA tB σ H Q:=by
  refine hA _ ?_
  cases c1 with
  | false=>exact iteF (k H (Same.refl H))
  | true=>exact iteT (hB rfl _ fun H3 s=>k H3 s)
theorem ok_q0c {B:Nat} (D:DefAt K mg "take_in" s_q0c ["walk","steps","low"]) (T:Bt mg) (X:WTxt K C) (C_q0a:Callee P w K mg base 1 "first_place" ["row"] spFirst) (M_q1l:MCallee P w K mg base C 42 "meet" ["self","top","low","place"] (spMeet B C)) (C_q0d:Callee P w K mg base 42 "lessen_row" ["walk","steps","row","start"] (spLRow B C)) (C_q0e:Callee P w K mg base 5 "lift" ["walk","low","top","height"] (spLift B C)):Callee P w K mg base 43 "take_in" ["walk","steps","low"] (spTake B C):=by
  refine D.ok (k:=42) sc_q0c (fun vs H Q E h=>?_) (fun f cdv A outer s H vs Q E hr h=>?_)
  · obtain ⟨_,_,_,_,_,_,_,_,_,_,_,_,_,_,_,_,rfl,_⟩:=h
    rfl
  · obtain ⟨H0,p,q,e,e1,e2,m,n,s,cs,st,st1,low,top,L1,L2,rfl,W,hq,hT,htop,hst,hlow,hcase,hsat,hz,k⟩:=h
    refine ⟨_,(pss_cons (ps_set (i:=3) sc_q0c.nd rfl (Or.inl rfl) pe_int)
        (pss_cons (ps_while PassesOwn.never (PW.pt (pw_and (pt_cmpR op_lt (pv 3) (pe_callB call_len_seq rfl T.len bt_len (pa_cons (pv 1) pa_nil)) (nomark _)) (pw_and1 (pt_cmpR op_le (pe_ix ix_list (pv 1) (pv 3) (fun _ _=>rfl)) (pe_callC C_q0a (hr.mono (by decide)) rfl (pa_cons (pe_ix ix_list (pe_fld (pv 0) rfl) (pv 2) (fun _ _=>rfl)) pa_nil)) (nomark _))))) (pss_cons (ps_if (pt_cmpR op_eq (pe_ix ix_list (pv 1) (pv 3) (fun _ _=>rfl)) (pe_callC C_q0a (hr.mono (by decide)) rfl (pa_cons (pe_ix ix_list (pe_fld (pv 0) rfl) (pv 2) (fun _ _=>rfl)) pa_nil)) (nomark _)) (pss_cons (ps_expr (pe_methC M_q1l (pv 0) (hr.mono (by decide)) (pa_cons (pv 3) (pa_cons (pv 2) (pa_cons (pe_ix ix_list (pv 1) (pv 3) (fun _ _=>rfl)) pa_nil)))))
        (pss_cons (ps_expr (pe_callC C_q0d (hr.mono (by decide)) rfl (pa_cons (pv 0) (pa_cons (pv 1) (pa_cons (pv 3) (pa_cons (pe_op op_add (pv 3) pe_int) pa_nil))))))
        (pss_one (ps_expr (pe_callC C_q0d (hr.mono (by decide)) rfl (pa_cons (pv 0) (pa_cons (pv 1) (pa_cons (pv 2) (pa_cons (pe_op op_add (pv 3) pe_int) pa_nil))))))))) pss_nil)
        (pss_one (ps_aug (i:=3) sc_q0c.nd rfl (Or.inl rfl) pe_int ip_add))))
        (pss_cons (ps_set (i:=4) sc_q0c.nd rfl (Or.inl rfl) (pe_callC C_q0a (hr.mono (by decide)) rfl (pa_cons (pe_ix ix_list (pe_fld (pv 0) rfl) (pv 2) (fun _ _=>rfl)) pa_nil)))
        (pss_one (ps_if (pt_cmpR op_lt (pv 4) (pe_callB call_len_seq rfl T.len bt_len (pa_cons (pe_ix ix_list (pe_fld (pv 0) rfl) (pv 2) (fun _ _=>rfl)) pa_nil)) (nomark _)) (pss_cons (ps_expr (pe_callC C_q0e (hr.mono (by decide)) rfl (pa_cons (pv 0) (pa_cons (pv 2) (pa_cons (pv 3) (pa_cons (pe_callB call_len_seq rfl T.len bt_len (pa_cons (pv 1) pa_nil)) pa_nil))))))
        (pss_one (ps_expr (pe_bm PySem.F.plainAttrs_list PySem.F.slot_list_insert PySem.F.type_list_insert mt_insert (pv 1) (pa_cons (pv 3) (pa_cons (pv 4) pa_nil)))))) pss_nil))))),?_⟩
    have hm1:=W.m1
    have hle1:=TakeR_le hT
    refine ⟨fun M σ H2=>∃(t:Nat) (ea:E1.Tab) (csa:List Ch) (La:List E1.RC) (v:Option V),σ=[some (.ref p),some (.ref q),some (.int low),some (.int t),v]∧M=st.length - t∧E1.TakeR B low n st t ea La top e1∧WalkAt C H0 H2 p ea m n s csa∧csa++La.map (tc s)=cs++L1.map (tc s),⟨_,0,e,cs,L1,none,rfl,rfl,hT,W,rfl⟩,?_⟩
    rintro M σ H2 ⟨t,ea,csa,La,v,rfl,rfl,hTa,Wa,hcs⟩
    have hlen:csa.length+La.length=cs.length+L1.length:=by
      have:=congrArg List.length hcs
      simpa using this
    have hqa:=Wa.same _ _ hq
    refine tAnd_of (c1:=decide (t<st.length)) (c2:=decide (E1.sat st t≤E1.fp (ea low) 0 n)) (fun R hR=>?_) (fun hc R hR=>?_) (fun H3 s3=>?_)
    · refine ⟨_,rfl,_,rfl,q,_,rfl,.inl (SqL.of hqa),_,_,rfl,rfl,_,rfl,?_⟩
      have ed:decide ((t:Int)<(((stV st).length:Nat):Int))=decide (t<st.length):=by
        rw [stV_len];exact decide_eq_decide.mpr (by omega)
      rw [ed];exact hR
    · have hlt:t<st.length:=by simpa using hc
      refine ⟨_,rfl,_,rfl,q,_,_,_,rfl,rfl,SqL.of hqa,atI_nat (stV_at hlt),Wa.rowAt X (iw:=0) (i:=2) rfl rfl hlow fun r row hrow hlr her=>⟨r,row,rfl,hrow,fun H4 s4=>⟨_,_,rfl,rfl,_,rfl,?_⟩⟩⟩
      have ev:E1.fp (fun y=>row.getD y 0) 0 row.length=E1.fp (ea low) 0 n:=by rw [her,hlr]
      have ed:decide (((E1.sat st t:Nat):Int)≤((E1.fp (fun y=>row.getD y 0) 0 row.length:Nat):Int))=decide (E1.sat st t≤E1.fp (ea low) 0 n):=by
        rw [ev];exact decide_eq_decide.mpr (by omega)
      rw [ed];exact hR H4 s4
    have W3:=Wa.on s3
    have hq3:=W3.same _ _ hq
    cases hTa with
    | stop hle hno =>
      have eb:(decide (top<st.length)&&decide (E1.sat st top≤E1.fp (e1 low) 0 n))=false:=by
        rw [←Bool.decide_and];exact decide_eq_false hno
      refine iteB0 eb ?_
      refine W3.rowAt X (iw:=0) (i:=2) rfl rfl hlow fun r row hrow hlr her=>⟨r,row,rfl,hrow,fun H4 s4=>?_⟩
      have ev:E1.fp (fun y=>row.getD y 0) 0 row.length=E1.fp (e1 low) 0 n:=by rw [her,hlr]
      rw [ev]
      have W4:=W3.on s4
      have hq4:=W4.same _ _ hq
      refine ⟨_,rfl,W4.rowAt X (iw:=0) (i:=2) rfl rfl hlow fun r2 row2 hrow2 hlr2 her2=>⟨r2,_,rfl,.inl (SqL.of hrow2),_,_,rfl,rfl,_,rfl,?_⟩⟩
      rw [List.length_map,hlr2]
      have hcs':csa=cs++L1.map (tc s):=by simpa using hcs
      rcases hcase with ⟨hf,rfl,rfl,rfl⟩ | ⟨hf,rfl,rfl,rfl⟩
      · refine iteP (by omega) ?_
        refine ⟨_,rfl,_,rfl,_,rfl,_,rfl,q,_,rfl,.inl (SqL.of hq4),H0,p,e1,m,n,s,csa,low,top,st.length,by rw [stV_len];rfl,W4,hlow,hst,htop,hle,by simp at hlen hz;omega,fun H6 W6=>?_⟩
        have hq6:=W6.same _ _ hq
        refine ⟨_,rfl,.inl ⟨rfl,_,SqL.of hq6⟩,_,rfl,_,rfl,q,_,top,_,rfl,rfl,hq6,by rw [stV_len];exact htop,by rw [stV_len];exact Nat.lt_of_lt_of_le (by omega:st.length<1000) (by decide),?_⟩
        refine k _ ?_
        rw [stV_ins,List.map_append,←List.append_assoc,←hcs']
        exact W6.put hq (fun xs z=>by cases z)
      · refine iteN (by omega) ?_
        refine k H4 ?_
        rw [upd_id hq,List.append_nil,←hcs']
        exact W4
    | skip hle hlt hsk hrest =>
      have eb:(decide (t<st.length)&&decide (E1.sat st t≤E1.fp (ea low) 0 n))=true:=by
        rw [←Bool.decide_and];exact decide_eq_true ⟨hlt,by omega⟩
      refine iteB eb ⟨fun σ' H'=>∃(ea:E1.Tab) (csa:List Ch) (La:List E1.RC) (v:Option V),σ'=[some (.ref p),some (.ref q),some (.int low),some (.int (t+1:Nat)),v]∧E1.TakeR B low n st (t+1) ea La top e1∧WalkAt C H0 H' p ea m n s csa∧csa++La.map (tc s)=cs++L1.map (tc s),fun σ' H' ⟨ea,csa,La,v,z1,z2,z3,z4⟩=>⟨st.length - (t+1),by omega,t+1,ea,csa,La,v,z1,rfl,z2,z3,z4⟩,?_⟩
      refine ⟨_,rfl,_,rfl,q,_,_,_,rfl,rfl,SqL.of hq3,atI_nat (stV_at hlt),W3.rowAt X (iw:=0) (i:=2) rfl rfl hlow fun r row hrow hlr her=>⟨r,row,rfl,hrow,fun H4 s4=>⟨rfl,_,rfl,?_⟩⟩⟩
      have ev:E1.fp (fun y=>row.getD y 0) 0 row.length=E1.fp (ea low) 0 n:=by rw [her,hlr]
      rw [ev]
      refine iteN (v_ne (by omega)) ⟨_,rfl,_,_,rfl,rfl,?_⟩
      exact ⟨ea,csa,La,v,rfl,hrest,W3.on s4,hcs⟩
    | meet hle hlt hme hM hA hC hrest =>
      rename_i eb ec ed LA LB LC LD
      have eb':(decide (t<st.length)&&decide (E1.sat st t≤E1.fp (ea low) 0 n))=true:=by
        rw [←Bool.decide_and];exact decide_eq_true ⟨hlt,by omega⟩
      refine iteB eb' ⟨fun σ' H'=>∃(ea:E1.Tab) (csa:List Ch) (La:List E1.RC) (v:Option V),σ'=[some (.ref p),some (.ref q),some (.int low),some (.int (t+1:Nat)),v]∧E1.TakeR B low n st (t+1) ea La top e1∧WalkAt C H0 H' p ea m n s csa∧csa++La.map (tc s)=cs++L1.map (tc s),fun σ' H' ⟨ea,csa,La,v,z1,z2,z3,z4⟩=>⟨st.length - (t+1),by omega,t+1,ea,csa,La,v,z1,rfl,z2,z3,z4⟩,?_⟩
      refine ⟨_,rfl,_,rfl,q,_,_,_,rfl,rfl,SqL.of hq3,atI_nat (stV_at hlt),W3.rowAt X (iw:=0) (i:=2) rfl rfl hlow fun r row hrow hlr her=>⟨r,row,rfl,hrow,fun H4 s4=>⟨rfl,_,rfl,?_⟩⟩⟩
      have ev:E1.fp (fun y=>row.getD y 0) 0 row.length=E1.fp (ea low) 0 n:=by rw [her,hlr]
      rw [ev]
      refine iteP (by rw [hme]) ?_
      have W4:=W3.on s4
      have hq4:=W4.same _ _ hq
      obtain ⟨dx,a,l,hp⟩:=W4.ob
      simp only [List.length_append] at hlen
      refine ⟨_,rfl,p,dx,_,rfl,hp,(by first | exact no_q1k _ _ _ | exact no_q1g _ _ _ | exact no_q1h _ _ _ | exact no_q1i _ _ _ | exact no_q1m _ _ _ | exact no_q1l _ _ _ | exact no_q1j _ _ _),_,rfl,_,rfl,_,rfl,_,rfl,q,_,_,_,rfl,rfl,SqL.of hq4,atI_nat (stV_at hlt),H0,p,ea,eb,m,n,s,csa,t,low,E1.sat st t,LA,rfl,W4,hM,by omega,hlow,by omega,hsat t hlt,by simp at hz;omega,fun H5 W5=>?_⟩
      refine ⟨_,rfl,_,rfl,_,rfl,_,rfl,_,_,rfl,rfl,H0,p,q,eb,ec,m,n,s,_,st,t,t+1,LB,rfl,W5,hq,hA,by omega,by omega,by omega,fun i h1 h2=>⟨by omega,hsat i h2⟩,by simp at hz ⊢;omega,fun H6 W6=>?_⟩
      refine ⟨_,rfl,_,rfl,_,rfl,_,rfl,_,_,rfl,rfl,H0,p,q,ec,ed,m,n,s,_,st,low,t+1,LC,rfl,W6,hq,hC,hlow,by omega,by omega,fun i h1 h2=>⟨by omega,hsat i h2⟩,by simp at hz ⊢;omega,fun H7 W7=>?_⟩
      refine ⟨_,rfl,_,_,rfl,rfl,?_⟩
      exact ⟨ed,_,LD,v,rfl,hrest,W7,by rw [←hcs];simp⟩
inductive SpBuild (B:Nat) (C:Addr) (vs:List V) (H:Hp) (Q:VK):Prop
  | mk (H0:Hp) (p:Addr) (e e':E1.Tab) (m n:Nat) (s:Bool) (cs:List Ch) (st':List Nat) (L:List E1.RC) (_:vs=[.ref p]) (_:WalkAt C H0 H p e m n s cs) (_:E1.Build B n m 0 [] e L st' e') (_:cs.length+L.length≤sizeLine) (_:∀q H',H0 q=none→WalkAt C (upd H0 q (.lst (stV st'))) H' p e' m n s (cs++L.map (tc s))→Q (.ref q) H'):SpBuild B C vs H Q
def spBuild (B:Nat) (C:Addr):Sp:=fun vs H Q _=>SpBuild B C vs H Q
theorem ok_q0b {B:Nat} (D:DefAt K mg "build_stairs" s_q0b ["walk"]) (T:Bt mg) (X:WTxt K C) (C_q0c:Callee P w K mg base 43 "take_in" ["walk","steps","low"] (spTake B C)) (C_q0d:Callee P w K mg base 42 "lessen_row" ["walk","steps","row","start"] (spLRow B C)):Callee P w K mg base 44 "build_stairs" ["walk"] (spBuild B C):=by
  refine D.ok (k:=43) sc_q0b (fun vs H Q E h=>?_) (fun f cdv A outer s H vs Q E hr h=>?_)
  · obtain ⟨_,_,_,_,_,_,_,_,_,_,rfl,_⟩:=h
    rfl
  · obtain ⟨H0,p,e,e',m,n,s,cs,st',L,rfl,W,hB,hz,k⟩:=h
    refine ⟨_,(pss_cons (ps_set (i:=1) sc_q0b.nd rfl (Or.inl rfl) (pe_lst pa_nil))
        (pss_cons (ps_for PassesOwn.never rfl (pi_range1 rfl T.range (pa_cons (pe_callB call_len_seq rfl T.len bt_len (pa_cons (pe_fld (pv 0) rfl) pa_nil)) pa_nil)) (pg_name (i:=2) sc_q0b.nd rfl (Or.inl rfl)) (pss_cons (ps_expr (pe_callC C_q0c (hr.mono (by decide)) rfl (pa_cons (pv 0) (pa_cons (pv 1) (pa_cons (pv 2) pa_nil)))))
        (pss_one (ps_for PassesOwn.never rfl (pi_rangeD rfl T.range (pa_cons (pe_op op_sub (pe_callB call_len_seq rfl T.len bt_len (pa_cons (pv 1) pa_nil)) pe_int) (pa_cons (pe_un un_neg pe_int) (pa_cons (pe_un un_neg pe_int) pa_nil)))) (pg_name (i:=3) sc_q0b.nd rfl (Or.inl rfl)) (pss_one (ps_expr (pe_callC C_q0d (hr.mono (by decide)) rfl (pa_cons (pv 0) (pa_cons (pv 1) (pa_cons (pv 3) (pa_cons (pe_op op_add (pv 3) pe_int) pa_nil)))))))))))
        (pss_one (ps_ret (pv 1))))),?_⟩
    have hm1:=W.m1
    refine ⟨Nat.zero_le _,fun q hq=>?_⟩
    have hq0:H0 q=none:=W.same.free hq
    have W1:=W.laid (o:=.lst []) hq
    refine W1.rows X (iw:=0) rfl fun a rs Tt hta hrt hent hnew=>⟨a,_,rfl,.inl (SqL.of hta.tab.1),_,rfl,by omega,by rw [List.length_map,hta.len hrt];omega,?_⟩
    rw [List.length_map,hta.len hrt]
    refine for_range0 (fun i σ H2=>∃(v2 v3:Option V) (st:List Nat) (ea:E1.Tab) (csa:List Ch) (La:List E1.RC),σ=[some (.ref p),some (.ref q),v2,v3]∧E1.Build B n (m - i) i st ea La st' e'∧WalkAt C (upd H0 q (.lst (stV st))) H2 p ea m n s csa∧csa++La.map (tc s)=cs++L.map (tc s)∧(∀j,j<st.length→E1.sat st j<n)) ⟨none,none,[],e,cs,L,rfl,hB,W1,rfl,fun j h=>absurd h (by simp)⟩ ?_ ?_
    · rintro low σ H2 hlow ⟨v2,v3,st,ea,csa,La,rfl,hBa,Wa,hcs,hsat⟩
      have hlow':low<m:=by simpa using hlow
      obtain ⟨k',hk'⟩:∃k',m - low=k'+1:=pred_sub hlow'
      rw [hk'] at hBa
      obtain ⟨LA,top,e1,st1,LB,e2,LC,e3,LD,hT,htop,hst,hcase,hR,hB2,rfl⟩:=hBa
      have hlen:csa.length+(LA++(LB++(LC++LD))).length=cs.length+L.length:=by
        have:=congrArg List.length hcs
        simpa using this
      simp only [List.length_append] at hlen
      have hsat1:∀j,j<st1.length→E1.sat st1 j<n:=by
        rcases hcase with ⟨hf,rfl,_,_⟩ | ⟨_,rfl,_,_⟩
        · intro j hj
          rw [E1.ins_len htop] at hj
          rw [E1.ins_sat htop]
          split
          · exact hsat j (by omega)
          · split
            · exact hf
            · exact hsat (j - 1) (by omega)
        · exact hsat
      have hlen1:st1.length≤low+1:=by
        rcases hcase with ⟨_,rfl,_,_⟩ | ⟨_,rfl,_,_⟩
        · rw [E1.ins_len htop];omega
        · omega
      refine ⟨_,rfl,_,rfl,_,rfl,upd H0 q (.lst (stV st)),p,q,ea,e1,e2,m,n,s,csa,st,st1,low,top,LA,LB,rfl,Wa,upd_same,hT,htop,hst,hlow',hcase,hsat,by simp;omega,fun H3 W3=>?_⟩
      rw [upd_upd] at W3
      have hq3:=W3.same _ _ (upd_same (H:=H0) (a:=q) (o:=.lst (stV st1)))
      refine ⟨_,rfl,q,_,rfl,.inl (SqL.of hq3),_,_,rfl,rfl,_,rfl,_,rfl,_,_,rfl,⟨by omega,by rw [stV_len];omega,by omega,by omega⟩,?_⟩
      rw [stV_len]
      have en:((st1.length:Int) - 1 - -1).toNat=st1.length:=by omega
      rw [en]
      refine for_down (fun i σ H4=>∃(v3:Option V) (eb:E1.Tab) (csb:List Ch) (Lb:List E1.RC),σ=[some (.ref p),some (.ref q),some (.int low),v3]∧E1.Red B st1 (st1.length - i) eb Lb e3∧WalkAt C (upd H0 q (.lst (stV st1))) H4 p eb m n s csb∧csb++Lb.map (tc s)=csa++(LA++(LB++LC)).map (tc s)) ⟨_,_,_,LC,rfl,hR,W3,by simp⟩ ?_ ?_
      · rintro i σ H4 hi ⟨v3,eb,csb,Lb,rfl,hRb,Wb,hcb⟩
        obtain ⟨k2,hk2⟩:∃k2,st1.length - i=k2+1:=pred_sub hi
        rw [hk2] at hRb
        obtain ⟨LE,ee,LF,hLE,hRF,rfl⟩:=hRb
        have hlb:csb.length+(LE++LF).length=csa.length+(LA++(LB++LC)).length:=by
          have:=congrArg List.length hcb
          simpa using this
        simp only [List.length_append] at hlb
        have ex:((st1.length:Int) - 1 - (i:Int))=((k2:Nat):Int):=by omega
        rw [ex]
        refine ⟨_,rfl,_,rfl,_,rfl,_,rfl,_,_,rfl,rfl,upd H0 q (.lst (stV st1)),p,q,eb,ee,m,n,s,csb,st1,k2,k2+1,LE,rfl,Wb,upd_same,hLE,by omega,by omega,by omega,fun j h1 h2=>⟨by omega,hsat1 j h2⟩,by omega,fun H5 W5=>?_⟩
        have e2':st1.length - (i+1)=k2:=sub_succ' hk2
        refine ⟨_,ee,_,LF,rfl,?_,W5,?_⟩
        · rw [e2'];exact hRF
        · rw [←hcb];simp
      · rintro σ H4 ⟨v3,eb,csb,Lb,rfl,hRb,Wb,hcb⟩
        rw [Nat.sub_self] at hRb
        obtain ⟨_,rfl,rfl⟩:=hRb
        have e2':m - (low+1)=k':=sub_succ' hk'
        refine ⟨_,_,st1,_,csb,LD,rfl,?_,Wb,?_,hsat1⟩
        · rw [e2'];exact hB2
        · have:csb=csa++(LA++(LB++LC)).map (tc s):=by simpa using hcb
          rw [this,←hcs];simp
    · rintro σ H2 ⟨v2,v3,st,ea,csa,La,rfl,hBa,Wa,hcs,hsat⟩
      have e2:m - ((m:Nat):Int).toNat=0:=by simp
      rw [e2] at hBa
      obtain ⟨_,rfl,rfl,rfl⟩:=hBa
      exact ⟨_,rfl,k q H2 hq0 (by rw [←hcs];simpa using Wa)⟩
inductive SpBoth (B:Nat) (C:Addr) (vs:List V) (H:Hp) (Q:VK):Prop
  | mk (H0:Hp) (p:Addr) (e e':E1.Tab) (m n:Nat) (cs:List Ch) (L1 L2:List E1.RC) (_:vs=[.ref p]) (_:WalkAt C H0 H p e m n true cs) (_:E1.Both B m n e L1 L2 e') (_:cs.length+(L1.length+L2.length)≤sizeLine) (_:∀H',WalkAt C H0 H' p e' m n true (cs++(L1.map (Prod.mk true)++L2.map (Prod.mk false)).map toCh)→Q .non H'):SpBoth B C vs H Q
def spBoth (B:Nat) (C:Addr):Sp:=fun vs H Q _=>SpBoth B C vs H Q
theorem tc_map (s:Bool) (L:List E1.RC):L.map (tc s)=(L.map (Prod.mk s)).map toCh:=by rw [List.map_map];rfl
theorem ok_q0j {B:Nat} (D:DefAt K mg "build_both_stairs" s_q0j ["walk"]) (T:Bt mg) (X:WTxt K C) (C_q0b:Callee P w K mg base 44 "build_stairs" ["walk"] (spBuild B C)) (M_q1m:MCallee P w K mg base C 2 "tip_over" ["self"] (spTip C)):Callee P w K mg base 45 "build_both_stairs" ["walk"] (spBoth B C):=by
  refine D.ok (k:=44) sc_q0j (fun vs H Q E h=>?_) (fun f cdv A outer s H vs Q E hr h=>?_)
  · obtain ⟨_,_,_,_,_,_,_,_,_,rfl,_⟩:=h
    rfl
  · obtain ⟨H0,p,e,e',m,n,cs,L1,L2,rfl,W,⟨st1,e1,st2,e2,hB1,hB2,rfl⟩,hz,k⟩:=h
    refine ⟨_,(pss_cons (ps_expr (pe_callC C_q0b (hr.mono (by decide)) rfl (pa_cons (pv 0) pa_nil)))
        (pss_cons (ps_expr (pe_methC0 M_q1m (pv 0) (hr.mono (by decide))))
        (pss_cons (ps_expr (pe_callC C_q0b (hr.mono (by decide)) rfl (pa_cons (pv 0) pa_nil)))
        (pss_one (ps_expr (pe_methC0 M_q1m (pv 0) (hr.mono (by decide)))))))),?_⟩
    refine ⟨_,rfl,H0,p,e,e1,m,n,true,cs,st1,L1,rfl,W,hB1,by omega,fun q1 H1 hq1 W1=>?_⟩
    have W1:=W1.sub (same_put hq1)
    obtain ⟨dx,a,l,hp⟩:=W1.ob
    refine ⟨_,rfl,p,dx,_,rfl,hp,(by first | exact no_q1k _ _ _ | exact no_q1g _ _ _ | exact no_q1h _ _ _ | exact no_q1i _ _ _ | exact no_q1m _ _ _ | exact no_q1l _ _ _ | exact no_q1j _ _ _),H0,p,e1,m,n,true,_,rfl,W1,fun H2 W2=>?_⟩
    refine ⟨_,rfl,H0,p,E1.tipT e1,e2,n,m,false,_,st2,L2,rfl,W2,hB2,by simp;omega,fun q3 H3 hq3 W3=>?_⟩
    have W3:=W3.sub (same_put hq3)
    obtain ⟨dx3,a3,l3,hp3⟩:=W3.ob
    refine ⟨_,rfl,p,dx3,_,rfl,hp3,(by first | exact no_q1k _ _ _ | exact no_q1g _ _ _ | exact no_q1h _ _ _ | exact no_q1i _ _ _ | exact no_q1m _ _ _ | exact no_q1l _ _ _ | exact no_q1j _ _ _),H0,p,e2,n,m,false,_,rfl,W3,fun H4 W4=>?_⟩
    refine k H4 ?_
    rw [List.map_append,←tc_map,←tc_map,←List.append_assoc]
    exact W4
end
end X1
namespace X1
open PySem L2
section
variable {P:Program} {w:World} {K:PySem.W.Frag} {mg:Str→Option Value} {base:Heap} {C:Addr}
inductive SpBeside (vs:List V) (H:Hp) (Q:VK):Prop
  | mk (a:Addr) (rs:List Addr) (T:Tb) (m n:Nat) (_:vs=[.ref a]) (_:TabAt H a rs T) (_:Rect m n T) (_:∀b H',(b=true↔E1.beside m n (ent T))→Same H H'→Q (.bl b) H'):SpBeside vs H Q
def spBeside:Sp:=fun vs H Q _=>SpBeside vs H Q
theorem ok_q0k (D:DefAt K mg "has_number_beside" s_q0k ["rows"]) (T:Bt mg):Callee P w K mg base 1 "has_number_beside" ["rows"] spBeside:=by
  refine D.ok (k:=0) sc_q0k (fun vs H Q E h=>?_) (fun f cdv A outer s H vs Q E hr h=>?_)
  · obtain ⟨_,_,_,_,_,rfl,_⟩:=h
    rfl
  · obtain ⟨a,rs,Tt,m,n,rfl,ht,hr',k⟩:=h
    refine ⟨_,(pss_cons (ps_for PassesOwn.never rfl (pi_enum rfl T.enumerate (pa_cons (pv 0) pa_nil)) (pg_tup (n:=2) rfl (pgs_cons (pg_name (i:=1) sc_q0k.nd rfl (Or.inl rfl)) (pgs_cons (pg_name (i:=2) sc_q0k.nd rfl (Or.inl rfl)) pgs_nil))) (pss_one (ps_for PassesOwn.never rfl (pi_enum rfl T.enumerate (pa_cons (pv 2) pa_nil)) (pg_tup (n:=2) rfl (pgs_cons (pg_name (i:=3) sc_q0k.nd rfl (Or.inl rfl)) (pgs_cons (pg_name (i:=4) sc_q0k.nd rfl (Or.inl rfl)) pgs_nil))) (pss_one (ps_if (PW.pt (pw_and (pt_cmpR op_ne (pv 3) (pv 1) (nomark _)) (pw_and1 (pt_cmpR op_ne (pv 4) pe_int (nomark _))))) (pss_one (ps_ret pe_bl)) pss_nil)))))
        (pss_one (ps_ret pe_bl))),?_⟩
    have h1:=ht.tab.1
    have hl:=ht.len hr'
    refine ⟨_,rfl,a,_,rfl,SqL.of h1,for_it (J:=Ite K a) (n:=m) (fun i σ H2=>Same H H2∧(∃v1 v2 v3 v4,σ=[some (.ref a),v1,v2,v3,v4])∧∀x,x<i→∀y,y<n→y≠x→ent Tt x y=0) ⟨Same.refl H,⟨none,none,none,none,rfl⟩,fun x hx=>absurd hx (Nat.not_lt_zero _)⟩
      (fun i σ H2 hi ⟨sm,_⟩=>⟨_,SqL.of (sm _ _ h1),by rw [List.length_map,hl];exact hi⟩) (fun σ H2 ⟨sm,_⟩=>⟨_,SqL.of (sm _ _ h1),by rw [List.length_map,hl];exact Nat.le_refl _⟩) ?_ ?_⟩
    · rintro i x σ H2 H3 hi ⟨sm,⟨v1,v2,v3,v4,rfl⟩,hz⟩ ⟨q,u,rfl,hq,rfl,hu⟩
      obtain ⟨r,er,rfl⟩:=mref (hu _ (SqL.of (sm _ _ h1)))
      obtain ⟨r',er',_,hrow,hlr⟩:=ht.at hr' hi
      rw [er] at er';cases er'
      refine ⟨q,_,rfl,SqT.of upd_same,rfl,_,_,rfl,_,_,rfl,rfl,?_⟩
      have sm3:Same H (upd H2 q (.tup [.int (i:Nat),.ref r])):=sm.laid hq
      generalize upd H2 q (.tup [.int (i:Nat),.ref r])=H3 at sm3 ⊢
      refine ⟨_,rfl,r,_,rfl,SqL.of (sm3 _ _ hrow),for_it (J:=Ite K r) (n:=n) (fun j σ H4=>Same H H4∧(∃v3 v4,σ=[some (.ref a),some (.int (i:Nat)),some (.ref r),v3,v4])∧∀y,y<j→y≠i→ent Tt i y=0) ⟨sm3,⟨_,_,rfl⟩,fun y hy=>absurd hy (Nat.not_lt_zero _)⟩
        (fun j σ H4 hj ⟨sm,_⟩=>⟨_,SqL.of (sm _ _ hrow),by rw [List.length_map,hlr];exact hj⟩) (fun σ H4 ⟨sm,_⟩=>⟨_,SqL.of (sm _ _ hrow),by rw [List.length_map,hlr];exact Nat.le_refl _⟩) ?_ ?_⟩
      · rintro j x σ H4 H5 hj ⟨sm4,⟨v3,v4,rfl⟩,hy⟩ ⟨q2,u2,rfl,hq2,rfl,hu2⟩
        obtain ⟨u',eu,rfl⟩:=mint (hu2 _ (SqL.of (sm4 _ _ hrow)))
        have eu':ent Tt i j=u':=(cell_of eu).symm
        refine ⟨q2,_,rfl,SqT.of upd_same,rfl,_,_,rfl,_,_,rfl,rfl,?_⟩
        refine ⟨_,rfl,_,rfl,rfl,_,rfl,?_⟩
        by_cases hij:j=i
        · refine iteNS (by rw [hij]) (iteF ⟨sm4.laid hq2,⟨_,_,rfl⟩,fun y hy1 hy2=>hy y (by omega) hy2⟩)
        · refine iteNN (v_ne (by omega)) ⟨_,rfl,rfl,_,rfl,?_⟩
          by_cases h0:u'=0
          · refine iteNS (by rw [h0]) ⟨sm4.laid hq2,⟨_,_,rfl⟩,fun y hy1 hy2=>?_⟩
            by_cases e:y=j
            · rw [e,eu',h0]
            · exact hy y (by omega) hy2
          · refine iteNN (v_ne h0) ?_
            exact k true _ ⟨fun _=>⟨i,j,hi,hj,hij,by rw [eu'];exact h0⟩,fun _=>rfl⟩ (sm4.laid hq2)
      · rintro σ H4 ⟨sm4,⟨v3,v4,rfl⟩,hy⟩
        refine ⟨sm4,⟨_,_,_,_,rfl⟩,fun x hx y hyn hyx=>?_⟩
        by_cases e:x=i
        · subst e;exact hy y hyn hyx
        · exact hz x (by omega) y hyn hyx
    · rintro σ H2 ⟨sm,⟨v1,v2,v3,v4,rfl⟩,hz⟩
      refine k false _ ⟨(fun h=>nomatch h),fun ⟨x,y,hx,hy,hne,h0⟩=>absurd (hz x hx y hy hne) h0⟩ sm
inductive SpLen (vs:List V) (H:Hp) (Q:VK):Prop
  | mk (a:Addr) (rs:List Addr) (T:Tb) (m n:Nat) (_:vs=[.ref a]) (_:TabAt H a rs T) (_:Rect m n T) (_:0<m) (_:Q (.int (min m n:Nat)) H):SpLen vs H Q
def spLen:Sp:=fun vs H Q _=>SpLen vs H Q
theorem ok_q0i (D:DefAt K mg "diagonal_length" s_q0i ["rows"]) (T:Bt mg):Callee P w K mg base 1 "diagonal_length" ["rows"] spLen:=by
  refine D.ok (k:=0) sc_q0i (fun vs H Q E h=>?_) (fun f cdv A outer s H vs Q E hr h=>?_)
  · obtain ⟨_,_,_,_,_,rfl,_⟩:=h
    rfl
  · obtain ⟨a,rs,Tt,m,n,rfl,ht,hr',hm0,k⟩:=h
    refine ⟨_,(pss_one (ps_ret (pe_callB (call_min2 rfl) rfl T.min bt_min (pa_cons (pe_callB call_len_seq rfl T.len bt_len (pa_cons (pv 0) pa_nil)) (pa_cons (pe_callB call_len_seq rfl T.len bt_len (pa_cons (pe_ix ix_list (pv 0) pe_int (fun _ _=>rfl)) pa_nil)) pa_nil))))),?_⟩
    have h1:=ht.tab.1
    have hl:=ht.len hr'
    obtain ⟨r0,e0,_,hr0,hl0⟩:=ht.at hr' hm0
    refine ⟨_,rfl,a,_,rfl,.inl (SqL.of h1),_,rfl,a,_,_,_,rfl,rfl,SqL.of h1,atI_nat (j:=0) (rget e0),r0,_,rfl,.inl (SqL.of hr0),_,_,rfl,?_⟩
    rw [List.length_map,List.length_map,hl,hl0]
    have e:(if ((n:Nat):Int)<((m:Nat):Int) then ((n:Nat):Int) else ((m:Nat):Int))=((min m n:Nat):Int):=by
      split <;> omega
    rw [e];exact k
inductive SpLink (B:Nat) (C:Addr) (vs:List V) (H:Hp) (Q:VK):Prop
  | mk (H0:Hp) (p:Addr) (e e':E1.Tab) (m n:Nat) (cs:List Ch) (one two:Nat) (L:List (Bool×E1.RC)) (_:vs=[.ref p,.int one,.int two]) (_:WalkAt C H0 H p e m n true cs) (_:E1.LinkR B one two e L e') (_:one<two) (_:two<m) (_:two<n) (_:cs.length+L.length≤sizeLine) (_:∀H',WalkAt C H0 H' p e' m n true (cs++L.map toCh)→Q .non H'):SpLink B C vs H Q
def spLink (B:Nat) (C:Addr):Sp:=fun vs H Q _=>SpLink B C vs H Q
theorem ok_q0m {B:Nat} (D:DefAt K mg "link" s_q0m ["walk","one","two"]) (T:Bt mg) (X:WTxt K C) (M_q1h:MCallee P w K mg base C 4 "add_times" ["self","one","two","many"] (spAdd B C)) (M_q1m:MCallee P w K mg base C 2 "tip_over" ["self"] (spTip C)) (M_q1l:MCallee P w K mg base C 42 "meet" ["self","top","low","place"] (spMeet B C)) (M_q1k:MCallee P w K mg base C 41 "lessen" ["self","one","two","place"] (spLess B C)):Callee P w K mg base 43 "link" ["walk","one","two"] (spLink B C):=by
  refine D.ok (k:=42) sc_q0m (fun vs H Q E h=>?_) (fun f cdv A outer s H vs Q E hr h=>?_)
  · obtain ⟨_,_,_,_,_,_,_,_,_,_,rfl,_⟩:=h
    rfl
  · obtain ⟨H0,p,e,e',m,n,cs,one,two,L,rfl,W,⟨hle,hle1,L2,e2,hM,hle2,hnz,rfl,hle',rfl⟩,h12,h2m,h2n,hz,k⟩:=h
    refine ⟨_,(pss_cons (ps_expr (pe_methC M_q1h (pv 0) (hr.mono (by decide)) (pa_cons (pv 1) (pa_cons (pv 2) (pa_cons pe_int pa_nil)))))
        (pss_cons (ps_expr (pe_methC0 M_q1m (pv 0) (hr.mono (by decide))))
        (pss_cons (ps_expr (pe_methC M_q1l (pv 0) (hr.mono (by decide)) (pa_cons (pv 1) (pa_cons (pv 2) (pa_cons (pv 1) pa_nil)))))
        (pss_cons (ps_expr (pe_methC0 M_q1m (pv 0) (hr.mono (by decide))))
        (pss_one (ps_expr (pe_methC M_q1k (pv 0) (hr.mono (by decide)) (pa_cons (pv 2) (pa_cons (pv 1) (pa_cons (pv 1) pa_nil)))))))))),?_⟩
    obtain ⟨dx,a,l,hp⟩:=W.ob
    simp only [List.length_cons,List.length_append,List.length_map] at hz
    have el:E1.lch one two 1=[.add one two 1]:=rfl
    refine ⟨_,rfl,p,dx,_,rfl,hp,(by first | exact no_q1k _ _ _ | exact no_q1g _ _ _ | exact no_q1h _ _ _ | exact no_q1i _ _ _ | exact no_q1m _ _ _ | exact no_q1l _ _ _ | exact no_q1j _ _ _),_,rfl,_,rfl,H0,p,e,m,n,true,cs,one,two,1,rfl,W,by omega,h2m,by omega,Nat.one_le_two_pow,hle,by rw [el];simp;omega,fun H1 W1=>?_⟩
    obtain ⟨dx1,a1,l1,hp1⟩:=W1.ob
    refine ⟨_,rfl,p,dx1,_,rfl,hp1,(by first | exact no_q1k _ _ _ | exact no_q1g _ _ _ | exact no_q1h _ _ _ | exact no_q1i _ _ _ | exact no_q1m _ _ _ | exact no_q1l _ _ _ | exact no_q1j _ _ _),H0,p,_,m,n,true,_,rfl,W1,fun H2 W2=>?_⟩
    obtain ⟨dx2,a2,l2,hp2⟩:=W2.ob
    refine ⟨_,rfl,p,dx2,_,rfl,hp2,(by first | exact no_q1k _ _ _ | exact no_q1g _ _ _ | exact no_q1h _ _ _ | exact no_q1i _ _ _ | exact no_q1m _ _ _ | exact no_q1l _ _ _ | exact no_q1j _ _ _),_,rfl,_,rfl,_,rfl,H0,p,_,e2,n,m,false,_,one,two,one,L2,rfl,W2,hM,by omega,h2n,by omega,by omega,by rw [el];simp;omega,fun H3 W3=>?_⟩
    obtain ⟨dx3,a3,l3,hp3⟩:=W3.ob
    refine ⟨_,rfl,p,dx3,_,rfl,hp3,(by first | exact no_q1k _ _ _ | exact no_q1g _ _ _ | exact no_q1h _ _ _ | exact no_q1i _ _ _ | exact no_q1m _ _ _ | exact no_q1l _ _ _ | exact no_q1j _ _ _),H0,p,e2,n,m,false,_,rfl,W3,fun H4 W4=>?_⟩
    obtain ⟨dx4,a4,l4,hp4⟩:=W4.ob
    refine ⟨_,rfl,p,dx4,_,rfl,hp4,(by first | exact no_q1k _ _ _ | exact no_q1g _ _ _ | exact no_q1h _ _ _ | exact no_q1i _ _ _ | exact no_q1m _ _ _ | exact no_q1l _ _ _ | exact no_q1j _ _ _),_,rfl,_,rfl,_,rfl,H0,p,E1.tipT e2,m,n,true,_,two,one,one,rfl,W4,h2m,by omega,by omega,by omega,hnz,E1.le_tip hle2,by rw [el];simp;omega,fun H5 W5=>?_⟩
    refine k H5 ?_
    have:cs++((true,E1.RC.add one two 1)::(L2.map (Prod.mk false)++(E1.lch two one (E1.lq (E1.tipT e2) two one one)).map (Prod.mk true))).map toCh=cs++(E1.lch one two 1).map (tc true)++L2.map (tc false)++(E1.lch two one (E1.lq (E1.tipT e2) two one one)).map (tc true):=by
      rw [tc_map,tc_map,tc_map,el]
      simp
    rw [this]
    exact W5
inductive SpChain (B:Nat) (C:Addr) (vs:List V) (H:Hp) (Q:VK):Prop
  | mk (H0:Hp) (p:Addr) (e e':E1.Tab) (m n:Nat) (cs:List Ch) (L:List (Bool×E1.RC)) (_:vs=[.ref p]) (_:WalkAt C H0 H p e m n true cs) (_:E1.ChainO B (min m n) (min m n) 0 e L e') (_:cs.length+L.length≤sizeLine) (_:∀H',WalkAt C H0 H' p e' m n true (cs++L.map toCh)→Q .non H'):SpChain B C vs H Q
def spChain (B:Nat) (C:Addr):Sp:=fun vs H Q _=>SpChain B C vs H Q
theorem ok_q0l {B:Nat} (D:DefAt K mg "chain" s_q0l ["walk"]) (T:Bt mg) (X:WTxt K C) (C_q0i:Callee P w K mg base 1 "diagonal_length" ["rows"] spLen) (C_q0m:Callee P w K mg base 43 "link" ["walk","one","two"] (spLink B C)):Callee P w K mg base 44 "chain" ["walk"] (spChain B C):=by
  refine D.ok (k:=43) sc_q0l (fun vs H Q E h=>?_) (fun f cdv A outer s H vs Q E hr h=>?_)
  · obtain ⟨_,_,_,_,_,_,_,_,rfl,_⟩:=h
    rfl
  · obtain ⟨H0,p,e,e',m,n,cs,L,rfl,W,hC,hz,k⟩:=h
    refine ⟨_,(pss_cons (ps_set (i:=1) sc_q0l.nd rfl (Or.inl rfl) (pe_callC C_q0i (hr.mono (by decide)) rfl (pa_cons (pe_fld (pv 0) rfl) pa_nil)))
        (pss_one (ps_for PassesOwn.never rfl (pi_range1 rfl T.range (pa_cons (pv 1) pa_nil)) (pg_name (i:=2) sc_q0l.nd rfl (Or.inl rfl)) (pss_one (ps_for PassesOwn.never rfl (pi_range2 rfl T.range (pa_cons (pe_op op_add (pv 2) pe_int) (pa_cons (pv 1) pa_nil))) (pg_name (i:=3) sc_q0l.nd rfl (Or.inl rfl)) (pss_one (ps_if (PW.pt (pw_and (pt_cmpR op_ne (pe_ix ix_list (pe_ix ix_list (pe_fld (pv 0) rfl) (pv 3) (fun _ _=>rfl)) (pv 3) (fun _ _=>rfl)) pe_int (nomark _)) (pw_and1 (pt_cmpR op_ne (pe_op op_modN (pe_ix ix_list (pe_ix ix_list (pe_fld (pv 0) rfl) (pv 3) (fun _ _=>rfl)) (pv 3) (fun _ _=>rfl)) (pe_ix ix_list (pe_ix ix_list (pe_fld (pv 0) rfl) (pv 2) (fun _ _=>rfl)) (pv 2) (fun _ _=>rfl))) pe_int (nomark _))))) (pss_one (ps_expr (pe_callC C_q0m (hr.mono (by decide)) rfl (pa_cons (pv 0) (pa_cons (pv 2) (pa_cons (pv 3) pa_nil)))))) pss_nil))))))),?_⟩
    have hm1:=W.m1
    refine W.rows X (iw:=0) rfl fun a rs Tt hta hrt hent hnew=>⟨a,rs,Tt,m,n,rfl,hta,hrt,W.m0,?_⟩
    generalize hlen:min m n=len at hC ⊢
    have hlm:len≤m∧len≤n:=by omega
    refine ⟨_,rfl,_,rfl,by omega,by omega,?_⟩
    refine for_range0 (fun i σ H2=>∃(v2 v3:Option V) (ea:E1.Tab) (csa:List Ch) (La:List (Bool×E1.RC)),σ=[some (.ref p),some (.int (len:Nat)),v2,v3]∧E1.ChainO B len (len - i) i ea La e'∧WalkAt C H0 H2 p ea m n true csa∧csa++La.map toCh=cs++L.map toCh) ⟨none,none,e,cs,L,rfl,hC,W,rfl⟩ ?_ ?_
    · rintro one σ H2 hone ⟨v2,v3,ea,csa,La,rfl,hCa,Wa,hcs⟩
      have hone':one<len:=by simpa using hone
      obtain ⟨k',hk'⟩:∃k',len - one=k'+1:=pred_sub hone'
      rw [hk'] at hCa
      obtain ⟨LA,e1,LB,hI,hO,rfl⟩:=hCa
      have hl1:csa.length+(LA++LB).length=cs.length+L.length:=by
        have:=congrArg List.length hcs
        simpa using this
      simp only [List.length_append] at hl1
      refine ⟨_,rfl,_,_,rfl,rfl,_,rfl,_,_,rfl,⟨by omega,by omega,by omega,by omega⟩,?_⟩
      have en:(((len:Nat):Int) - ((one:Int)+1)).toNat=len - (one+1):=by omega
      rw [en]
      refine for_range (fun i σ H3=>∃(v3:Option V) (eb:E1.Tab) (csb:List Ch) (Lb:List (Bool×E1.RC)),σ=[some (.ref p),some (.int (len:Nat)),some (.int (one:Nat)),v3]∧E1.ChainI B one (len - (one+1) - i) (one+1+i) eb Lb e1∧WalkAt C H0 H3 p eb m n true csb∧csb++Lb.map toCh=csa++LA.map toCh) ⟨_,ea,csa,LA,rfl,hI,Wa,rfl⟩ ?_ ?_
      · rintro i σ H3 hi ⟨v3,eb,csb,Lb,rfl,hIb,Wb,hcb⟩
        obtain ⟨k2,hk2⟩:∃k2,len - (one+1) - i=k2+1:=pred_sub hi
        rw [hk2] at hIb
        obtain ⟨hle,hnz,hIb⟩:=hIb
        have ex:((one:Int)+1+(i:Int))=((one+1+i:Nat):Int):=by omega
        rw [ex]
        generalize htwo:one+1+i=two at hnz hIb ⊢
        have htl:two<len:=by omega
        have e2':len - (one+1) - (i+1)=k2:=sub_succ' hk2
        have e3':one+1+(i+1)=two+1:=by omega
        have hlb:csb.length+Lb.length=csa.length+LA.length:=by
          have:=congrArg List.length hcb
          simpa using this
        refine Wb.cell X (iw:=0) (i:=3) (j:=3) rfl rfl rfl (by omega) (by omega) ⟨rfl,_,rfl,?_⟩
        rcases hIb with ⟨h0,hnd,LC,e4,LD,hLk,hI2,rfl⟩ | ⟨hno,hI2⟩
        · refine iteNN (v_ne h0) ?_
          have h1:=hnz h0
          refine Wb.cell X (iw:=0) (i:=3) (j:=3) rfl rfl rfl (by omega) (by omega) ?_
          refine Wb.cell X (iw:=0) (i:=2) (j:=2) rfl rfl rfl (by omega) (by omega) ⟨_,_,rfl,rfl,h1,rfl,_,rfl,iteNN (v_ne fun z=>hnd (Int.dvd_of_fmod_eq_zero z)) ?_⟩
          simp only [List.length_append] at hlb
          refine ⟨_,rfl,_,rfl,_,rfl,H0,p,eb,e4,m,n,csb,one,two,LC,rfl,Wb,hLk,by omega,by omega,by omega,by omega,fun H4 W4=>?_⟩
          refine ⟨_,e4,_,LD,rfl,?_,W4,?_⟩
          · rw [e2',e3'];exact hI2
          · rw [←hcb];simp
        · have fin:∃(v3:Option V) (eb:E1.Tab) (csb:List Ch) (Lb:List (Bool×E1.RC)),[some (V.ref p),some (V.int (len:Nat)),some (V.int (one:Nat)),some (V.int (two:Nat))]=[some (.ref p),some (.int (len:Nat)),some (.int (one:Nat)),v3]∧E1.ChainI B one (len - (one+1) - (i+1)) (one+1+(i+1)) eb Lb e1∧WalkAt C H0 H3 p eb m n true csb∧csb++Lb.map toCh=csa++LA.map toCh:=by
            refine ⟨_,eb,csb,Lb,rfl,?_,Wb,hcb⟩
            rw [e2',e3'];exact hI2
          by_cases h0:eb two two=0
          · refine iteNS (by rw [h0]) (iteF ?_)
            exact fin
          · refine iteNN (v_ne h0) ?_
            have h1:=hnz h0
            refine Wb.cell X (iw:=0) (i:=3) (j:=3) rfl rfl rfl (by omega) (by omega) ?_
            have hd:eb one one∣eb two two:=by
              rcases Int.decEq ((eb two two).fmod (eb one one)) 0 with z | z
              · exact (hno ⟨h0,fun d=>z (Int.fmod_eq_zero_of_dvd d)⟩).elim
              · exact Int.dvd_of_fmod_eq_zero z
            refine Wb.cell X (iw:=0) (i:=2) (j:=2) rfl rfl rfl (by omega) (by omega) ⟨_,_,rfl,rfl,h1,rfl,_,rfl,iteNS (congrArg V.int (Int.fmod_eq_zero_of_dvd hd)) ?_⟩
            exact fin
      · rintro σ H3 ⟨v3,eb,csb,Lb,rfl,hIb,Wb,hcb⟩
        rw [Nat.sub_self] at hIb
        obtain ⟨_,rfl,rfl⟩:=hIb
        have e2':len - (one+1)=k':=sub_succ' hk'
        refine ⟨_,_,_,csb,LB,rfl,?_,Wb,?_⟩
        · rw [e2'];exact hO
        · have:csb=csa++LA.map toCh:=by simpa using hcb
          rw [this,←hcs];simp
    · rintro σ H2 ⟨v2,v3,ea,csa,La,rfl,hCa,Wa,hcs⟩
      have e2:len - ((len:Nat):Int).toNat=0:=by simp
      rw [e2] at hCa
      obtain ⟨_,rfl,rfl⟩:=hCa
      exact k H2 (by rw [←hcs];simpa using Wa)
inductive SpTurns (B:Nat) (C:Addr) (vs:List V) (H:Hp) (Q:VK):Prop
  | mk (H0:Hp) (p:Addr) (e e':E1.Tab) (m n:Nat) (cs:List Ch) (L:List (Bool×E1.RC)) (_:vs=[.ref p]) (_:WalkAt C H0 H p e m n true cs) (_:E1.Turns B (min m n) 0 e L e') (_:cs.length+L.length≤sizeLine) (_:∀H',WalkAt C H0 H' p e' m n true (cs++L.map toCh)→Q .non H'):SpTurns B C vs H Q
def spTurns (B:Nat) (C:Addr):Sp:=fun vs H Q _=>SpTurns B C vs H Q
theorem ok_q0n {B:Nat} (D:DefAt K mg "turn_up" s_q0n ["walk"]) (T:Bt mg) (X:WTxt K C) (C_q0i:Callee P w K mg base 1 "diagonal_length" ["rows"] spLen) (M_q1j:MCallee P w K mg base C 4 "turn_row" ["self","one"] (spTurnR B C)):Callee P w K mg base 5 "turn_up" ["walk"] (spTurns B C):=by
  refine D.ok (k:=4) sc_q0n (fun vs H Q E h=>?_) (fun f cdv A outer s H vs Q E hr h=>?_)
  · obtain ⟨_,_,_,_,_,_,_,_,rfl,_⟩:=h
    rfl
  · obtain ⟨H0,p,e,e',m,n,cs,L,rfl,W,hT,hz,k⟩:=h
    refine ⟨_,(pss_one (ps_for PassesOwn.never rfl (pi_range1 rfl T.range (pa_cons (pe_callC C_q0i (hr.mono (by decide)) rfl (pa_cons (pe_fld (pv 0) rfl) pa_nil)) pa_nil)) (pg_name (i:=1) sc_q0n.nd rfl (Or.inl rfl)) (pss_one (ps_if (pt_cmpR op_lt (pe_ix ix_list (pe_ix ix_list (pe_fld (pv 0) rfl) (pv 1) (fun _ _=>rfl)) (pv 1) (fun _ _=>rfl)) pe_int (nomark _)) (pss_one (ps_expr (pe_methC M_q1j (pv 0) (hr.mono (by decide)) (pa_cons (pv 1) pa_nil)))) pss_nil)))),?_⟩
    have hm1:=W.m1
    refine W.rows X (iw:=0) rfl fun a rs Tt hta hrt hent hnew=>⟨a,rs,Tt,m,n,rfl,hta,hrt,W.m0,?_⟩
    generalize hlen:min m n=len at hT ⊢
    have hlm:len≤m∧len≤n:=by omega
    refine ⟨_,rfl,by omega,by omega,?_⟩
    refine for_range0 (fun i σ H2=>∃(v1:Option V) (ea:E1.Tab) (csa:List Ch) (La:List (Bool×E1.RC)),σ=[some (.ref p),v1]∧E1.Turns B (len - i) i ea La e'∧WalkAt C H0 H2 p ea m n true csa∧csa++La.map toCh=cs++L.map toCh) ⟨none,e,cs,L,rfl,hT,W,rfl⟩ ?_ ?_
    · rintro i σ H2 hi ⟨v1,ea,csa,La,rfl,hTa,Wa,hcs⟩
      have hi':i<len:=by simpa using hi
      obtain ⟨k',hk'⟩:∃k',len - i=k'+1:=pred_sub hi'
      rw [hk'] at hTa
      obtain ⟨hle,hTa⟩:=hTa
      have hl1:csa.length+La.length=cs.length+L.length:=by
        have:=congrArg List.length hcs
        simpa using this
      have e2':len - (i+1)=k':=sub_succ' hk'
      refine Wa.cell X (iw:=0) (i:=1) (j:=1) rfl rfl rfl (by omega) (by omega) ⟨_,_,rfl,rfl,_,rfl,?_⟩
      rcases hTa with ⟨hneg,L2,hT2,rfl⟩ | ⟨hneg,hT2⟩
      · refine iteP hneg ?_
        obtain ⟨dx,a2,l2,hp⟩:=Wa.ob
        simp only [List.length_cons] at hl1
        refine ⟨_,rfl,p,dx,_,rfl,hp,(by first | exact no_q1k _ _ _ | exact no_q1g _ _ _ | exact no_q1h _ _ _ | exact no_q1i _ _ _ | exact no_q1m _ _ _ | exact no_q1l _ _ _ | exact no_q1j _ _ _),_,rfl,H0,p,ea,m,n,true,csa,i,rfl,Wa,by omega,hle,by omega,fun H3 W3=>?_⟩
        refine ⟨_,_,_,L2,rfl,?_,W3,?_⟩
        · rw [e2'];exact hT2
        · rw [←hcs];simp [tc]
      · refine iteN hneg ⟨_,_,_,La,rfl,?_,Wa,hcs⟩
        rw [e2'];exact hT2
    · rintro σ H2 ⟨v1,ea,csa,La,rfl,hTa,Wa,hcs⟩
      have e2:len - ((len:Nat):Int).toNat=0:=by simp
      rw [e2] at hTa
      obtain ⟨_,rfl,rfl⟩:=hTa
      exact k H2 (by rw [←hcs];simpa using Wa)
inductive SpBrought (B:Nat) (vs:List V) (H:Hp) (Q:VK):Prop
  | mk (a:Addr) (rs:List Addr) (T:Tb) (m n:Nat) (L:List (Bool×E1.RC)) (e':E1.Tab) (_:vs=[.ref a]) (_:TabAt H a rs T) (_:Rect m n T) (_:0<m) (_:0<n) (_:m≤1000) (_:n≤1000) (_:E1.BroughtR B m n (ent T) L e') (_:L.length≤sizeLine) (_:∀(p a2 l:Addr) (rs2 ts:List Addr) (T2:Tb) (H':Hp),Same H H'→H' p=some (.tup [.ref a2,.ref l])→TabAt H' a2 rs2 T2→Rect m n T2→ent T2=e'→IsChs H' l ts (L.map toCh)→(∀b∈a2::rs2,H b=none)→Q (.ref p) H'):SpBrought B vs H Q
def spBrought (B:Nat):Sp:=fun vs H Q _=>SpBrought B vs H Q
theorem ok_q0g {B:Nat} (D:DefAt K mg "brought" s_q0g ["table"]) (T:Bt mg) (X:WTxt K C) (C_q00:Callee P w K mg base 1 "refuse_no_table" ["table"] spRefT) (MK_Walk:Maker P w K mg base C 2 "Walk" ["self","table"] (spInit C)) (C_q0j:Callee P w K mg base 45 "build_both_stairs" ["walk"] (spBoth B C)) (C_q0k:Callee P w K mg base 1 "has_number_beside" ["rows"] spBeside) (C_q0l:Callee P w K mg base 44 "chain" ["walk"] (spChain B C)) (C_q0n:Callee P w K mg base 5 "turn_up" ["walk"] (spTurns B C)):Callee P w K mg base 46 "brought" ["table"] (spBrought B):=by
  refine D.ok (k:=45) sc_q0g (fun vs H Q E h=>?_) (fun f cdv A outer s H vs Q E hr h=>?_)
  · obtain ⟨_,_,_,_,_,_,_,rfl,_⟩:=h
    rfl
  · obtain ⟨a,rs,Tt,m,n,L,e',rfl,ht,hr',m0,n0,m1,n1,⟨L1,L2,e1,L3,e2,L4,e3,L5,b1,b2,b3,b4,rfl⟩,hz,k⟩:=h
    refine ⟨_,(pss_cons (ps_expr (pe_callC C_q00 (hr.mono (by decide)) rfl (pa_cons (pv 0) pa_nil)))
        (pss_cons (ps_set (i:=1) sc_q0g.nd rfl (Or.inl rfl) (pe_makeC MK_Walk (hr.mono (by decide)) rfl (pa_cons (pv 0) pa_nil)))
        (pss_cons (ps_expr (pe_callC C_q0j (hr.mono (by decide)) rfl (pa_cons (pv 1) pa_nil)))
        (pss_cons (ps_while PassesOwn.never (pt_val (pe_callC C_q0k (hr.mono (by decide)) rfl (pa_cons (pe_fld (pv 1) rfl) pa_nil))) (pss_one (ps_expr (pe_callC C_q0j (hr.mono (by decide)) rfl (pa_cons (pv 1) pa_nil)))))
        (pss_cons (ps_expr (pe_callC C_q0l (hr.mono (by decide)) rfl (pa_cons (pv 1) pa_nil)))
        (pss_cons (ps_expr (pe_callC C_q0n (hr.mono (by decide)) rfl (pa_cons (pv 1) pa_nil)))
        (pss_one (ps_ret (pe_tup (pa_cons (pe_fld (pv 1) rfl) (pa_cons (pe_fld (pv 1) rfl) pa_nil))))))))))),?_⟩
    obtain ⟨m',rfl⟩:∃m',m=m'+1:=⟨m - 1,by omega⟩
    obtain ⟨n',rfl⟩:∃n',n=n'+1:=⟨n - 1,by omega⟩
    simp only [List.length_append,List.length_map] at hz
    refine ⟨_,rfl,a,rs,Tt,m',n',rfl,ht,hr',?_⟩
    refine ⟨_,rfl,fun x dx hx hdx hne=>?_⟩
    have s0:Same H (upd (upd H dx (.own x)) x (.ins C dx [])):=fun b o eb=>by
      rw [upd_ne (ne_of_none eb hx),upd_ne (ne_of_none eb hdx)];exact eb
    refine ⟨H,x,dx,a,rs,Tt,_,_,rfl,upd_same,s0,hx,ht.same s0,hr',m0,n0,m1,n1,fun H1 W1=>⟨rfl,?_⟩⟩
    refine ⟨_,rfl,H,x,_,e1,_,_,[],L1,L2,rfl,W1,b1,by simp;omega,fun H2 W2=>?_⟩
    obtain ⟨N,hN⟩:=E1.roundsH_of b2
    have hz3:=hz
    refine ⟨fun M σ H3=>σ=[some (.ref a),some (.ref x)]∧∃(ea:E1.Tab) (csa:List Ch) (La:List (Bool×E1.RC)),E1.RoundsH B (m'+1) (n'+1) M ea La e2∧WalkAt C H H3 x ea (m'+1) (n'+1) true csa∧csa++La.map toCh=((L1.map (Prod.mk true)++L2.map (Prod.mk false))++L3).map toCh,⟨N,rfl,e1,_,L3,hN,W2,by simp⟩,?_⟩
    rintro M σ H3 ⟨rfl,ea,csa,La,hM,Wa,hcs⟩
    have hlen:csa.length+La.length=L1.length+L2.length+L3.length:=by
      have:=congrArg List.length hcs
      simp at this
      omega
    cases M with
    | zero=>exact absurd hM (by simp [E1.RoundsH])
    | succ M =>
    refine Wa.rows X (iw:=1) rfl fun a3 rs3 T3 hta3 hrt3 hent3 hnew3=>⟨a3,rs3,T3,_,_,rfl,hta3,hrt3,fun b H4 hb s4=>⟨_,rfl,?_⟩⟩
    rw [hent3] at hb
    have W4:=Wa.on s4
    rcases hM with ⟨hnb,rfl,rfl⟩ | ⟨hbe,e5,LA,LB,LC,hBo,hR,rfl⟩
    · have:b=false:=by
        cases b with
        | false=>rfl
        | true=>exact (hnb (hb.mp rfl)).elim
      subst this
      refine iteF ?_
      refine ⟨_,rfl,H,x,_,e3,_,_,csa,L4,rfl,W4,b3,by simp at hlen;omega,fun H5 W5=>?_⟩
      refine ⟨_,rfl,H,x,_,e',_,_,_,L5,rfl,W5,b4,by simp at hlen ⊢;omega,fun H6 W6=>?_⟩
      obtain ⟨dx6,a6,l6,rs6,ts6,T6,hp6,hta6,hr6,he6,hc6,hla6,hn6⟩:=W6.ex
      refine ⟨_,rfl,x,C,dx6,_,_,rfl,hp6,X.cl,X.nR,flds_rows _ _ _,_,rfl,x,C,dx6,_,_,rfl,hp6,X.cl,X.nC,flds_changes _ _ _,by show 2≤sizeLine;decide,fun p hp=>?_⟩
      have s7:Same H6 (upd H6 p (.tup [.ref a6,.ref l6])):=same_upd hp
      refine k p a6 l6 rs6 ts6 T6 _ (W6.same.trans s7) upd_same (hta6.same s7) hr6 he6 ?_ (fun b hb=>hn6 b (in2 hb))
      have hcs':csa=((L1.map (Prod.mk true)++L2.map (Prod.mk false))++L3).map toCh:=by simpa using hcs
      have ecs:((L1.map (Prod.mk true)++L2.map (Prod.mk false))++(L3++(L4++L5))).map toCh=csa++L4.map toCh++L5.map toCh:=by rw [hcs'];simp
      rw [ecs]
      exact hc6.same s7
    · have:b=true:=hb.mpr hbe
      subst this
      refine iteT ⟨fun σ' H'=>σ'=[some (.ref a),some (.ref x)]∧∃(ea:E1.Tab) (csa:List Ch) (La:List (Bool×E1.RC)),E1.RoundsH B (m'+1) (n'+1) M ea La e2∧WalkAt C H H' x ea (m'+1) (n'+1) true csa∧csa++La.map toCh=((L1.map (Prod.mk true)++L2.map (Prod.mk false))++L3).map toCh,fun σ' H' z=>⟨M,Nat.lt_succ_self _,z⟩,?_⟩
      simp only [List.length_append,List.length_map] at hlen
      refine ⟨_,rfl,H,x,ea,e5,_,_,csa,LA,LB,rfl,W4,hBo,by omega,fun H5 W5=>?_⟩
      exact ⟨rfl,e5,_,LC,hR,W5,by rw [←hcs];simp⟩
def dg (n:Nat) (e:E1.Tab):List Int:=(List.range n).map fun i=>e i i
inductive SpDiagonal (B:Nat) (vs:List V) (H:Hp) (Q:VK):Prop
  | mk (a:Addr) (rs:List Addr) (T:Tb) (m n:Nat) (L:List (Bool×E1.RC)) (e':E1.Tab) (_:vs=[.ref a]) (_:TabAt H a rs T) (_:Rect m n T) (_:0<m) (_:0<n) (_:m≤1000) (_:n≤1000) (_:E1.BroughtR B m n (ent T) L e') (_:L.length≤sizeLine) (_:∀(q:Addr) (H':Hp),Same H H'→H q=none→H' q=some (.lst ((dg (min m n) e').map V.int))→Q (.ref q) H'):SpDiagonal B vs H Q
def spDiagonal (B:Nat):Sp:=fun vs H Q _=>SpDiagonal B vs H Q
theorem dg_take {n i:Nat} {e:E1.Tab} (h:i<n):(dg n e).take (i+1)=(dg n e).take i++[e i i]:=by
  have:(dg n e)[i]?=some (e i i):=by
    unfold dg
    rw [List.getElem?_map,List.getElem?_range h];rfl
  rw [List.take_succ,this];rfl
theorem ok_q0h {B:Nat} (D:DefAt K mg "diagonal" s_q0h ["table"]) (T:Bt mg) (C_q0g:Callee P w K mg base 46 "brought" ["table"] (spBrought B)) (C_q0i:Callee P w K mg base 1 "diagonal_length" ["rows"] spLen):Callee P w K mg base 47 "diagonal" ["table"] (spDiagonal B):=by
  refine D.ok (k:=46) sc_q0h (fun vs H Q E h=>?_) (fun f cdv A outer s H vs Q E hr h=>?_)
  · obtain ⟨_,_,_,_,_,_,_,rfl,_⟩:=h
    rfl
  · obtain ⟨a,rs,Tt,m,n,L,e',rfl,ht,hr',m0,n0,m1,n1,hB,hz,k⟩:=h
    refine ⟨_,(pss_cons (ps_set (i:=1) sc_q0h.nd rfl (Or.inr rfl) (pe_ix ix_tup (pe_callC C_q0g (hr.mono (by decide)) rfl (pa_cons (pv 0) pa_nil)) pe_int (fun _ _=>rfl)))
        (pss_one (ps_ret (pe_comp (N:=["rows","place"]) (cap:=[1]) (k:=1) (CompScope.mk' (defScope s_q0h) ["table","rows"] rfl rfl (by decide +kernel)) rfl (pi_range1 rfl T.range (pa_cons (pe_callC C_q0i (hr.mono (by decide)) rfl (pa_cons (pv 1) pa_nil)) pa_nil)) (fun _ _ _ _=>(pg_name (i:=1) (show (["rows","place"]:List Str).Nodup by decide +kernel) rfl (Or.inl rfl))) (fun _ _ _ _=>(pe_ix (ix_listK (K:=K) rfl) (pe_ix (ix_listK (K:=K) rfl) (pv 0) (pv 1) (fun _ _=>rfl)) (pv 1) (fun _ _=>rfl))))))),?_⟩
    refine ⟨_,rfl,a,rs,Tt,m,n,L,e',rfl,ht,hr',m0,n0,m1,n1,hB,hz,fun p a2 l rs2 ts T2 H1 s1 hp ht2 hr2 he2 hc2 new=>?_⟩
    refine ⟨p,_,_,_,rfl,rfl,SqT.of hp,rfl,?_⟩
    refine ⟨_,rfl,a2,rs2,T2,m,n,rfl,ht2,hr2,m0,_,rfl,by omega,by omega,?_⟩
    refine comp_it (J:=Itr 0 _) (n:=min m n) (fun i ys H2=>H2=H1∧i≤min m n∧ys=((dg (min m n) e').take i).map V.int) (Nat.le_trans (by omega:min m n≤1000) (by decide)) ⟨rfl,Nat.zero_le _,by simp⟩ (fun i ys H2 ⟨_,hle,e⟩=>by rw [e,List.length_map,List.length_take];simp [dg];omega)
      (fun i ys H2 hi _=>by show i<Int.toNat _;simpa using hi) (fun ys H2 _=>by show Int.toNat _≤min m n;simp) ?_ ?_
    · rintro i x ys H2 H3 hi ⟨rfl,_,rfl⟩ ⟨rfl,hx0⟩
      obtain rfl:=z0 hx0
      obtain ⟨r,er,_,hrow,hlr⟩:=ht2.at hr2 (by omega:i<m)
      refine ⟨rfl,_,rfl,_,rfl,a2,_,_,_,rfl,rfl,SqL.of ht2.tab.1,atI_nat (rget er),_,rfl,r,_,_,_,rfl,rfl,SqL.of hrow,atI_nat (iget (getD_some hlr (by omega))),rfl,hi,?_⟩
      rw [dg_take hi,List.map_append,←he2];rfl
    · rintro ys H2 ⟨rfl,_,rfl⟩ q hq
      have e:(dg (min m n) e').take (min m n)=dg (min m n) e':=List.take_of_length_le (by simp [dg])
      rw [e]
      exact k q _ (s1.laid hq) (s1.free hq) upd_same
end
end X1
namespace X1
open PySem L2
section
variable {P:Program} {w:World} {K:PySem.W.Frag} {mg:Str→Option Value} {base:Heap}
def prodL (xs:List Int):Int:=xs.foldl (fun a x=>a*x) 1
theorem prodL_snoc (xs:List Int) (x:Int):prodL (xs++[x])=prodL xs*x:=by unfold prodL;rw [List.foldl_append];rfl
theorem prodL_le {c:Nat}:∀(n:Nat) (xs:List Int),xs.length=n→(∀x∈xs,x.natAbs≤2^c)→(prodL xs).natAbs≤2^(c*n)
  | 0,xs,hl,_=>by
    have:xs=[]:=List.length_eq_zero_iff.mp hl
    subst this;show (1:Int).natAbs≤2^(c*0);simp
  | n+1,xs,hl,h=>by
    obtain ⟨ys,y,rfl⟩:∃ys y,xs=ys++[y]:=⟨xs.dropLast,xs.getLast (by intro z;rw [z] at hl;simp at hl),(List.dropLast_concat_getLast _).symm⟩
    rw [prodL_snoc,Int.natAbs_mul,Nat.mul_add,Nat.pow_add,Nat.mul_one]
    exact Nat.mul_le_mul (prodL_le n ys (by simpa using hl) fun x hx=>h x (List.mem_append_left _ hx)) (h y (by simp))
inductive SpMult (vs:List V) (H:Hp) (Q:VK):Prop
  | mk (a:Addr) (xs:List Int) (_:vs=[.ref a]) (_:H a=some (.lst (xs.map V.int))) (_:xs.length≤16) (_:(∀x∈xs,x.natAbs≤2^1048576)) (_:Q (.int (prodL xs)) H):SpMult vs H Q
def spMult:Sp:=fun vs H Q _=>SpMult vs H Q
theorem ok_q0w (D:DefAt K mg "multiplied" s_q0w ["numbers"]) (T:Bt mg):Callee P w K mg base 1 "multiplied" ["numbers"] spMult:=by
  refine D.ok (k:=0) sc_q0w (fun vs H Q E h=>?_) (fun f cdv A outer s H vs Q E hr h=>?_)
  · obtain ⟨_,_,rfl,_⟩:=h
    rfl
  · obtain ⟨a,xs,rfl,ha,hl,hb,k⟩:=h
    refine ⟨_,(pss_cons (ps_set (i:=1) sc_q0w.nd rfl (Or.inl rfl) pe_int)
        (pss_cons (ps_for PassesOwn.never rfl (pi_list (pv 0)) (pg_name (i:=2) sc_q0w.nd rfl (Or.inl rfl)) (pss_one (ps_set (i:=1) sc_q0w.nd rfl (Or.inl rfl) (pe_op (op_mulB 33554432 (by decide)) (pv 1) (pv 2)))))
        (pss_one (ps_ret (pv 1))))),?_⟩
    refine ⟨_,rfl,a,rfl,⟨_,SqL.of ha⟩,for_list (K:=K) (a:=a) (xs:=xs.map V.int) (fun i σ H2=>H2=H∧∃v,σ=[some (.ref a),some (.int (prodL (xs.take i))),v]) ⟨rfl,none,rfl⟩ (fun i σ H2 _ h=>by rw [h.1];exact SqL.of ha) ?_ ?_⟩
    · rintro i y σ H2 hy ⟨rfl,v,rfl⟩
      obtain ⟨u,eu,rfl⟩:=mint hy
      have hi:i<xs.length:=(List.getElem?_eq_some_iff.mp eu).1
      have e:xs.take (i+1)=xs.take i++[u]:=by rw [List.take_succ,eu];rfl
      have b1:(prodL (xs.take i)).natAbs≤2^33554432:=by
        have h1:=prodL_le (c:=1048576) (xs.take i).length (xs.take i) rfl fun x hx=>hb x (List.mem_of_mem_take hx)
        refine Nat.le_trans h1 (Nat.pow_le_pow_right (by decide) ?_)
        have h2:(xs.take i).length≤16:=by rw [List.length_take];omega
        exact Nat.le_trans (Nat.mul_le_mul_left 1048576 h2) (by decide)
      have b2:u.natAbs≤2^33554432:=Nat.le_trans (hb u (List.mem_of_getElem? eu)) (Nat.pow_le_pow_right (by decide) (by decide))
      refine ⟨_,rfl,_,rfl,_,_,rfl,rfl,⟨b1,b2⟩,rfl,some (.int u),?_⟩
      rw [e,prodL_snoc]
      rfl
    · rintro σ H2 ⟨rfl,v,rfl⟩
      rw [List.length_map,List.take_length]
      exact ⟨_,rfl,k⟩
inductive SpGcd (vs:List V) (H:Hp) (Q:VK):Prop
  | mk (m n:Nat) (_:vs=[.int m,.int n]) (_:Q (.int (Nat.gcd m n:Nat)) H):SpGcd vs H Q
def spGcd:Sp:=fun vs H Q _=>SpGcd vs H Q
theorem ok_q0x (D:DefAt K mg "greatest_into_both" s_q0x ["one","two"]) (T:Bt mg):Callee P w K mg base 1 "greatest_into_both" ["one","two"] spGcd:=by
  refine D.ok (k:=0) sc_q0x (fun vs H Q E h=>?_) (fun f cdv A outer s H vs Q E hr h=>?_)
  · obtain ⟨_,_,rfl,_⟩:=h
    rfl
  · obtain ⟨m,n,rfl,k⟩:=h
    refine ⟨_,(pss_cons (ps_while PassesOwn.never (pt_cmpR op_ne (pv 1) pe_int (nomark _)) (pss_cons (ps_set (i:=2) sc_q0x.nd rfl (Or.inl rfl) (pe_op op_mod (pv 0) (pv 1)))
        (pss_cons (ps_set (i:=0) sc_q0x.nd rfl (Or.inl rfl) (pv 1))
        (pss_one (ps_set (i:=1) sc_q0x.nd rfl (Or.inl rfl) (pv 2))))))
        (pss_one (ps_ret (pv 0)))),?_⟩
    refine ⟨fun M σ H2=>H2=H∧∃(a:Nat) (v:Option V),σ=[some (.int a),some (.int M),v]∧Nat.gcd a M=Nat.gcd m n,⟨n,rfl,m,none,rfl,rfl⟩,?_⟩
    rintro M σ H2 ⟨rfl,a,v,rfl,hg⟩
    refine ⟨_,rfl,rfl,_,rfl,?_⟩
    by_cases h0:M=0
    · refine iteNS (by rw [h0];rfl) ⟨_,rfl,?_⟩
      rw [h0,Nat.gcd_zero_right] at hg
      rw [hg];exact k
    · refine iteNN (v_ne (by omega)) ⟨fun σ' H'=>H'=H2∧∃(v:Option V),σ'=[some (.int M),some (.int (a % M:Nat)),v],fun σ' H' ⟨z1,v',z2⟩=>⟨a % M,Nat.mod_lt _ (by omega),z1,M,v',z2,?_⟩,?_⟩
      · rw [←hg,Nat.gcd_comm a M,Nat.gcd_comm M (a % M)];exact (Nat.gcd_rec M a).symm
      · have e:((a:Int) % (M:Int))=((a % M:Nat):Int):=by omega
        have e2:V.int ((a:Int) % (M:Int))=V.int ((a % M:Nat):Int):=congrArg V.int e
        refine ⟨_,rfl,_,rfl,_,_,rfl,rfl,by show (0:Int)<M;omega,_,rfl,_,rfl,rfl,some (.int ((a % M:Nat):Int)),?_⟩
        exact congrArg (fun z=>[some (V.int (M:Int)),some z,some z]) e2
def hm (n:Nat) (xs:List Int):Int:=prodL (xs.map fun x=>((n / Nat.gcd n x.natAbs:Nat):Int))
inductive SpHowMany (vs:List V) (H:Hp) (Q:VK):Prop
  | mk (a:Addr) (rs:List Addr) (T:Tb) (m n N:Nat) (L:List (Bool×E1.RC)) (e':E1.Tab) (_:vs=[.ref a,.int N]) (_:TabAt H a rs T) (_:Rect m n T) (_:0<m) (_:0<n) (_:m≤16) (_:n≤16) (_:0<N) (_:N≤2^1048576) (_:E1.BroughtR 1048576 m n (ent T) L e') (_:L.length≤sizeLine) (_:(∀i,0≤e' i i)) (_:∀(H':Hp),Same H H'→Q (.int (hm N (dg (min m n) e'))) H'):SpHowMany vs H Q
def spHowMany:Sp:=fun vs H Q _=>SpHowMany vs H Q
theorem ok_q0v (hse:base.NoSeer) (htr:P.given.tree=none) (D:DefAt K mg "how_many" s_q0v ["table","number"]) (T:Bt mg) (C_q00:Callee P w K mg base 1 "refuse_no_table" ["table"] spRefT) (C_q0h:Callee P w K mg base 47 "diagonal" ["table"] (spDiagonal 1048576)) (C_q0w:Callee P w K mg base 1 "multiplied" ["numbers"] spMult) (C_q0x:Callee P w K mg base 1 "greatest_into_both" ["one","two"] spGcd):Callee P w K mg base 48 "how_many" ["table","number"] spHowMany:=by
  refine D.ok (k:=47) sc_q0v (fun vs H Q E h=>?_) (fun f cdv A outer s H vs Q E hr h=>?_)
  · obtain ⟨_,_,_,_,_,_,_,_,rfl,_⟩:=h
    rfl
  · obtain ⟨a,rs,Tt,m,n,N,L,e',rfl,ht,hr',m0,n0,m1,n1,N0,N1,hB,hz,hnn,k⟩:=h
    refine ⟨_,(pss_cons (ps_expr (pe_callC C_q00 (hr.mono (by decide)) rfl (pa_cons (pv 0) pa_nil)))
        (pss_cons (ps_if (pt_cmpR op_lt (pv 1) pe_int (nomark _)) (pss_one ps_never) pss_nil)
        (pss_one (ps_ret (pe_callC C_q0w (hr.mono (by decide)) rfl (pa_cons (pe_comp (N:=["number","other"]) (cap:=[1]) (k:=1) (CompScope.mk' (defScope s_q0v) ["table","number"] rfl rfl (by decide +kernel)) rfl (pi_list (pe_callC C_q0h (hr.mono (by decide)) rfl (pa_cons (pv 0) pa_nil))) (fun _ _ _ _=>(pg_name (i:=1) (show (["number","other"]:List Str).Nodup by decide +kernel) rfl (Or.inl rfl))) (fun _ _ _ _=>(pe_op (op_fdivC hse htr hr (by decide) ⟨_,_,rfl,rfl,rfl,rfl,rfl⟩) (pv 0) (pe_callC C_q0x (hr.mono (by decide)) rfl (pa_cons (pv 0) (pa_cons (pv 1) pa_nil)))))) pa_nil)))))),?_⟩
    obtain ⟨m',rfl⟩:∃m',m=m'+1:=⟨m - 1,by omega⟩
    obtain ⟨n',rfl⟩:∃n',n=n'+1:=⟨n - 1,by omega⟩
    refine ⟨_,rfl,a,rs,Tt,m',n',rfl,ht,hr',?_⟩
    refine ⟨_,rfl,_,_,rfl,rfl,_,rfl,iteN (by omega) ?_⟩
    refine ⟨_,rfl,a,rs,Tt,_,_,L,e',rfl,ht,hr',m0,n0,by omega,by omega,hB,hz,fun q H1 s1 _ hq=>?_⟩
    generalize hxs:dg (min (m'+1) (n'+1)) e'=xs at hq k
    have hxl:xs.length≤16:=by rw [←hxs];simp [dg];omega
    have hxn:∀x∈xs,0≤x:=fun x hx=>by
      rw [←hxs] at hx
      obtain ⟨i,_,rfl⟩:=List.mem_map.mp hx
      exact hnn i
    refine ⟨q,rfl,⟨_,SqL.of hq⟩,comp_list (K:=K) (a:=q) (xs:=xs.map V.int) (fun i ys H2=>H2=H1∧i≤xs.length∧ys=((xs.map fun x=>((N / Nat.gcd N x.natAbs:Nat):Int)).take i).map V.int) (by rw [List.length_map];exact Nat.le_trans hxl (by decide)) ⟨rfl,Nat.zero_le _,by simp⟩ (fun i ys H2 ⟨_,hle,e⟩=>by rw [e,List.length_map,List.length_take,List.length_map];omega) (fun i ys H2 _ ⟨e,_,_⟩=>by rw [e];exact SqL.of hq) ?_ ?_⟩
    · rintro i x ys H2 hx ⟨rfl,_,rfl⟩
      obtain ⟨u,eu,rfl⟩:=mint hx
      have hu:=hxn u (List.mem_of_getElem? eu)
      obtain ⟨v,rfl⟩:=Int.eq_ofNat_of_zero_le hu
      have hg:(Nat.gcd N v:Int)≠0:=by
        have:=Nat.gcd_pos_of_pos_left v N0
        omega
      refine ⟨rfl,_,rfl,_,rfl,_,rfl,N,v,rfl,_,_,rfl,rfl,hg,rfl,(List.getElem?_eq_some_iff.mp eu).1,?_⟩
      have e1:(N:Int).fdiv (Nat.gcd N v:Int)=((N / Nat.gcd N v:Nat):Int):=by
        rw [Int.fdiv_eq_ediv_of_nonneg _ (by omega)];rfl
      dsimp only
      rw [e1,take_map (f:=fun x=>((N / Nat.gcd N x.natAbs:Nat):Int)) eu,List.map_append];rfl
    · rintro ys H2 ⟨rfl,_,rfl⟩ p hp
      have e:((xs.map fun x=>((N / Nat.gcd N x.natAbs:Nat):Int)).take (xs.map V.int).length)=xs.map fun x=>((N / Nat.gcd N x.natAbs:Nat):Int):=List.take_of_length_le (by rw [List.length_map,List.length_map];exact Nat.le_refl _)
      rw [e]
      refine ⟨p,_,rfl,upd_same,by rw [List.length_map];exact hxl,fun x hx=>?_,k _ (s1.laid hp)⟩
      obtain ⟨y,_,rfl⟩:=List.mem_map.mp hx
      exact Nat.le_trans (Nat.div_le_self _ _) N1
inductive SpClasses (vs:List V) (H:Hp) (Q:VK):Prop
  | mk (a:Addr) (rs:List Addr) (T:Tb) (m n:Nat) (L:List (Bool×E1.RC)) (e':E1.Tab) (_:vs=[.ref a]) (_:TabAt H a rs T) (_:Rect m n T) (_:0<m) (_:0<n) (_:m≤16) (_:n≤16) (_:E1.BroughtR 1048576 m n (ent T) L e') (_:L.length≤sizeLine) (_:E1.Le 1048576 e') (_:∀(H':Hp),Same H H'→Q (if m<n∨(0:Int)∈dg (min m n) e' then .non else .int (prodL (dg (min m n) e'))) H'):SpClasses vs H Q
def spClasses:Sp:=fun vs H Q _=>SpClasses vs H Q
theorem inV_ints (xs:List Int) (i:Int):inV (V.int i) (xs.map V.int)=decide (i∈xs):=by
  induction xs with
  | nil=>rfl
  | cons x xs ih =>
    have e:inV (V.int i) ((x::xs).map V.int)=(x == i||inV (V.int i) (xs.map V.int)):=rfl
    rw [e,ih]
    by_cases h:x=i
    · subst h;simp
    · have h2:¬ i=x:=fun z=>h z.symm
      simp [h,h2]
theorem ok_q0u (D:DefAt K mg "classes" s_q0u ["table"]) (T:Bt mg) (C_q0h:Callee P w K mg base 47 "diagonal" ["table"] (spDiagonal 1048576)) (C_q0w:Callee P w K mg base 1 "multiplied" ["numbers"] spMult):Callee P w K mg base 48 "classes" ["table"] spClasses:=by
  refine D.ok (k:=47) sc_q0u (fun vs H Q E h=>?_) (fun f cdv A outer s H vs Q E hr h=>?_)
  · obtain ⟨_,_,_,_,_,_,_,rfl,_⟩:=h
    rfl
  · obtain ⟨a,rs,Tt,m,n,L,e',rfl,ht,hr',m0,n0,m1,n1,hB,hz,hle,k⟩:=h
    refine ⟨_,(pss_cons (ps_set (i:=1) sc_q0u.nd rfl (Or.inl rfl) (pe_callC C_q0h (hr.mono (by decide)) rfl (pa_cons (pv 0) pa_nil)))
        (pss_cons (ps_if (PW.pt (pw_or (pt_cmpR op_lt (pe_callB call_len_seq rfl T.len bt_len (pa_cons (pv 0) pa_nil)) (pe_callB call_len_seq rfl T.len bt_len (pa_cons (pe_ix ix_list (pv 0) pe_int (fun _ _=>rfl)) pa_nil)) (nomark _)) (pw_or1 (pt_cmpR op_in_seq pe_int (pv 1) rfl)))) (pss_one (ps_ret pe_non)) pss_nil)
        (pss_one (ps_ret (pe_callC C_q0w (hr.mono (by decide)) rfl (pa_cons (pv 1) pa_nil)))))),?_⟩
    refine ⟨_,rfl,a,rs,Tt,m,n,L,e',rfl,ht,hr',m0,n0,by omega,by omega,hB,hz,fun q H1 s1 _ hq=>?_⟩
    generalize hxs:dg (min m n) e'=xs at hq k
    have hxl:xs.length≤16:=by rw [←hxs];simp [dg];omega
    have hxb:∀x∈xs,x.natAbs≤2^1048576:=fun x hx=>by
      rw [←hxs] at hx
      obtain ⟨i,_,rfl⟩:=List.mem_map.mp hx
      exact hle i i
    have ht1:=ht.same s1
    have h1:=ht1.tab.1
    have hl:=ht1.len hr'
    obtain ⟨r0,e0,_,hr0,hl0⟩:=ht1.at hr' m0
    refine ⟨_,rfl,a,_,rfl,.inl (SqL.of h1),_,rfl,a,_,_,_,rfl,rfl,SqL.of h1,atI_nat (j:=0) (rget e0),r0,_,rfl,.inl (SqL.of hr0),_,_,rfl,rfl,_,rfl,?_⟩
    rw [List.length_map,List.length_map,hl,hl0]
    by_cases hmn:m<n
    · have:=k H1 s1
      rw [if_pos (.inl hmn)] at this
      exact iteP (by omega) (iteT this)
    · refine iteN (by omega) ⟨_,rfl,q,_,rfl,.inl (SqL.of hq),rfl,?_,_,rfl,?_⟩
      · rw [List.all_eq_true]
        intro x hx
        obtain ⟨y,_,rfl⟩:=List.mem_map.mp hx
        rfl
      · by_cases h0:(0:Int)∈xs
        · have:=k H1 s1
          rw [if_pos (.inr h0)] at this
          refine iteB (by rw [if_neg (by decide),inV_ints];exact decide_eq_true h0) this
        · have:=k H1 s1
          rw [if_neg (fun z=>z.elim hmn h0)] at this
          refine iteB0 (by rw [if_neg (by decide),inV_ints];exact decide_eq_false h0) ⟨_,rfl,q,xs,rfl,hq,hxl,hxb,this⟩
end
end X1
namespace X1
open PySem L2
theorem CopyAt.on {H H2 H3:Hp} {qs:List Addr} {T:Tb} (c:CopyAt H H2 qs T) (s:Same H2 H3):CopyAt H H3 qs T:=⟨c.same.trans s,c.rows.imp fun r hr o e=>s _ _ e,c.nd,c.new⟩
def tallyL (n p:Nat):List Int:=(List.range n).map fun o=>if o=p then 1 else 0
theorem tally_take {n p i:Nat} (hi:i<n):(tallyL n p).take (i+1)=(tallyL n p).take i++[if i=p then 1 else 0]:=by
  have e:(tallyL n p)[i]?=some (if i=p then 1 else 0):=by
    unfold tallyL
    rw [List.getElem?_map,List.getElem?_range hi];rfl
  rw [List.take_succ,e];rfl
theorem tally_len (n p:Nat):(tallyL n p).length=n:=by simp [tallyL]
theorem tally_getD (n p y:Nat):(tallyL n p).getD y 0=if y<n∧y=p then 1 else 0:=by
  unfold tallyL
  rw [List.getD_eq_getElem?_getD,List.getElem?_map]
  by_cases hy:y<n
  · rw [List.getElem?_range hy]
    show (if y=p then (1:Int) else 0)=_
    by_cases h:y=p
    · rw [if_pos h,if_pos ⟨hy,h⟩]
    · rw [if_neg h,if_neg (fun z=>h z.2)]
  · rw [List.getElem?_eq_none (by simp;omega),if_neg (fun z=>hy z.1)];rfl
def talB (m:Nat) (T:Tb):Tb:=(List.range m).map fun x=>T.getD x []++tallyL m x
theorem talB_take {m i:Nat} {T:Tb} (hi:i<m):(talB m T).take (i+1)=(talB m T).take i++[T.getD i []++tallyL m i]:=by
  have e:(talB m T)[i]?=some (T.getD i []++tallyL m i):=by
    unfold talB
    rw [List.getElem?_map,List.getElem?_range hi];rfl
  rw [List.take_succ,e];rfl
theorem talB_rect {m n:Nat} {T:Tb} (h:Rect m n T):Rect m (n+m) (talB m T):=by
  refine ⟨by simp [talB],fun r hr=>?_⟩
  obtain ⟨x,hx,rfl⟩:=List.mem_map.mp hr
  rw [List.length_append,tally_len,h.row (by simpa using hx)]
theorem ent_talB {m n:Nat} {T:Tb} (h:Rect m n T):ent (talB m T)=E1.tal n (ent T) m:=by
  funext x y
  unfold E1.tal
  by_cases hx:x<m
  · have e:(talB m T).getD x []=T.getD x []++tallyL m x:=by
      unfold talB
      rw [List.getD_eq_getElem?_getD,List.getElem?_map,List.getElem?_range hx];rfl
    have e2:ent (talB m T) x y=(T.getD x []++tallyL m x).getD y 0:=by unfold ent;rw [e]
    rw [e2]
    by_cases hy:y<n
    · rw [if_pos hy,List.getD_eq_getElem?_getD,List.getElem?_append_left (by rw [h.row hx];exact hy),←List.getD_eq_getElem?_getD];rfl
    · rw [if_neg hy,List.getD_eq_getElem?_getD,List.getElem?_append_right (by rw [h.row hx];omega),←List.getD_eq_getElem?_getD,h.row hx,tally_getD]
      by_cases hz:y=n+x
      · rw [if_pos ⟨by omega,by omega⟩,if_pos ⟨hx,hz⟩]
      · rw [if_neg (by omega),if_neg (fun z=>hz z.2)]
  · rw [ent_out_row (talB_rect h) (by omega),ent_out_row h (by omega)]
    split
    · rfl
    · rw [if_neg (fun z=>hx z.1)]
theorem lessV_succ (e:E1.Tab) (st:List Nat):∀(k t:Nat) (v:E1.Vc),E1.lessV e st t (k+1) v=fun y=>E1.lessV e st t k v y - (E1.lessV e st t k v (E1.sat st (t+k))).fdiv (e (t+k) (E1.sat st (t+k)))*e (t+k) y
  | 0,t,v=>rfl
  | k+1,t,v=>by
    have h:=lessV_succ e st k (t+1) (fun y=>v y - (v (E1.sat st t)).fdiv (e t (E1.sat st t))*e t y)
    have e1:t+1+k=t+(k+1):=by omega
    rw [e1] at h
    exact h
section
variable {P:Program} {w:World} {K:PySem.W.Frag} {mg:Str→Option Value} {base:Heap} {C:Addr}
inductive SpTally (vs:List V) (H:Hp) (Q:VK):Prop
  | mk (n p:Nat) (_:vs=[.int n,.int p]) (_:n≤1000) (_:∀q,H q=none→Q (.ref q) (upd H q (.lst ((tallyL n p).map V.int)))):SpTally vs H Q
def spTally:Sp:=fun vs H Q _=>SpTally vs H Q
theorem ok_q0s (D:DefAt K mg "tally_of_one" s_q0s ["total","place"]) (T:Bt mg):Callee P w K mg base 1 "tally_of_one" ["total","place"] spTally:=by
  refine D.ok (k:=0) sc_q0s (fun vs H Q E h=>?_) (fun f cdv A outer s H vs Q E hr h=>?_)
  · obtain ⟨_,_,rfl,_⟩:=h
    rfl
  · obtain ⟨n,p,rfl,hn,k⟩:=h
    refine ⟨_,(pss_one (ps_ret (pe_comp (N:=["place","other"]) (cap:=[1]) (k:=1) (CompScope.mk' (defScope s_q0s) ["total","place"] rfl rfl (by decide +kernel)) rfl (pi_range1 rfl T.range (pa_cons (pv 0) pa_nil)) (fun _ _ _ _=>(pg_name (i:=1) (show (["place","other"]:List Str).Nodup by decide +kernel) rfl (Or.inl rfl))) (fun _ _ _ _=>(pe_ifExp (pt_cmpR op_eq (pv 1) (pv 0) (nomark _)) pe_int pe_int))))),?_⟩
    refine ⟨_,rfl,_,rfl,by omega,by omega,?_⟩
    refine comp_it (J:=Itr 0 _) (n:=n) (fun i ys H2=>H2=H∧i≤n∧ys=((tallyL n p).take i).map V.int) (Nat.le_trans hn (by decide)) ⟨rfl,Nat.zero_le _,by simp⟩ (fun i ys H2 ⟨_,hle,e⟩=>by rw [e,List.length_map,List.length_take,tally_len];omega)
      (fun i ys H2 hi _=>by show i<Int.toNat _;simpa using hi) (fun ys H2 _=>by show Int.toNat _≤n;simp) ?_ ?_
    · rintro i x ys H2 H3 hi ⟨rfl,_,rfl⟩ ⟨rfl,hx0⟩
      obtain rfl:=z0 hx0
      refine ⟨rfl,_,rfl,_,rfl,rfl,_,rfl,?_⟩
      by_cases h:i=p
      · refine iteP (by rw [h]) ⟨rfl,hi,?_⟩
        rw [tally_take hi,if_pos h,List.map_append];rfl
      · refine iteN (v_ne (by omega)) ⟨rfl,hi,?_⟩
        rw [tally_take hi,if_neg h,List.map_append];rfl
    · rintro ys H2 ⟨rfl,_,rfl⟩ q hq
      have e:(tallyL n p).take n=tallyL n p:=List.take_of_length_le (by rw [tally_len];exact Nat.le_refl _)
      rw [e]
      exact k q hq
inductive SpTallied (vs:List V) (H:Hp) (Q:VK):Prop
  | mk (a:Addr) (rs:List Addr) (T:Tb) (m n:Nat) (_:vs=[.ref a]) (_:TabAt H a rs T) (_:Rect m n T) (_:m≤1000) (_:n≤1000) (_:∀(p:Addr) (qs:List Addr) (H':Hp),Same H H'→TabAt H' p qs (talB m T)→(∀b∈p::qs,H b=none)→Q (.ref p) H'):SpTallied vs H Q
def spTallied:Sp:=fun vs H Q _=>SpTallied vs H Q
theorem ok_q0r (D:DefAt K mg "tallied" s_q0r ["table"]) (T:Bt mg) (C_q0s:Callee P w K mg base 1 "tally_of_one" ["total","place"] spTally):Callee P w K mg base 2 "tallied" ["table"] spTallied:=by
  refine D.ok (k:=1) sc_q0r (fun vs H Q E h=>?_) (fun f cdv A outer s H vs Q E hr h=>?_)
  · obtain ⟨_,_,_,_,_,rfl,_⟩:=h
    rfl
  · obtain ⟨a,rs,Tt,m,n,rfl,ht,hr',hm,hn,k⟩:=h
    refine ⟨_,(pss_one (ps_ret (pe_comp (N:=["table","place","row"]) (cap:=[0]) (k:=2) (CompScope.mk' (defScope s_q0r) ["table"] rfl rfl (by decide +kernel)) rfl (pi_enum rfl T.enumerate (pa_cons (pv 0) pa_nil)) (fun _ _ _ _=>(pg_tupK (K:=K) (n:=2) rfl rfl (pgs_cons (pg_name (i:=1) (show (["table","place","row"]:List Str).Nodup by decide +kernel) rfl (Or.inl rfl)) (pgs_cons (pg_name (i:=2) (show (["table","place","row"]:List Str).Nodup by decide +kernel) rfl (Or.inl rfl)) pgs_nil)))) (fun _ _ _ _=>(pe_op op_cat (pv 2) (pe_callC C_q0s (hr.mono (by decide)) rfl (pa_cons (pe_callB (call_len_seqK (K:=K) rfl) rfl T.len bt_len (pa_cons (pv 0) pa_nil)) (pa_cons (pv 1) pa_nil)))))))),?_⟩
    have h1:=ht.tab.1
    have hl:=ht.len hr'
    refine ⟨_,rfl,a,_,rfl,SqL.of h1,?_⟩
    refine comp_it (J:=Ite K a) (n:=m) (fun i ys H2=>∃qs,ys=qs.map V.ref∧qs.length=i∧i≤m∧CopyAt H H2 qs ((talB m Tt).take i)) (Nat.le_trans hm (by decide)) ⟨[],rfl,rfl,Nat.zero_le _,by simpa using CopyAt.start H⟩ (fun i ys H2 ⟨qs,e,e2,_⟩=>by rw [e,List.length_map,e2])
      (fun i ys H2 hi ⟨_,_,_,_,c⟩=>⟨_,SqL.of (c.same _ _ h1),by rw [List.length_map,hl];exact hi⟩) (fun ys H2 ⟨_,_,_,_,c⟩=>⟨_,SqL.of (c.same _ _ h1),by rw [List.length_map,hl];exact Nat.le_refl _⟩) ?_ ?_
    · rintro i x ys H2 H3 hi ⟨qs,rfl,hq,_,c⟩ ⟨q,u,rfl,hqn,rfl,hu⟩
      obtain ⟨r,er,rfl⟩:=mref (hu _ (SqL.of (c.same _ _ h1)))
      obtain ⟨r',er',_,hrow,hlr⟩:=ht.at hr' hi
      rw [er] at er';cases er'
      have c1:=c.on (same_upd (o:=.tup [.int (i:Nat),.ref r]) hqn)
      refine ⟨q,_,rfl,SqT.of upd_same,rfl,_,_,rfl,_,_,rfl,rfl,rfl,?_⟩
      generalize upd H2 q (.tup [.int (i:Nat),.ref r])=H4 at c1 ⊢
      refine ⟨_,rfl,_,rfl,a,_,rfl,.inl (SqL.of (c1.same _ _ h1)),_,rfl,?_⟩
      rw [List.length_map,hl]
      refine ⟨m,i,rfl,hm,fun q2 hq2=>?_⟩
      have c2:=c1.on (same_upd (o:=.lst ((tallyL m i).map V.int)) hq2)
      have hq2':(upd H4 q2 (.lst ((tallyL m i).map V.int))) q2=some (.lst ((tallyL m i).map V.int)):=upd_same
      generalize upd H4 q2 (.lst ((tallyL m i).map V.int))=H5 at c2 hq2' ⊢
      refine ⟨r,q2,_,_,rfl,rfl,c2.same _ _ hrow,hq2',by rw [List.length_map,List.length_map,hlr,tally_len];exact Nat.le_trans (by omega:n+m≤2000) (by decide),fun p hp=>?_⟩
      refine ⟨qs++[p],by rw [List.map_append];rfl,by rw [List.length_append,hq];rfl,hi,?_⟩
      rw [talB_take hi,←List.map_append]
      exact c2.more hp
    · rintro ys H2 ⟨qs,rfl,hq,_,c⟩ p hp
      have e:(talB m Tt).take m=talB m Tt:=List.take_of_length_le (by simp [talB])
      rw [e] at c
      obtain ⟨q1,q2,q3⟩:=c.done hp
      exact k p qs _ q1 q2 q3
def rowF (row:List Int):E1.Vc:=fun y=>row.getD y 0
inductive SpLessSt (C:Addr) (vs:List V) (H:Hp) (Q:VK):Prop
  | mk (a r:Addr) (rs:List Addr) (T:Tb) (row:List Int) (m n:Nat) (L:List E1.RC) (st:List Nat) (e':E1.Tab) (_:vs=[.ref a,.ref r]) (_:TabAt H a rs T) (_:Rect m n T) (_:IsRow H r row) (_:row.length=n) (_:0<m) (_:0<n) (_:m≤1000) (_:n≤1000) (_:E1.Build 1048576 n m 0 [] (ent T) L st e') (_:E1.Stairs e' st n m) (_:L.length≤sizeLine) (_:E1.Le 1048576 e') (_:(∀t y,t≤st.length→(E1.lessV e' st 0 t (rowF row) y).natAbs≤2^1048576)) (_:∀(p:Addr) (row':List Int) (H':Hp),Same H H'→IsRow H' p row'→row'.length=n→(∀y,y<n→rowF row' y=E1.lessV e' st 0 st.length (rowF row) y)→Q (.ref p) H'):SpLessSt C vs H Q
def spLessSt (C:Addr):Sp:=fun vs H Q _=>SpLessSt C vs H Q
theorem ok_q0t (hse:base.NoSeer) (htr:P.given.tree=none) (D:DefAt K mg "less_the_stairs" s_q0t ["table","row"]) (T:Bt mg) (X:WTxt K C) (MK_Walk:Maker P w K mg base C 2 "Walk" ["self","table"] (spInit C)) (C_q0b:Callee P w K mg base 44 "build_stairs" ["walk"] (spBuild 1048576 C)):Callee P w K mg base 45 "less_the_stairs" ["table","row"] (spLessSt C):=by
  refine D.ok (k:=44) sc_q0t (fun vs H Q E h=>?_) (fun f cdv A outer s H vs Q E hr h=>?_)
  · obtain ⟨_,_,_,_,_,_,_,_,_,_,rfl,_⟩:=h
    rfl
  · obtain ⟨a,r,rs,Tt,row,m,n,L,st,e',rfl,ht,hr',hrow,hrl,m0,n0,m1,n1,hB,hs,hz,hle,hle2,k⟩:=h
    refine ⟨_,(pss_cons (ps_set (i:=2) sc_q0t.nd rfl (Or.inl rfl) (pe_makeC MK_Walk (hr.mono (by decide)) rfl (pa_cons (pv 0) pa_nil)))
        (pss_cons (ps_set (i:=3) sc_q0t.nd rfl (Or.inl rfl) (pv 1))
        (pss_cons (ps_for PassesOwn.never rfl (pi_enum rfl T.enumerate (pa_cons (pe_callC C_q0b (hr.mono (by decide)) rfl (pa_cons (pv 2) pa_nil)) pa_nil)) (pg_tup (n:=2) rfl (pgs_cons (pg_name (i:=4) sc_q0t.nd rfl (Or.inl rfl)) (pgs_cons (pg_name (i:=5) sc_q0t.nd rfl (Or.inl rfl)) pgs_nil))) (pss_cons (ps_set (i:=6) sc_q0t.nd rfl (Or.inl rfl) (pe_ix ix_list (pe_fld (pv 2) rfl) (pv 4) (fun _ _=>rfl)))
        (pss_cons (ps_set (i:=7) sc_q0t.nd rfl (Or.inr rfl) (pe_op (op_fdivB hse htr hr (by decide) rfl rfl ⟨_,rfl⟩) (pe_ix ix_list (pv 3) (pv 5) (fun _ _=>rfl)) (pe_ix ix_list (pv 6) (pv 5) (fun _ _=>rfl))))
        (pss_one (ps_setComp (i:=3) sc_q0t.nd rfl (Or.inl rfl) (N:=["times","number","other"]) (cap:=[7]) (k:=2) (CompScope.mk' (defScope s_q0t) ["table","row","walk","rest","top","place","stair","times"] rfl rfl (by decide +kernel)) rfl (pi_zip rfl T.zip (pa_cons (pv 3) (pa_cons (pv 6) pa_nil))) (fun _ _ _ _=>(pg_tupK (K:=K) (n:=2) rfl rfl (pgs_cons (pg_name (i:=1) (show (["times","number","other"]:List Str).Nodup by decide +kernel) rfl (Or.inl rfl)) (pgs_cons (pg_name (i:=2) (show (["times","number","other"]:List Str).Nodup by decide +kernel) rfl (Or.inl rfl)) pgs_nil)))) (fun _ _ _ _=>(pe_op op_sub (pv 1) (pe_op (op_mulB 1048576 (by decide)) (pv 0) (pv 2)))))))))
        (pss_one (ps_ret (pv 3)))))),?_⟩
    refine ⟨_,rfl,fun x dx hx hdx hne=>?_⟩
    have s0:Same H (upd (upd H dx (.own x)) x (.ins C dx [])):=fun b o eb=>by
      rw [upd_ne (ne_of_none eb hx),upd_ne (ne_of_none eb hdx)];exact eb
    refine ⟨H,x,dx,a,rs,Tt,_,_,rfl,upd_same,s0,hx,ht.same s0,hr',m0,n0,m1,n1,fun H1 W1=>⟨rfl,?_⟩⟩
    refine ⟨_,rfl,?_⟩
    refine ⟨_,rfl,H,x,_,e',m,n,true,[],st,L,rfl,W1,hB,by simpa using hz,fun q H2 hq W2=>?_⟩
    have hq2:=W2.same _ _ (upd_same (H:=H) (a:=q) (o:=.lst (stV st)))
    have hst:=hs.len
    refine ⟨q,_,rfl,SqL.of hq2,for_it (J:=Ite K q) (n:=st.length) (fun i σ H3=>∃(pr:Addr) (rowi:List Int) (v4 v5 v6 v7:Option V),σ=[some (.ref a),some (.ref r),some (.ref x),some (.ref pr),v4,v5,v6,v7]∧WalkAt C (upd H q (.lst (stV st))) H3 x e' m n true ([]++L.map (tc true))∧IsRow H3 pr rowi∧rowi.length=n∧∀y,y<n→rowF rowi y=E1.lessV e' st 0 i (rowF row) y)
      ⟨r,row,none,none,none,none,rfl,W2,W2.same _ _ (same_upd hq _ _ hrow),hrl,fun y _=>rfl⟩ (fun i σ H3 hi ⟨_,_,_,_,_,_,_,W3,_⟩=>⟨_,SqL.of (W3.same _ _ upd_same),by rw [stV_len];exact hi⟩) (fun σ H3 ⟨_,_,_,_,_,_,_,W3,_⟩=>⟨_,SqL.of (W3.same _ _ upd_same),by rw [stV_len];exact Nat.le_refl _⟩) ?_ ?_⟩
    · rintro i y σ H3 H4 hi ⟨pr,rowi,v4,v5,v6,v7,rfl,W3,hpr,hli,hval⟩ ⟨qt,u,rfl,hqt,rfl,hu⟩
      have hu:=hu _ (SqL.of (W3.same _ _ upd_same))
      rw [stV_at hi] at hu
      cases hu
      have hsat:=hs.lt i hi
      have W4:=W3.on (same_upd (o:=.tup [.int (i:Nat),.int (E1.sat st i:Nat)]) hqt)
      have hpr4:IsRow (upd H3 qt (.tup [.int (i:Nat),.int (E1.sat st i:Nat)])) pr rowi:=same_upd hqt _ _ hpr
      refine ⟨qt,_,rfl,SqT.of upd_same,rfl,_,_,rfl,_,_,rfl,rfl,?_⟩
      generalize upd H3 qt (.tup [.int (i:Nat),.int (E1.sat st i:Nat)])=H5 at W4 hpr4 ⊢
      refine W4.rowAt X (iw:=2) (i:=4) rfl rfl (by omega) fun rr rowE hrr hlr her=>?_
      have eE:∀y,rowE.getD y 0=e' i y:=fun y=>congrFun her y
      have hnz:rowE.getD (E1.sat st i) 0≠0:=by rw [eE];exact hs.nz i hi
      refine ⟨_,rfl,_,rfl,pr,_,_,_,rfl,rfl,SqL.of hpr4,atI_nat (iget (getD_some hli hsat)),_,rfl,_,rfl,rr,_,_,_,rfl,rfl,SqL.of hrr,atI_nat (iget (getD_some hlr hsat)),_,_,rfl,rfl,hnz,?_⟩
      have hti:(rowi.getD (E1.sat st i) 0).natAbs≤2^1048576:=by
        have:=hval _ hsat
        show (rowF rowi (E1.sat st i)).natAbs≤_
        rw [this];exact hle2 i _ (by omega)
      have hq4:((rowi.getD (E1.sat st i) 0).fdiv (rowE.getD (E1.sat st i) 0)).natAbs≤2^1048576:=Nat.le_trans (E1.fdiv_le hnz) hti
      dsimp only
      generalize hqq:(rowi.getD (E1.sat st i) 0).fdiv (rowE.getD (E1.sat st i) 0)=qv at hq4 ⊢
      refine ⟨_,rfl,_,rfl,pr,rr,_,_,rfl,SqL.of hpr4,SqL.of hrr,?_⟩
      refine comp_it (J:=Itz K pr rr) (n:=n) (fun i' ys H6=>Same H5 H6∧i'≤n∧ys=((List.zipWith (fun x y=>x - qv*y) rowi rowE).take i').map V.int) (Nat.le_trans n1 (by decide)) ⟨Same.refl H5,Nat.zero_le _,by simp⟩ (fun i' ys H2 ⟨_,hle,e⟩=>by rw [e,List.length_map,List.length_take,List.length_zipWith,hli,hlr];omega)
        (fun i' ys H2 hlt ⟨sm,_,_⟩=>⟨_,_,SqL.of (sm _ _ hpr4),SqL.of (sm _ _ hrr),by rw [List.length_map,hli];exact hlt,by rw [List.length_map,hlr];exact hlt⟩)
        (fun ys H2 ⟨sm,_,_⟩=>⟨_,_,SqL.of (sm _ _ hpr4),SqL.of (sm _ _ hrr),.inl (by rw [List.length_map,hli];exact Nat.le_refl _)⟩) ?_ ?_
      · rintro i' x ys H6 H7 hlt ⟨sm,_,rfl⟩ ⟨p,u,v,rfl,hp,rfl,hu,hv⟩
        have hu:=hu _ (SqL.of (sm _ _ hpr4))
        have hv:=hv _ (SqL.of (sm _ _ hrr))
        obtain ⟨u',eu,rfl⟩:=mint hu
        obtain ⟨v',ev,rfl⟩:=mint hv
        have ev':v'=e' i i':=by rw [←eE,List.getD_eq_getElem?_getD,ev];rfl
        refine ⟨p,_,rfl,SqT.of upd_same,rfl,_,_,rfl,_,_,rfl,rfl,rfl,?_⟩
        refine ⟨_,rfl,_,rfl,_,rfl,_,_,rfl,rfl,⟨hq4,by rw [ev'];exact hle i i'⟩,_,_,rfl,rfl,sm.laid hp,hlt,?_⟩
        rw [take_zip (f:=fun x y=>x - qv*y) eu ev,List.map_append]
        rfl
      · rintro ys H6 ⟨sm,_,rfl⟩ p hp
        have e:(List.zipWith (fun x y=>x - qv*y) rowi rowE).take n=List.zipWith (fun x y=>x - qv*y) rowi rowE:=List.take_of_length_le (by rw [List.length_zipWith,hli,hlr];omega)
        rw [e]
        refine ⟨p,List.zipWith (fun x y=>x - qv*y) rowi rowE,_,_,_,_,rfl,W4.on (sm.laid hp),upd_same,by rw [List.length_zipWith,hli,hlr];omega,fun y hy=>?_⟩
        rw [lessV_succ,Nat.zero_add]
        dsimp only
        rw [←hval y hy,←hval _ hsat]
        show (List.zipWith (fun x y=>x - qv*y) rowi rowE).getD y 0=rowi.getD y 0 - (rowi.getD (E1.sat st i) 0).fdiv (e' i (E1.sat st i))*e' i y
        rw [←eE,←eE,hqq,List.getD_eq_getElem?_getD,List.getElem?_zipWith,getD_some hli hy,getD_some hlr hy];rfl
    · rintro σ H3 ⟨pr,rowi,v4,v5,v6,v7,rfl,W3,hpr,hli,hval⟩
      exact ⟨_,rfl,k pr rowi H3 (fun b o e=>W3.same _ _ (same_upd hq _ _ e)) hpr hli hval⟩
end
end X1
namespace X1
open PySem L2
structure Small (m n:Nat) (T:Tb):Prop where
  r:Rect m n T
  m0:0<m
  n0:0<n
  sz:(m≤4∧n≤4)∨(m=1∧n=5)
  le:∀x y,(ent T x y).natAbs≤2^4
theorem Small.m5 {m n:Nat} {T:Tb} (h:Small m n T):m≤5:=by have:=h.sz;omega
theorem Small.n5 {m n:Nat} {T:Tb} (h:Small m n T):n≤5:=by have:=h.sz;omega
theorem Small.br {m n:Nat} {T:Tb} (h:Small m n T):∃L e',E1.BroughtR 1048576 m n (ent T) L e'∧(E1.Fine e' m n∧E1.Le 1048576 e')∧L.length≤5000000:=by
  obtain ⟨L,e',h1,⟨h2,h3⟩,h4⟩:=E1.brought_s h.sz (wide_ent h.r) (fun x y hx=>ent_out_row h.r hx y) h.le
  exact ⟨L,e',h1,⟨h2,h3▸E1.along2_end (E1.brought_along h1)⟩,h4⟩
section
variable {P:Program} {w:World} {K:PySem.W.Frag} {mg:Str→Option Value} {base:Heap}
inductive SpKin (vs:List V) (H:Hp) (Q:VK):Prop
  | mk (a b:Addr) (rs qs:List Addr) (T U:Tb) (m n m' n':Nat) (_:vs=[.ref a,.ref b]) (_:TabAt H a rs T) (_:Small m n T) (_:TabAt H b qs U) (_:Small m' n' U) (_:∀(v:V) (H':Hp),Same H H'→Q v H'):SpKin vs H Q
def spKin:Sp:=fun vs H Q _=>SpKin vs H Q
theorem ok_q0o (D:DefAt K mg "are_kin" s_q0o ["one","two"]) (T:Bt mg) (C_q0g:Callee P w K mg base 46 "brought" ["table"] (spBrought 1048576)):Callee P w K mg base 47 "are_kin" ["one","two"] spKin:=by
  refine D.ok (k:=46) sc_q0o (fun vs H Q E h=>?_) (fun f cdv A outer s H vs Q E hr h=>?_)
  · obtain ⟨_,_,_,_,_,_,_,_,_,_,rfl,_⟩:=h
    rfl
  · obtain ⟨a,b,rs,qs,T1,U1,m,n,m',n',rfl,ta,sa,tb,sb,k⟩:=h
    refine ⟨_,(pss_one (ps_ret (pe_cmpR (op_eqT hr.units) (pe_ix ix_tup (pe_callC C_q0g (hr.mono (by decide)) rfl (pa_cons (pv 0) pa_nil)) pe_int (fun _ _=>rfl)) (pe_ix ix_tup (pe_callC C_q0g (hr.mono (by decide)) rfl (pa_cons (pv 1) pa_nil)) pe_int (fun _ _=>rfl)) (nomark _)))),?_⟩
    obtain ⟨L,e,br,_,hz⟩:=sa.br
    obtain ⟨L',e',br',_,hz'⟩:=sb.br
    have:=sa.m5;have:=sa.n5;have:=sb.m5;have:=sb.n5
    refine ⟨_,rfl,a,rs,T1,m,n,L,e,rfl,ta,sa.r,sa.m0,sa.n0,by omega,by omega,br,Nat.le_trans hz (by decide),fun p a2 l rs2 ts2 T2 H1 s1 hp hta hr2 he2 _ _=>?_⟩
    refine ⟨p,_,_,_,rfl,rfl,SqT.of hp,rfl,_,rfl,b,qs,U1,m',n',L',e',rfl,tb.same s1,sb.r,sb.m0,sb.n0,by omega,by omega,br',Nat.le_trans hz' (by decide),fun p' a3 l' rs3 ts3 T3 H2 s2 hp' hta' hr3 he3 _ _=>?_⟩
    exact ⟨p',_,_,_,rfl,rfl,SqT.of hp',rfl,a2,a3,rs2,rs3,T2,T3,rfl,rfl,(hta.same s2).tab,hta'.tab,k _ H2 (s1.trans s2)⟩
def spRoad:Sp:=fun vs H Q E=>∃(a:Addr) (rs:List Addr) (T:Tb) (m n:Nat),vs=[.ref a,.ref a]∧TabAt H a rs T∧Small m n T∧∀(v:V) (H':Hp),Same H H'→Q v H'
theorem ok_q0p (D:DefAt K mg "road" s_q0p ["one","two"]) (T:Bt mg) (C_q0g:Callee P w K mg base 46 "brought" ["table"] (spBrought 1048576)) (C_q09:Callee P w K mg base 2 "taken_back" ["changes"] spBacks):Callee P w K mg base 47 "road" ["one","two"] spRoad:=by
  refine D.ok (k:=46) sc_q0p (fun vs H Q E h=>?_) (fun f cdv A outer s H vs Q E hr h=>?_)
  · obtain ⟨_,_,_,_,_,rfl,_⟩:=h
    rfl
  · obtain ⟨a,rs,T1,m,n,rfl,ta,sa,k⟩:=h
    refine ⟨_,(pss_cons (ps_set (i:=2) sc_q0p.nd rfl (Or.inl rfl) (pe_callC C_q0g (hr.mono (by decide)) rfl (pa_cons (pv 0) pa_nil)))
        (pss_cons (ps_set (i:=3) sc_q0p.nd rfl (Or.inl rfl) (pe_callC C_q0g (hr.mono (by decide)) rfl (pa_cons (pv 1) pa_nil)))
        (pss_cons (ps_if (pt_cmpR (op_neT hr.units) (pe_ix ix_tup (pv 2) pe_int (fun _ _=>rfl)) (pe_ix ix_tup (pv 3) pe_int (fun _ _=>rfl)) (nomark _)) (pss_one ps_never) pss_nil)
        (pss_one (ps_ret (pe_op op_cat (pe_ix ix_tup (pv 2) pe_int (fun _ _=>rfl)) (pe_callC C_q09 (hr.mono (by decide)) rfl (pa_cons (pe_ix ix_tup (pv 3) pe_int (fun _ _=>rfl)) pa_nil)))))))),?_⟩
    obtain ⟨L,e,br,_,hz⟩:=sa.br
    have:=sa.m5;have:=sa.n5
    refine ⟨_,rfl,a,rs,T1,m,n,L,e,rfl,ta,sa.r,sa.m0,sa.n0,by omega,by omega,br,Nat.le_trans hz (by decide),fun p a2 l rs2 ts2 T2 H1 s1 hp hta hr2 he2 hcs _=>?_⟩
    refine ⟨_,rfl,a,rs,T1,m,n,L,e,rfl,ta.same s1,sa.r,sa.m0,sa.n0,by omega,by omega,br,Nat.le_trans hz (by decide),fun p' a3 l' rs3 ts3 T3 H2 s2 hp' hta' hr3 he3 hcs' _=>?_⟩
    have hp2:=s2 _ _ hp
    have s12:=s1.trans s2
    have hq:T2=T3:=ent_inj hr2 hr3 (by rw [he2,he3])
    refine ⟨_,rfl,p,_,_,_,rfl,rfl,SqT.of hp2,rfl,_,rfl,p',_,_,_,rfl,rfl,SqT.of hp',rfl,a2,a3,rs2,rs3,T2,T3,rfl,rfl,(hta.same s2).tab,hta'.tab,_,rfl,?_⟩
    refine iteNS hq ?_
    have hcs2:=hcs.same s2
    refine ⟨_,rfl,p,_,_,_,rfl,rfl,SqT.of hp2,rfl,_,rfl,p',_,_,_,rfl,rfl,SqT.of hp',rfl,l',ts3,_,rfl,hcs',by rw [List.length_map];exact Nat.le_trans hz (by decide),fun q qs' H3 s3 hb=>?_⟩
    have hcs3:=hcs2.same s3
    have l1:=Paired.length hcs3.2
    have l2:=Paired.length hb.2
    have l3:(backs (L.map toCh)).length=L.length:=by unfold backs;simp
    rw [List.length_map] at l1
    rw [l3] at l2
    refine ⟨l,q,_,_,rfl,rfl,hcs3.1,hb.1,?_,fun r hr'=>k _ _ ((s12.trans s3).laid hr')⟩
    rw [List.length_map,List.length_map,l1,l2]
    exact Nat.le_trans (Nat.add_le_add hz hz) (by decide)
end
end X1
namespace X1
open PySem L2
theorem rep_of (c:Int) (n:Nat):(List.replicate n [V.int c]).flatten=(List.replicate n c).map V.int:=by
  induction n with
  | zero=>rfl
  | succ n ih=>rw [List.replicate_succ,List.flatten_cons,ih];rfl
theorem cut_from {xs:List Int} {n:Nat} (h:n≤xs.length):cutV (xs.map V.int) (some (n:Int)) none=(xs.drop n).map V.int:=by
  unfold cutV
  rw [HT.sIx_none,HT.sIx_nat,List.length_map,Nat.min_eq_left h,←List.map_drop,←List.map_take]
  congr 1
  exact List.take_of_length_le (by rw [List.length_drop];exact Nat.le_refl _)
theorem rowF_zeros (row:List Int) (m:Nat):rowF (row++List.replicate m 0)=rowF row:=by
  funext y
  unfold rowF
  rw [List.getD_eq_getElem?_getD,List.getD_eq_getElem?_getD]
  by_cases h:y<row.length
  · rw [List.getElem?_append_left h]
  · rw [List.getElem?_append_right (by omega),List.getElem?_eq_none (l:=row) (by omega),List.getElem?_replicate]
    split <;> rfl
section
variable {P:Program} {w:World} {K:PySem.W.Frag} {mg:Str→Option Value} {base:Heap} {C:Addr}
inductive SpHowOften (vs:List V) (H:Hp) (Q:VK):Prop
  | mk (a r:Addr) (rs:List Addr) (T:Tb) (row:List Int) (m n:Nat) (_:vs=[.ref a,.ref r]) (_:TabAt H a rs T) (_:Rect m n T) (_:IsRow H r row) (_:row.length=n) (_:0<m) (_:0<n) (_:m≤4) (_:n≤5) (_:(∀x y,(ent T x y).natAbs≤2^4)) (_:(∀y,(rowF row y).natAbs≤2^4)) (_:∀(v:V) (H':Hp),Same H H'→Q v H'):SpHowOften vs H Q
def spHowOften:Sp:=fun vs H Q _=>SpHowOften vs H Q
theorem ok_q0q (D:DefAt K mg "how_often" s_q0q ["table","row"]) (T:Bt mg) (C_q00:Callee P w K mg base 1 "refuse_no_table" ["table"] spRefT) (C_q0t:Callee P w K mg base 45 "less_the_stairs" ["table","row"] (spLessSt C)) (C_q0r:Callee P w K mg base 2 "tallied" ["table"] spTallied) (C_q0a:Callee P w K mg base 1 "first_place" ["row"] spFirst):Callee P w K mg base 46 "how_often" ["table","row"] spHowOften:=by
  refine D.ok (k:=45) sc_q0q (fun vs H Q E h=>?_) (fun f cdv A outer s H vs Q E hr h=>?_)
  · obtain ⟨_,_,_,_,_,_,_,rfl,_⟩:=h
    rfl
  · obtain ⟨a,r,rs,Tt,row,m,n,rfl,ht,hr',hrow,hrl,m0,n0,m6,n6,hb,hbr,k⟩:=h
    refine ⟨_,(pss_cons (ps_expr (pe_callC C_q00 (hr.mono (by decide)) rfl (pa_cons (pv 0) pa_nil)))
        (pss_cons (ps_set (i:=2) sc_q0q.nd rfl (Or.inl rfl) (pe_callB call_len_seq rfl T.len bt_len (pa_cons (pe_ix ix_list (pv 0) pe_int (fun _ _=>rfl)) pa_nil)))
        (pss_cons (ps_if (pt_cmpR op_ne (pe_callB call_len_seq rfl T.len bt_len (pa_cons (pv 1) pa_nil)) (pv 2) (nomark _)) (pss_one ps_never) pss_nil)
        (pss_cons (ps_set (i:=3) sc_q0q.nd rfl (Or.inl rfl) (pe_callC C_q0t (hr.mono (by decide)) rfl (pa_cons (pe_callC C_q0r (hr.mono (by decide)) rfl (pa_cons (pv 0) pa_nil)) (pa_cons (pe_op op_cat (pv 1) (pe_op op_rep (pe_lst (pa_cons pe_int pa_nil)) (pe_callB call_len_seq rfl T.len bt_len (pa_cons (pv 0) pa_nil)))) pa_nil))))
        (pss_cons (ps_if (pt_cmpR op_lt (pe_callC C_q0a (hr.mono (by decide)) rfl (pa_cons (pv 3) pa_nil)) (pv 2) (nomark _)) (pss_one (ps_ret pe_non)) pss_nil)
        (pss_one (ps_ret (pe_comp (N:=["number"]) (cap:=[]) (k:=1) (CompScope.mk' (defScope s_q0q) ["table","row","width","rest"] rfl rfl (by decide +kernel)) rfl (pi_list (pe_slice sl_list (pv 3) (po_some (pv 2)) po_none)) (fun _ _ _ _=>(pg_name (i:=0) (show (["number"]:List Str).Nodup by decide +kernel) rfl (Or.inl rfl))) (fun _ _ _ _=>(pe_un un_neg (pv 0))))))))))),?_⟩
    obtain ⟨m',rfl⟩:∃m',m=m'+1:=⟨m - 1,by omega⟩
    obtain ⟨n',rfl⟩:∃n',n=n'+1:=⟨n - 1,by omega⟩
    have h1:=ht.tab.1
    have hl:=ht.len hr'
    obtain ⟨r0,e0,_,hr0,hl0⟩:=ht.at hr' m0
    refine ⟨_,rfl,a,rs,Tt,m',n',rfl,ht,hr',?_⟩
    refine ⟨_,rfl,a,_,_,_,rfl,rfl,SqL.of h1,atI_nat (j:=0) (rget e0),r0,_,rfl,.inl (SqL.of hr0),?_⟩
    rw [List.length_map,hl0]
    refine ⟨_,rfl,r,_,rfl,.inl (SqL.of hrow),_,rfl,rfl,_,rfl,iteNS (by rw [List.length_map,hrl]) ?_⟩
    generalize hm:m'+1=m at *
    generalize hn:n'+1=n at *
    refine ⟨_,rfl,a,rs,Tt,m,n,rfl,ht,hr',by omega,by omega,fun p qs H1 s1 ht1 _=>?_⟩
    refine ⟨_,rfl,by show 1≤sizeLine;decide,fun l hl1=>?_⟩
    have s2:Same H1 (upd H1 l (.lst [V.int 0])):=same_upd hl1
    have hl2:(upd H1 l (.lst [V.int 0])) l=some (.lst [V.int 0]):=upd_same
    generalize upd H1 l (.lst [V.int 0])=H2 at s2 hl2 ⊢
    have s12:=s1.trans s2
    refine ⟨_,rfl,a,_,rfl,.inl (SqL.of (s12 _ _ h1)),?_⟩
    rw [List.length_map,hl]
    refine ⟨l,_,_,rfl,rfl,hl2,by omega,by omega,by show 1*((m:Int)).toNat≤sizeLine;exact Nat.le_trans (by simp;omega:1*((m:Int)).toNat≤1000) (by decide),fun z hz=>?_⟩
    rw [rep_of,Int.toNat_natCast]
    have s3:=s12.laid (o:=.lst ((List.replicate m (0:Int)).map V.int)) hz
    have hz3:(upd H2 z (.lst ((List.replicate m (0:Int)).map V.int))) z=some (.lst ((List.replicate m (0:Int)).map V.int)):=upd_same
    have s3':Same H1 (upd H2 z (.lst ((List.replicate m (0:Int)).map V.int))):=s2.laid hz
    generalize upd H2 z (.lst ((List.replicate m (0:Int)).map V.int))=H3 at s3 hz3 s3' ⊢
    refine ⟨r,z,_,_,rfl,rfl,s3 _ _ hrow,hz3,by rw [List.length_map,List.length_map,List.length_replicate,hrl];exact Nat.le_trans (by omega:n+m≤1000) (by decide),fun rz hrz=>?_⟩
    rw [←List.map_append]
    have hrz4:IsRow (upd H3 rz (.lst ((row++List.replicate m 0).map V.int))) rz (row++List.replicate m 0):=upd_same
    have s4:=s3.laid (o:=.lst ((row++List.replicate m 0).map V.int)) hrz
    have ht4:=ht1.same (s3'.laid (o:=.lst ((row++List.replicate m 0).map V.int)) hrz)
    generalize upd H3 rz (.lst ((row++List.replicate m 0).map V.int))=H4 at hrz4 s4 ht4 ⊢
    have hrt:=talB_rect hr'
    have hbt:∀x y,(ent (talB m Tt) x y).natAbs≤2^4:=fun x y=>by
      rw [ent_talB hr']
      unfold E1.tal
      split
      · exact hb x y
      · split
        · decide
        · exact Nat.zero_le _
    obtain ⟨L,st,e',hB,he,hs,hok,hlen,hle⟩:=E1.build_4 m6 (wide_ent hrt) hbt
    have hst:=hs.len
    have hv:=rowF_zeros row m
    have hlb:∀t y,t≤st.length→(E1.lessV e' st 0 t (rowF (row++List.replicate m 0)) y).natAbs≤2^100:=fun t y ht=>by
      have h2:=E1.lessV_le hle t 0 (rowF (row++List.replicate m 0)) 4 (fun i _ hi=>hs.nz i (by omega)) (fun y=>by rw [hv];exact hbr y) y
      refine Nat.le_trans h2 (Nat.pow_le_pow_right (by decide) ?_)
      have:t*(23+1)≤4*(23+1):=Nat.mul_le_mul_right _ (by omega)
      omega
    refine ⟨p,rz,qs,_,row++List.replicate m 0,m,n+m,L,st,e',rfl,ht4,hrt,hrz4,by rw [List.length_append,List.length_replicate,hrl],m0,by omega,by omega,by omega,hB,hs,Nat.le_trans hlen (by decide),hle.mono (by decide),fun t y ht=>Nat.le_trans (hlb t y ht) (Nat.pow_le_pow_right (by decide) (by decide)),fun pr row' H5 s5 hpr hl' hval=>?_⟩
    refine ⟨_,rfl,pr,row',rfl,hpr,fun H6 s6=>⟨_,rfl,_,_,rfl,rfl,_,rfl,?_⟩⟩
    have s46:=s4.trans (s5.trans s6)
    have hpr6:IsRow H6 pr row':=s6 _ _ hpr
    by_cases hfp:E1.fp (fun y=>row'.getD y 0) 0 row'.length<n
    · refine iteP (by omega) ?_
      exact k .non H6 s46
    · refine iteN (by omega) ?_
      refine ⟨_,rfl,_,rfl,_,rfl,pr,_,rfl,SqL.of hpr6,fun c hc=>?_⟩
      rw [cut_from (by omega)]
      have s7:=s46.laid (o:=.lst ((row'.drop n).map V.int)) hc
      have hc7:(upd H6 c (.lst ((row'.drop n).map V.int))) c=some (.lst ((row'.drop n).map V.int)):=upd_same
      generalize upd H6 c (.lst ((row'.drop n).map V.int))=H7 at s7 hc7 ⊢
      have hdl:(row'.drop n).length=m:=by rw [List.length_drop,hl'];omega
      refine ⟨c,rfl,⟨_,SqL.of hc7⟩,comp_list (K:=K) (a:=c) (xs:=(row'.drop n).map V.int) (fun i ys H2=>H2=H7∧i≤m∧ys=(((row'.drop n).map fun x=>-x).take i).map V.int) (by rw [List.length_map,hdl];exact Nat.le_trans (by omega:m≤1000) (by decide)) ⟨rfl,Nat.zero_le _,by simp⟩ (fun i ys H2 ⟨_,hle,e⟩=>by rw [e,List.length_map,List.length_take,List.length_map,hdl];omega) (fun i ys H2 _ ⟨e,_,_⟩=>by rw [e];exact SqL.of hc7) ?_ ?_⟩
      · rintro i x ys H2 hx ⟨rfl,_,rfl⟩
        obtain ⟨u,eu,rfl⟩:=mint hx
        refine ⟨rfl,_,rfl,_,rfl,rfl,?_,?_⟩
        · have:=(List.getElem?_eq_some_iff.mp eu).1;omega
        · rw [take_map (f:=fun x=>-x) eu,List.map_append];rfl
      · rintro ys H2 ⟨rfl,_,rfl⟩ q hq
        have e:(((row'.drop n).map fun x=>-x).take ((row'.drop n).map V.int).length)=(row'.drop n).map fun x=>-x:=List.take_of_length_le (by rw [List.length_map,List.length_map];exact Nat.le_refl _)
        rw [e]
        exact k (.ref q) _ (s7.laid hq)
end
end X1
namespace X1
open PySem L2
def NoTab (T:Tb):Prop:=T=[]∨T.getD 0 []=[]∨∃(i:Nat) (row:List Int),T[i]?=some row∧row.length≠(T.getD 0 []).length
inductive ICh where
  | add (s:Bool) (i j q:Int) | swap (s:Bool) (i j:Int) | turn (s:Bool) (i:Int)
def ichV:ICh→List V
  | .add s i j q=>[.str "add",.str (sd s),.int i,.int j,.int q]
  | .swap s i j=>[.str "swap",.str (sd s),.int i,.int j]
  | .turn s i=>[.str "turn",.str (sd s),.int i]
def ICh.side:ICh→Bool
  | .add s _ _ _=>s
  | .swap s _ _=>s
  | .turn s _=>s
def ICh.places:ICh→List Int
  | .add _ i j _=>[i,j]
  | .swap _ i j=>[i,j]
  | .turn _ i=>[i]
def ICh.plain:ICh→Prop
  | .add _ _ _ _=>False
  | _=>True
def ICh.ok (m n:Nat) (c:ICh):Prop:=(∀p∈c.places,0≤p∧p<(dim c.side m n:Int))∧∀i j,c.places=[i,j]→i≠j
def IsI (H:Hp) (t:Addr) (c:ICh):Prop:=H t=some (.tup (ichV c))
theorem ichV_1 (c:ICh):atI (ichV c) 1=some (.str (sd c.side)):=by cases c <;> rfl
theorem icut (c:ICh):cutV (ichV c) (some 2) (some 4)=c.places.map V.int:=by cases c <;> rfl
theorem inot_whole (c:ICh):¬ (HT.sIx (ichV c).length 0 (some 2)=0∧HT.sIx (ichV c).length (ichV c).length (some 4)=(ichV c).length):=by
  cases c <;> exact fun z=>nomatch z.1
theorem ICh.good {m n:Nat} {c:ICh} (h:c.ok m n) (p:c.plain):∃c':Bool×E1.RC,ichV c=chV (toCh c')∧E1.ok2 m n c'∧(toCh c').side=c.side∧(∀i j q,c'.2≠.add i j q):=by
  cases c with
  | add s i j q=>exact p.elim
  | swap s i j =>
    have h1:=h.1 i (by simp [ICh.places])
    have h2:=h.1 j (by simp [ICh.places])
    have h3:=h.2 i j rfl
    obtain ⟨i',rfl⟩:=Int.eq_ofNat_of_zero_le h1.1
    obtain ⟨j',rfl⟩:=Int.eq_ofNat_of_zero_le h2.1
    have e1:i'<dim s m n:=by have:=h1.2;simpa [ICh.side] using this
    have e2:j'<dim s m n:=by have:=h2.2;simpa [ICh.side] using this
    refine ⟨(s,.swap i' j'),rfl,?_,rfl,fun _ _ _ z=>by cases z⟩
    cases s <;> exact ⟨e1,e2,fun z=>h3 (by rw [z])⟩
  | turn s i =>
    have h1:=h.1 i (by simp [ICh.places])
    obtain ⟨i',rfl⟩:=Int.eq_ofNat_of_zero_le h1.1
    have e1:i'<dim s m n:=by have:=h1.2;simpa [ICh.side] using this
    refine ⟨(s,.turn i'),rfl,?_,rfl,fun _ _ _ z=>by cases z⟩
    cases s <;> exact e1
theorem plain_le {m n B:Nat} {T:Tb} {c:Bool×E1.RC} (hr:Rect m n T) (hc:E1.ok2 m n c) (hp:∀i j q,c.2≠.add i j q) (h:E1.Le B (ent T)):E1.Le B (ent ((toCh c).app T)):=by
  rw [ent_toCh hr hc]
  obtain ⟨s,c⟩:=c
  cases c with
  | add i j q=>exact absurd rfl (hp i j q)
  | swap i j=>cases s <;> exact fun x y=>h _ _
  | turn i =>
    cases s
    · intro x y
      show (E1.turnR (E1.tipT (ent T)) i y x).natAbs≤_
      unfold E1.turnR
      split
      · rw [Int.natAbs_neg];exact h _ _
      · exact h _ _
    · intro x y
      show (E1.turnR (ent T) i x y).natAbs≤_
      unfold E1.turnR
      split
      · rw [Int.natAbs_neg];exact h _ _
      · exact h _ _
def mapK (f:List Int→List Int) (k:Nat) (T:Tb):Tb:=(T.take k).map f++T.drop k
theorem mapK_zero (f:List Int→List Int) (T:Tb):mapK f 0 T=T:=by simp [mapK]
theorem mapK_all (f:List Int→List Int) (T:Tb):mapK f T.length T=T.map f:=by simp [mapK]
theorem mapK_succ {f:List Int→List Int} {T:Tb} {k:Nat} {row:List Int} (h:T[k]?=some row):(mapK f k T).set k (f row)=mapK f (k+1) T:=by
  obtain ⟨hk,e⟩:=List.getElem?_eq_some_iff.mp h
  unfold mapK
  have hl:((T.take k).map f).length=k:=by rw [List.length_map,List.length_take];omega
  have hd:T.drop k=row::T.drop (k+1):=by rw [←e];exact List.drop_eq_getElem_cons hk
  have ht:T.take (k+1)=T.take k++[row]:=by rw [List.take_succ,h];rfl
  rw [hd,ht,List.map_append,List.set_append,if_neg (by omega),hl]
  simp
theorem mapK_get {f:List Int→List Int} {T:Tb} {k:Nat}:(mapK f k T)[k]?=T[k]?:=by
  unfold mapK
  by_cases hk:k<T.length
  · have hl:((T.take k).map f).length=k:=by rw [List.length_map,List.length_take];omega
    rw [List.getElem?_append_right (by omega),hl]
    simp
  · simp [Nat.not_lt.mp hk]
theorem col_turn {H H2:Hp} {a r:Addr} {rs:List Addr} {T:Tb} {f:List Int→List Int} {i:Nat} {row:List Int} (ht:TabAt H2 a rs (mapK f i T)) (st:Stay H H2 (a::rs)) (er:rs[i]?=some r) (et:T[i]?=some row) :
    TabAt (upd H2 r (.lst ((f row).map V.int))) a rs (mapK f (i+1) T)∧Stay H (upd H2 r (.lst ((f row).map V.int))) (a::rs):=by
  refine ⟨?_,fun b o e hb=>?_⟩
  · have:=ht.cell (row:=f row) er
    rw [mapK_succ et] at this
    exact this
  · rw [upd_ne (fun z=>hb (by rw [z];exact List.mem_cons_of_mem _ (List.mem_of_getElem? er)))]
    exact st b o e hb
section
variable {P:Program} {w:World} {K:PySem.W.Frag} {mg:Str→Option Value} {base:Heap} {c_BadTable c_BadChange:Addr}
def spBad (c:Addr):Sp:=fun vs H Q E=>∃(a:Addr) (rs:List Addr) (T:Tb),vs=[.ref a]∧TabAt H a rs T∧NoTab T∧∀H',Same H H'→E (.ref c) none H'
def spRefX (c:Addr):Sp:=fun vs H Q E=>spRefT vs H Q E∨spBad c vs H Q E
theorem bad_q00 (D:DefAt K mg "refuse_no_table" s_q00 ["table"]) (T:Bt mg) (e_BadTable:ECls K mg "BadTable" c_BadTable) (C_q00:Callee P w K mg base 1 "refuse_no_table" ["table"] spRefT):CalleeX P w K mg base 1 "refuse_no_table" ["table"] (spRefX c_BadTable):=by
  refine D.also (k:=0) C_q00 sc_q00 (fun vs H Q E h=>?_) (fun f cdv A outer s H vs Q E hr h=>?_)
  · obtain ⟨_,_,_,rfl,_⟩:=h
    rfl
  · obtain ⟨a,rs,Tt,rfl,ht,hn,kE⟩:=h
    refine ⟨_,(pss_cons (ps_if (pt_cmpR op_eq (pe_callB call_len_seq rfl T.len bt_len (pa_cons (pv 0) pa_nil)) pe_int (nomark _)) (pss_one (ps_raise raise_cx rfl rfl e_BadTable.m e_BadTable.q (pa_cons pe_str pa_nil))) pss_nil)
        (pss_cons (ps_set (i:=1) sc_q00.nd rfl (Or.inl rfl) (pe_callB call_len_seq rfl T.len bt_len (pa_cons (pe_ix ix_list (pv 0) pe_int (fun _ _=>rfl)) pa_nil)))
        (pss_cons (ps_if (pt_cmpR op_eq (pv 1) pe_int (nomark _)) (pss_one (ps_raise raise_cx rfl rfl e_BadTable.m e_BadTable.q (pa_cons pe_str pa_nil))) pss_nil)
        (pss_one (ps_for raise_cx.own rfl (pi_list (pv 0)) (pg_name (i:=2) sc_q00.nd rfl (Or.inl rfl)) (pss_one (ps_if (pt_cmpR op_ne (pe_callB call_len_seq rfl T.len bt_len (pa_cons (pv 2) pa_nil)) (pv 1) (nomark _)) (pss_one (ps_raise raise_cx rfl rfl e_BadTable.m e_BadTable.q (pa_cons pe_str pa_nil))) pss_nil))))))),?_⟩
    have h1:=ht.tab.1
    have hl:=ht.tab.2.length
    refine ⟨_,rfl,a,_,rfl,.inl (SqL.of h1),rfl,_,rfl,?_⟩
    rw [List.length_map,hl]
    by_cases h0:Tt=[]
    · refine iteP (by rw [h0];rfl) ⟨by show 1≤1000;decide,kE H (Same.refl H)⟩
    have hpos:0<Tt.length:=List.length_pos_iff.mpr h0
    refine iteN (v_ne (by omega)) ?_
    have et:Tt[0]?=some (Tt.getD 0 []):=by simp [hpos]
    obtain ⟨r0,e0,hr0⟩:=ht.tab.2.get et
    refine ⟨_,rfl,a,_,_,_,rfl,rfl,SqL.of h1,atI_nat (j:=0) (rget e0),r0,_,rfl,.inl (SqL.of hr0),?_⟩
    rw [List.length_map]
    refine ⟨_,rfl,rfl,_,rfl,?_⟩
    by_cases h2:Tt.getD 0 []=[]
    · refine iteP (by rw [h2];rfl) ⟨by show 1≤1000;decide,kE H (Same.refl H)⟩
    have hpos2:0<(Tt.getD 0 []).length:=List.length_pos_iff.mpr h2
    refine iteN (v_ne (by omega)) ?_
    obtain ⟨i0,row0,ei0,hne0⟩:∃(i:Nat) (row:List Int),Tt[i]?=some row∧row.length≠(Tt.getD 0 []).length:=by
      rcases hn with z | z | z
      · exact absurd z h0
      · exact absurd z h2
      · exact z
    refine ⟨_,rfl,a,rfl,⟨_,SqL.of h1⟩,for_list (K:=K) (a:=a) (xs:=rs.map V.ref) (fun i σ H2=>H2=H∧i≤i0∧∃v,σ=[some (.ref a),some (.int ((Tt.getD 0 []).length:Nat)),v]) ⟨rfl,Nat.zero_le _,none,rfl⟩ (fun i σ H2 _ h=>by rw [h.1];exact SqL.of h1) ?_ ?_⟩
    · rintro i y σ H2 hi ⟨rfl,hii,v,rfl⟩
      obtain ⟨r,er,rfl⟩:=mref hi
      obtain ⟨row,erow,hrow⟩:=pget ht.tab.2 er
      refine ⟨_,rfl,r,_,rfl,.inl (SqL.of hrow),_,rfl,rfl,_,rfl,?_⟩
      rw [List.length_map]
      by_cases hq:row.length=(Tt.getD 0 []).length
      · refine iteNS (by rw [hq]) ?_
        refine ⟨rfl,?_,_,rfl⟩
        have:i≠i0:=fun z=>by
          rw [z,ei0] at erow;cases erow;exact hne0 hq
        omega
      · exact iteNN (v_ne (by omega)) ⟨by show 1≤1000;decide,kE _ (Same.refl _)⟩
    · rintro σ H2 ⟨rfl,hii,_⟩
      have:=(List.getElem?_eq_some_iff.mp ei0).1
      rw [List.length_map,hl] at hii
      omega
def spRefC (c:Addr):Sp:=fun vs H Q E=>∃(a t:Addr) (rs:List Addr) (T:Tb) (m n:Nat) (ch:ICh),vs=[.ref a,.ref t]∧TabAt H a rs T∧Rect m n T∧0<m∧IsI H t ch ∧
  (ch.ok m n→∀H',Same H H'→Q .non H')∧(¬ ch.ok m n→∀H',Same H H'→E (.ref c) none H')
theorem ok_q02 (D:DefAt K mg "refuse_bad_change" s_q02 ["rows","change"]) (T:Bt mg) (e_BadChange:ECls K mg "BadChange" c_BadChange):CalleeX P w K mg base 1 "refuse_bad_change" ["rows","change"] (spRefC c_BadChange):=by
  refine D.okX (k:=0) sc_q02 (fun vs H Q E h=>?_) (fun f cdv A outer s H vs Q E hr h=>?_)
  · obtain ⟨_,_,_,_,_,_,_,rfl,_⟩:=h
    rfl
  · obtain ⟨a,t,rs,Tt,m,n,c,rfl,ht,hr',m0,hc,k,kE⟩:=h
    refine ⟨_,(pss_cons (ps_set (i:=2) sc_q02.nd rfl (Or.inl rfl) (pe_ifExp (pt_cmpR op_eq (pe_ix ix_tup (pv 1) pe_int (fun _ _=>rfl)) pe_str (nomark _)) (pe_callB call_len_seq rfl T.len bt_len (pa_cons (pv 0) pa_nil)) (pe_callB call_len_seq rfl T.len bt_len (pa_cons (pe_ix ix_list (pv 0) pe_int (fun _ _=>rfl)) pa_nil))))
        (pss_cons (ps_set (i:=3) sc_q02.nd rfl (Or.inl rfl) (pe_slice sl_tup (pv 1) (po_some pe_int) (po_some pe_int)))
        (pss_cons (ps_for raise_cx.own rfl (pi_tup (pv 3)) (pg_name (i:=4) sc_q02.nd rfl (Or.inl rfl)) (pss_one (ps_if (PW.pt (pw_or (pt_cmpR op_lt (pv 4) pe_int (nomark _)) (pw_or1 (pt_cmpR op_ge (pv 4) (pv 2) (nomark _))))) (pss_one (ps_raise raise_cx rfl rfl e_BadChange.m e_BadChange.q (pa_cons pe_str pa_nil))) pss_nil)))
        (pss_one (ps_if (PW.pt (pw_and (pt_cmpR op_eq (pe_callB call_len_seq rfl T.len bt_len (pa_cons (pv 3) pa_nil)) pe_int (nomark _)) (pw_and1 (pt_cmpR op_eq (pe_ix ix_tup (pv 3) pe_int (fun _ _=>rfl)) (pe_ix ix_tup (pv 3) pe_int (fun _ _=>rfl)) (nomark _))))) (pss_one (ps_raise raise_cx rfl rfl e_BadChange.m e_BadChange.q (pa_cons pe_str pa_nil))) pss_nil))))),?_⟩
    have hl:=ht.len hr'
    obtain ⟨r0,e0,_,hr0,hl0⟩:=ht.at hr' m0
    have h1:=ht.tab.1
    refine ⟨_,rfl,t,_,_,_,rfl,rfl,SqT.of hc,ichV_1 c,rfl,_,rfl,?_⟩
    rw [sd_row]
    have hok:c.ok m n↔(∀p∈c.places,0≤p∧p<(dim c.side m n:Int))∧∀i j,c.places=[i,j]→i≠j:=Iff.rfl
    obtain ⟨d,hd⟩:∃d,d=dim c.side m n:=⟨_,rfl⟩
    rw [←hd] at hok
    have hp2:(∃i,c.places=[i])∨∃i j,c.places=[i,j]:=by cases c <;> simp [ICh.places]
    cases hs:c.side
    case' false =>
      refine iteF ⟨_,rfl,a,_,_,_,rfl,rfl,SqL.of h1,atI_nat (j:=0) (rget e0),r0,_,rfl,.inl (SqL.of hr0),?_⟩
      generalize hg:((((Tt.getD 0 []).map V.int).length:Nat):Int)=tt
      have htt:tt=(d:Int):=by rw [←hg,List.length_map,hl0,hd,hs];rfl
    case' true =>
      refine iteT ⟨_,rfl,a,_,rfl,.inl (SqL.of h1),?_⟩
      generalize hg:(((rs.map V.ref).length:Nat):Int)=tt
      have htt:tt=(d:Int):=by rw [←hg,List.length_map,hl,hd,hs];rfl
    all_goals
      clear hg
      refine ⟨_,rfl,_,rfl,_,rfl,t,_,rfl,SqT.of hc,inot_whole c,fun p hpn=>?_⟩
      rw [icut]
      have sm:Same H (upd H p (.tup (c.places.map V.int))):=same_upd hpn
      have hp3:(upd H p (.tup (c.places.map V.int))) p=some (.tup (c.places.map V.int)):=upd_same
      generalize upd H p (.tup (c.places.map V.int))=H3 at sm hp3 ⊢
      refine ⟨_,rfl,p,rfl,⟨_,SqT.of hp3⟩,for_tup (K:=K) (a:=p) (xs:=c.places.map V.int) (fun i σ H2=>H2=H3∧(∀q∈c.places.take i,0≤q∧q<(d:Int))∧∃v,σ=[some (.ref a),some (.ref t),some (.int tt),some (.ref p),v]) ⟨rfl,(fun _ z=>by simp at z),none,rfl⟩ (fun i σ H2 _ h=>by rw [h.1];exact SqT.of hp3) ?_ ?_⟩
      · rintro i y σ H2 hi ⟨rfl,hin,v,rfl⟩
        obtain ⟨pl,e,rfl⟩:=mint hi
        refine ⟨_,rfl,_,_,rfl,rfl,_,rfl,?_⟩
        have bad:¬ (0≤pl∧pl<(d:Int))→¬ c.ok m n:=fun z y=>z ((hok.mp y).1 pl (List.mem_of_getElem? e))
        by_cases hz:pl<0
        · exact iteP hz (iteT ⟨by show 1≤1000;decide,kE (bad (by omega)) _ sm⟩)
        · refine iteN hz ⟨_,rfl,_,rfl,_,_,rfl,rfl,_,rfl,?_⟩
          by_cases hz2:tt≤pl
          · exact iteP hz2 ⟨by show 1≤1000;decide,kE (bad (by omega)) _ sm⟩
          · refine iteN hz2 ⟨rfl,fun q hq=>?_,_,rfl⟩
            rw [List.take_succ,e] at hq
            rcases List.mem_append.mp hq with z | z
            · exact hin q z
            · have:q=pl:=by simpa using z
              rw [this];omega
      · rintro σ H2 ⟨rfl,hin,v,rfl⟩
        rw [List.length_map,List.take_length] at hin
        refine ⟨_,rfl,p,_,rfl,.inr (SqT.of hp3),rfl,_,rfl,?_⟩
        rw [List.length_map]
        rcases hp2 with ⟨i,e⟩ | ⟨i,j,e⟩
        · refine iteN (v_ne (by rw [e];show (1:Int)≠2;decide)) (iteF ?_)
          exact k (hok.mpr ⟨hin,fun i j z=>by rw [e] at z;cases z⟩) _ sm
        · refine iteP (by rw [e];rfl) ?_
          rw [e] at hp3
          refine ⟨_,rfl,p,_,_,_,rfl,rfl,SqT.of hp3,rfl,_,rfl,p,_,_,_,rfl,rfl,SqT.of hp3,rfl,rfl,_,rfl,?_⟩
          by_cases hij:i=j
          · exact iteP (by rw [hij]) ⟨by show 1≤1000;decide,kE (fun z=>(hok.mp z).2 i j e hij) _ sm⟩
          · refine iteN (v_ne hij) ?_
            refine k (hok.mpr ⟨hin,fun i' j' z=>?_⟩) _ sm
            rw [e] at z;cases z;exact hij
inductive SpColC (vs:List V) (H:Hp) (Q:VK):Prop
  | mk (a t:Addr) (rs:List Addr) (T:Tb) (m n:Nat) (c:E1.RC) (_:vs=[.ref a,.ref t]) (_:TabAt H a rs T) (_:Rect m n T) (_:IsCh H t (toCh (false,c))) (_:E1.ok2 m n (false,c)) (_:(∀i j q,c≠.add i j q)) (_:∀(H':Hp),TabAt H' a rs ((toCh (false,c)).app T)→Stay H H' (a::rs)→Q .non H'):SpColC vs H Q
def spColC:Sp:=fun vs H Q _=>SpColC vs H Q
theorem ok_q04 (D:DefAt K mg "change_by_column" s_q04 ["rows","change"]) (T:Bt mg) (C_q05:Callee P w K mg base 1 "swap_parts" ["parts","one","two"] spSwap):Callee P w K mg base 2 "change_by_column" ["rows","change"] spColC:=by
  refine D.ok (k:=1) sc_q04 (fun vs H Q E h=>?_) (fun f cdv A outer s H vs Q E hr h=>?_)
  · obtain ⟨_,_,_,_,_,_,_,rfl,_⟩:=h
    rfl
  · obtain ⟨a,t,rs,Tt,m,n,c,rfl,ht,hr',hc,hok,hpl,k⟩:=h
    refine ⟨_,(pss_cons (ps_set (i:=2) sc_q04.nd rfl (Or.inl rfl) (pe_ix ix_tup (pv 1) pe_int (fun _ _=>rfl)))
        (pss_one (ps_for PassesOwn.never rfl (pi_list (pv 0)) (pg_name (i:=3) sc_q04.nd rfl (Or.inl rfl)) (pss_one (ps_if (pt_cmpR op_eq (pe_ix ix_tup (pv 1) pe_int (fun _ _=>rfl)) pe_str (nomark _)) (pss_one (ps_asg (pe_op op_add (pe_ix ix_list (pv 3) (pv 2) (fun _ _=>rfl)) (pe_op op_mul (pe_ix ix_tup (pv 1) pe_int (fun _ _=>rfl)) (pe_ix ix_list (pv 3) (pe_ix ix_tup (pv 1) pe_int (fun _ _=>rfl)) (fun _ _=>rfl)))) (pg_sub (pv 3) (pv 2) set_list))) (pss_one (ps_if (pt_cmpR op_eq (pe_ix ix_tup (pv 1) pe_int (fun _ _=>rfl)) pe_str (nomark _)) (pss_one (ps_expr (pe_callC C_q05 (hr.mono (by decide)) rfl (pa_cons (pv 3) (pa_cons (pv 2) (pa_cons (pe_ix ix_tup (pv 1) pe_int (fun _ _=>rfl)) pa_nil)))))) (pss_one (ps_asg (pe_un un_neg (pe_ix ix_list (pv 3) (pv 2) (fun _ _=>rfl))) (pg_sub (pv 3) (pv 2) set_list)))))))))),?_⟩
    have hl:=ht.len hr'
    have h1:=ht.tab.1
    have nt:t∉a::rs:=fun z=>by
      rcases List.mem_cons.mp z with z | z
      · subst z;rw [IsCh,h1] at hc;cases hc
      · obtain ⟨row,e2⟩:=ht.tab.2.tracked t z
        rw [IsRow,hc] at e2;cases e2
    cases c with
    | add i j q=>exact absurd rfl (hpl i j q)
    | swap i j =>
      obtain ⟨hi,hj,hij⟩:=hok
      have hi:i<n:=hi
      have hj:j<n:=hj
      refine ⟨_,rfl,t,_,_,_,rfl,rfl,SqT.of hc,rfl,?_⟩
      refine ⟨_,rfl,a,rfl,⟨_,SqL.of h1⟩,for_list (K:=K) (a:=a) (xs:=rs.map V.ref) (fun k' σ H2=>TabAt H2 a rs (mapK (fun r=>(r.set i (r.getD j 0)).set j (r.getD i 0)) k' Tt)∧Stay H H2 (a::rs)∧∃v,σ=[some (.ref a),some (.ref t),some (.int i),v]) ⟨by rw [mapK_zero];exact ht,fun b o e _=>e,none,rfl⟩ (fun _ σ H2 _ h=>SqL.of h.1.tab.1) ?_ ?_⟩
      · rintro k' y σ H2 hy ⟨ht2,st2,v,rfl⟩
        obtain ⟨r,er,rfl⟩:=mref hy
        have hkm:k'<m:=by rw [←hl];exact (List.getElem?_eq_some_iff.mp er).1
        have hkl:k'<Tt.length:=by rw [hr'.1];exact hkm
        have et:Tt[k']?=some (Tt.getD k' []):=by simp [hkl]
        have hlr:=hr'.row hkm
        obtain ⟨r',er',hrow⟩:=ht2.tab.2.get (mapK_get.trans et)
        rw [er] at er';cases er'
        have hc2:=st2 _ _ hc nt
        refine ⟨_,rfl,t,_,_,_,rfl,rfl,SqT.of hc2,rfl,rfl,_,rfl,iteN ne_swap_add ?_⟩
        refine ⟨_,rfl,t,_,_,_,rfl,rfl,SqT.of hc2,rfl,rfl,_,rfl,iteP rfl ?_⟩
        refine ⟨_,rfl,_,rfl,_,rfl,t,_,_,_,rfl,rfl,SqT.of hc2,rfl,r,_,i,j,_,_,rfl,hrow,iget (getD_some hlr hi),iget (getD_some hlr hj),?_⟩
        rw [←List.map_set,←List.map_set]
        obtain ⟨q1,q2⟩:=col_turn (f:=fun r=>(r.set i (r.getD j 0)).set j (r.getD i 0)) ht2 st2 er et
        exact ⟨q1,q2,_,rfl⟩
      · rintro σ H2 ⟨ht2,st2,_⟩
        refine k H2 ?_ st2
        rw [List.length_map,hl,←hr'.1,mapK_all] at ht2
        exact ht2
    | turn i =>
      have hi:i<n:=hok
      refine ⟨_,rfl,t,_,_,_,rfl,rfl,SqT.of hc,rfl,?_⟩
      refine ⟨_,rfl,a,rfl,⟨_,SqL.of h1⟩,for_list (K:=K) (a:=a) (xs:=rs.map V.ref) (fun k' σ H2=>TabAt H2 a rs (mapK (fun r=>r.set i (-(r.getD i 0))) k' Tt)∧Stay H H2 (a::rs)∧∃v,σ=[some (.ref a),some (.ref t),some (.int i),v]) ⟨by rw [mapK_zero];exact ht,fun b o e _=>e,none,rfl⟩ (fun _ σ H2 _ h=>SqL.of h.1.tab.1) ?_ ?_⟩
      · rintro k' y σ H2 hy ⟨ht2,st2,v,rfl⟩
        obtain ⟨r,er,rfl⟩:=mref hy
        have hkm:k'<m:=by rw [←hl];exact (List.getElem?_eq_some_iff.mp er).1
        have hkl:k'<Tt.length:=by rw [hr'.1];exact hkm
        have et:Tt[k']?=some (Tt.getD k' []):=by simp [hkl]
        have hlr:=hr'.row hkm
        obtain ⟨r',er',hrow⟩:=ht2.tab.2.get (mapK_get.trans et)
        rw [er] at er';cases er'
        have hc2:=st2 _ _ hc nt
        refine ⟨_,rfl,t,_,_,_,rfl,rfl,SqT.of hc2,rfl,rfl,_,rfl,iteN ne_turn_add ?_⟩
        refine ⟨_,rfl,t,_,_,_,rfl,rfl,SqT.of hc2,rfl,rfl,_,rfl,iteN ne_turn_swap ?_⟩
        refine ⟨_,rfl,_,rfl,r,_,_,_,rfl,rfl,SqL.of hrow,atI_nat (iget (getD_some hlr hi)),_,rfl,_,rfl,_,rfl,r,_,_,i,rfl,rfl,hrow,ixN_nat (by rw [List.length_map,hlr];exact hi),?_⟩
        rw [←List.map_set]
        obtain ⟨q1,q2⟩:=col_turn (f:=fun r=>r.set i (-(r.getD i 0))) ht2 st2 er et
        exact ⟨q1,q2,_,rfl⟩
      · rintro σ H2 ⟨ht2,st2,_⟩
        refine k H2 ?_ st2
        rw [List.length_map,hl,←hr'.1,mapK_all] at ht2
        exact ht2
def IsIs (H:Hp) (l:Addr) (ts:List Addr) (cs:List ICh):Prop:=H l=some (.lst (ts.map V.ref))∧Paired (IsI H) ts cs
def TabC (cT cC:Addr) (T:Tb) (cs:List ICh) (H:Hp) (Q:VK) (E:XK):Prop :=
  (NoTab T∧∀H',Same H H'→E (.ref cT) none H')∨∃m n,Small m n T∧(∀c∈cs,c.ok m n→c.plain)∧((∀c∈cs,c.ok m n)→∀(v:V) (H':Hp),Same H H'→Q v H')∧((∃c∈cs,¬ c.ok m n)→∀H',Same H H'→E (.ref cC) none H')
def spAll (cT cC:Addr):Sp:=fun vs H Q E=>∃(a l:Addr) (rs ts:List Addr) (T:Tb) (cs:List ICh),vs=[.ref a,.ref l]∧TabAt H a rs T∧IsIs H l ts cs∧TabC cT cC T cs H Q E
theorem ok_q07 (D:DefAt K mg "changed_all" s_q07 ["table","changes"]) (T:Bt mg) (CX_q00:CalleeX P w K mg base 1 "refuse_no_table" ["table"] (spRefX c_BadTable)) (C_q01:Callee P w K mg base 1 "copied" ["table"] spCopy) (CX_q02:CalleeX P w K mg base 1 "refuse_bad_change" ["rows","change"] (spRefC c_BadChange)) (C_q03:Callee P w K mg base 2 "change_by_row" ["rows","change"] (spRow 1048576)) (C_q04:Callee P w K mg base 2 "change_by_column" ["rows","change"] spColC):CalleeX P w K mg base 3 "changed_all" ["table","changes"] (spAll c_BadTable c_BadChange):=by
  refine D.okX (k:=2) sc_q07 (fun vs H Q E h=>?_) (fun f cdv A outer s H vs Q E hr h=>?_)
  · obtain ⟨_,_,_,_,_,_,rfl,_⟩:=h
    rfl
  · obtain ⟨a,l,rs,ts,Tt,cs,rfl,ht,hcs,h⟩:=h
    refine ⟨_,(pss_cons (ps_expr (pe_callX raise_cx CX_q00 (hr.mono (by decide)) rfl (pa_cons (pv 0) pa_nil)))
        (pss_cons (ps_set (i:=2) sc_q07.nd rfl (Or.inl rfl) (pe_callC C_q01 (hr.mono (by decide)) rfl (pa_cons (pv 0) pa_nil)))
        (pss_cons (ps_for raise_cx.own rfl (pi_list (pv 1)) (pg_name (i:=3) sc_q07.nd rfl (Or.inl rfl)) (pss_cons (ps_expr (pe_callX raise_cx CX_q02 (hr.mono (by decide)) rfl (pa_cons (pv 2) (pa_cons (pv 3) pa_nil))))
        (pss_one (ps_if (pt_cmpR op_eq (pe_ix ix_tup (pv 3) pe_int (fun _ _=>rfl)) pe_str (nomark _)) (pss_one (ps_expr (pe_callC C_q03 (hr.mono (by decide)) rfl (pa_cons (pv 2) (pa_cons (pv 3) pa_nil))))) (pss_one (ps_expr (pe_callC C_q04 (hr.mono (by decide)) rfl (pa_cons (pv 2) (pa_cons (pv 3) pa_nil)))))))))
        (pss_one (ps_ret (pv 2)))))),?_⟩
    rcases h with ⟨hn,kE⟩ | ⟨m,n,sm,hpl,k,kE⟩
    · exact ⟨_,rfl,.inr ⟨a,rs,Tt,rfl,ht,hn,kE⟩⟩
    have hr':=sm.r
    have hm5:=sm.m5
    have hn5:=sm.n5
    have hB0:E1.Le 1048576 (ent Tt):=fun x y=>Nat.le_trans (sm.le x y) (Nat.pow_le_pow_right (by decide) (by decide))
    obtain ⟨m',em⟩:∃m',m=m'+1:=⟨m - 1,by have:=sm.m0;omega⟩
    obtain ⟨n',en⟩:∃n',n=n'+1:=⟨n - 1,by have:=sm.n0;omega⟩
    refine ⟨_,rfl,.inl ⟨a,rs,Tt,m',n',rfl,ht,by rw [←em,←en];exact hr',?_⟩⟩
    refine ⟨_,rfl,a,rs,Tt,rfl,ht,by rw [hr'.1];omega,fun p qs H1 sm1 ht1 new=>?_⟩
    have hcs1:H1 l=some (.lst (ts.map V.ref)):=sm1 _ _ hcs.1
    refine ⟨_,rfl,l,rfl,⟨_,SqL.of hcs1⟩,for_list (K:=K) (a:=l) (xs:=ts.map V.ref) (fun i σ H2=>∃(qs:List Addr) (T2:Tb) (v:Option V),σ=[some (.ref a),some (.ref l),some (.ref p),v]∧Same H H2∧TabAt H2 p qs T2∧Rect m n T2∧E1.Le 1048576 (ent T2)∧(∀c∈cs.take i,c.ok m n)∧(∀b∈p::qs,H b=none)) ⟨qs,Tt,none,rfl,sm1,ht1,hr',hB0,(fun _ z=>by simp at z),new⟩ (fun i σ H2 _ ⟨_,_,_,_,s2,_⟩=>SqL.of (s2 _ _ hcs.1)) ?_ ?_⟩
    · rintro i y σ H2 hy ⟨qs2,T2,v,rfl,s2,ht2,hr2,hB2,hok2,new2⟩
      obtain ⟨t,et,rfl⟩:=mref hy
      obtain ⟨c,ec,hc⟩:=pget hcs.2 et
      have hmem:c∈cs:=List.mem_of_getElem? ec
      refine ⟨_,rfl,_,rfl,p,t,qs2,T2,m,n,c,rfl,ht2,hr2,sm.m0,s2 _ _ hc,fun hco H3 s3=>?_,fun hco H3 s3=>kE ⟨c,hmem,hco⟩ _ (s2.trans s3)⟩
      obtain ⟨c',e1,e2,e3,e4⟩:=ICh.good hco (hpl c hmem hco)
      have hok3:∀d∈cs.take (i+1),d.ok m n:=fun d hd=>by
        rw [List.take_succ,ec] at hd
        rcases List.mem_append.mp hd with z | z
        · exact hok2 d z
        · have:d=c:=by simpa using z
          rw [this];exact hco
      have s23:=s2.trans s3
      have ht3:=ht2.same s3
      have hc3:H3 t=some (.tup (ichV c)):=s23 _ _ hc
      refine ⟨_,rfl,t,_,_,_,rfl,rfl,SqT.of hc3,ichV_1 c,rfl,_,rfl,?_⟩
      rw [sd_row,←e3]
      rw [e1] at hc3
      have hB4:=plain_le hr2 e2 e4 hB2
      have hr4:Rect m n ((toCh c').app T2):=Ch.app_rect hr2 (toCh_ok e2)
      obtain ⟨sd',rc⟩:=c'
      cases sd' with
      | true =>
        have hs:(toCh (true,rc)).side=true:=by cases rc <;> rfl
        rw [hs]
        have er:(toCh (true,rc)).rowd=toCh (true,rc):=rowd_toCh true rc
        refine iteT ⟨_,rfl,_,rfl,p,t,qs2,T2,m,n,toCh (true,rc),rfl,ht3,hr2,by omega,hc3,by rw [er];exact toCh_ok e2,?_,hB2,fun qs4 H4 ht4 st4 new4=>?_⟩
        · cases rc with
          | add i j q=>exact absurd rfl (e4 i j q)
          | swap i j=>trivial
          | turn i=>trivial
        · rw [er] at ht4
          refine ⟨qs4,_,_,rfl,fun b o e=>st4 b o (s23 b o e) (fun z=>by rw [new2 b z] at e;cases e),ht4,hr4,hB4,hok3,fun b hb=>?_⟩
          rcases List.mem_cons.mp hb with rfl | hb
          · exact new2 _ List.mem_cons_self
          · rcases new4 b hb with z | z
            · exact new2 b (List.mem_cons_of_mem _ z)
            · exact s23.free z
      | false =>
        have hs:(toCh (false,rc)).side=false:=by cases rc <;> rfl
        rw [hs]
        refine iteF ⟨_,rfl,_,rfl,p,t,qs2,T2,m,n,rc,rfl,ht3,hr2,hc3,e2,e4,fun H4 ht4 st4=>?_⟩
        exact ⟨qs2,_,_,rfl,fun b o e=>st4 b o (s23 b o e) (fun z=>by rw [new2 b z] at e;cases e),ht4,hr4,hB4,hok3,new2⟩
    · rintro σ H2 ⟨qs2,T2,v,rfl,s2,ht2,hr2,hB2,hok2,new2⟩
      rw [List.length_map,Paired.length hcs.2,List.take_length] at hok2
      exact ⟨_,rfl,k hok2 _ H2 s2⟩
def spOne (cT cC:Addr):Sp:=fun vs H Q E=>∃(a t:Addr) (rs:List Addr) (T:Tb) (c:ICh),vs=[.ref a,.ref t]∧TabAt H a rs T∧IsI H t c∧TabC cT cC T [c] H Q E
theorem TabC.same {cT cC:Addr} {T:Tb} {cs:List ICh} {H H1:Hp} {Q:VK} {E:XK} (h:TabC cT cC T cs H Q E) (s:Same H H1):TabC cT cC T cs H1 Q E:=by
  rcases h with ⟨hn,k⟩ | ⟨m,n,sm,hp,k,kE⟩
  · exact .inl ⟨hn,fun H' s'=>k H' (s.trans s')⟩
  · exact .inr ⟨m,n,sm,hp,fun z v H' s'=>k z v H' (s.trans s'),fun z H' s'=>kE z H' (s.trans s')⟩
theorem ok_q06 (D:DefAt K mg "changed" s_q06 ["table","change"]) (T:Bt mg) (CX_q07:CalleeX P w K mg base 3 "changed_all" ["table","changes"] (spAll c_BadTable c_BadChange)):CalleeX P w K mg base 4 "changed" ["table","change"] (spOne c_BadTable c_BadChange):=by
  refine D.okX (k:=3) sc_q06 (fun vs H Q E h=>?_) (fun f cdv A outer s H vs Q E hr h=>?_)
  · obtain ⟨_,_,_,_,_,rfl,_⟩:=h
    rfl
  · obtain ⟨a,t,rs,Tt,c,rfl,ht,hc,h⟩:=h
    refine ⟨_,(pss_one (ps_ret (pe_callX raise_cx CX_q07 (hr.mono (by decide)) rfl (pa_cons (pv 0) (pa_cons (pe_lst (pa_cons (pv 1) pa_nil)) pa_nil))))),?_⟩
    refine ⟨_,rfl,_,rfl,by show 1≤sizeLine;decide,fun l hl=>?_⟩
    have s1:Same H (upd H l (.lst [.ref t])):=same_upd hl
    exact ⟨a,l,rs,[t],Tt,[c],rfl,ht.same s1,⟨upd_same,.cons (s1 _ _ hc) .nil⟩,h.same s1⟩
end
end X1
namespace X1
open PySem L2
section
variable {P:Program} {w:World} {K:PySem.W.Frag} {mg:Str→Option Value} {base:Heap} {c_BadTable c_BadChange c_BadRow c_BadNumber:Addr}
def spBrX (c:Addr):Sp:=fun vs H Q E=>spBrought 1048576 vs H Q E∨spBad c vs H Q E
theorem bad_q0g (D:DefAt K mg "brought" s_q0g ["table"]) (T:Bt mg) (C_q0g:Callee P w K mg base 46 "brought" ["table"] (spBrought 1048576)) (CX_q00:CalleeX P w K mg base 1 "refuse_no_table" ["table"] (spRefX c_BadTable)):CalleeX P w K mg base 46 "brought" ["table"] (spBrX c_BadTable):=by
  refine D.also (k:=45) C_q0g sc_q0g (fun vs H Q E h=>?_) (fun f cdv A outer s H vs Q E hr h=>?_)
  · obtain ⟨_,_,_,rfl,_⟩:=h
    rfl
  · obtain ⟨a,rs,Tt,rfl,ht,hn,kE⟩:=h
    refine ⟨_,(pss_cons (ps_expr (pe_callX raise_cx CX_q00 (hr.mono (by decide)) rfl (pa_cons (pv 0) pa_nil)))
        pss_never),?_⟩
    exact ⟨_,rfl,.inr ⟨a,rs,Tt,rfl,ht,hn,kE⟩⟩
def spDgX (c:Addr):Sp:=fun vs H Q E=>spDiagonal 1048576 vs H Q E∨spBad c vs H Q E
theorem bad_q0h (D:DefAt K mg "diagonal" s_q0h ["table"]) (T:Bt mg) (C_q0h:Callee P w K mg base 47 "diagonal" ["table"] (spDiagonal 1048576)) (CX_q0g:CalleeX P w K mg base 46 "brought" ["table"] (spBrX c_BadTable)):CalleeX P w K mg base 47 "diagonal" ["table"] (spDgX c_BadTable):=by
  refine D.also (k:=46) C_q0h sc_q0h (fun vs H Q E h=>?_) (fun f cdv A outer s H vs Q E hr h=>?_)
  · obtain ⟨_,_,_,rfl,_⟩:=h
    rfl
  · obtain ⟨a,rs,Tt,rfl,ht,hn,kE⟩:=h
    refine ⟨_,(pss_cons (ps_set (i:=1) sc_q0h.nd rfl (Or.inr rfl) (pe_ix ix_tup (pe_callX raise_cx CX_q0g (hr.mono (by decide)) rfl (pa_cons (pv 0) pa_nil)) pe_int (fun _ _=>rfl)))
        pss_never),?_⟩
    exact ⟨_,rfl,.inr ⟨a,rs,Tt,rfl,ht,hn,kE⟩⟩
def spClX (c:Addr):Sp:=fun vs H Q E=>spClasses vs H Q E∨spBad c vs H Q E
theorem bad_q0u (D:DefAt K mg "classes" s_q0u ["table"]) (T:Bt mg) (C_q0u:Callee P w K mg base 48 "classes" ["table"] spClasses) (CX_q0h:CalleeX P w K mg base 47 "diagonal" ["table"] (spDgX c_BadTable)):CalleeX P w K mg base 48 "classes" ["table"] (spClX c_BadTable):=by
  refine D.also (k:=47) C_q0u sc_q0u (fun vs H Q E h=>?_) (fun f cdv A outer s H vs Q E hr h=>?_)
  · obtain ⟨_,_,_,rfl,_⟩:=h
    rfl
  · obtain ⟨a,rs,Tt,rfl,ht,hn,kE⟩:=h
    refine ⟨_,(pss_cons (ps_set (i:=1) sc_q0u.nd rfl (Or.inl rfl) (pe_callX raise_cx CX_q0h (hr.mono (by decide)) rfl (pa_cons (pv 0) pa_nil)))
        pss_never),?_⟩
    exact ⟨_,rfl,.inr ⟨a,rs,Tt,rfl,ht,hn,kE⟩⟩
def spBadK (c:Addr):Sp:=fun vs H Q E=>∃(a b:Addr) (rs qs:List Addr) (T U:Tb),vs=[.ref a,.ref b]∧TabAt H a rs T∧TabAt H b qs U∧(NoTab T∨(∃m n,Small m n T)∧NoTab U)∧∀H',Same H H'→E (.ref c) none H'
def spKinX (c:Addr):Sp:=fun vs H Q E=>spKin vs H Q E∨spBadK c vs H Q E
theorem bad_q0o (D:DefAt K mg "are_kin" s_q0o ["one","two"]) (T:Bt mg) (C_q0o:Callee P w K mg base 47 "are_kin" ["one","two"] spKin) (CX_q0g:CalleeX P w K mg base 46 "brought" ["table"] (spBrX c_BadTable)):CalleeX P w K mg base 47 "are_kin" ["one","two"] (spKinX c_BadTable):=by
  refine D.also (k:=46) C_q0o sc_q0o (fun vs H Q E h=>?_) (fun f cdv A outer s H vs Q E hr h=>?_)
  · obtain ⟨_,_,_,_,_,_,rfl,_⟩:=h
    rfl
  · obtain ⟨a,b,rs,qs,Tt,U,rfl,ht,hu,hn,kE⟩:=h
    refine ⟨_,(pss_one (ps_ret (pe_cmpR (op_eqT hr.units) (pe_ix ix_tup (pe_callX raise_cx CX_q0g (hr.mono (by decide)) rfl (pa_cons (pv 0) pa_nil)) pe_int (fun _ _=>rfl)) (pe_ix ix_tup (pe_callX raise_cx CX_q0g (hr.mono (by decide)) rfl (pa_cons (pv 1) pa_nil)) pe_int (fun _ _=>rfl)) (nomark _)))),?_⟩
    rcases hn with hn | ⟨⟨m,n,sm⟩,hn⟩
    · exact ⟨_,rfl,.inr ⟨a,rs,Tt,rfl,ht,hn,kE⟩⟩
    · obtain ⟨L,e,br,_,hz⟩:=sm.br
      have:=sm.m5;have:=sm.n5
      refine ⟨_,rfl,.inl ⟨a,rs,Tt,m,n,L,e,rfl,ht,sm.r,sm.m0,sm.n0,by omega,by omega,br,Nat.le_trans hz (by decide),fun p a2 l rs2 ts2 T2 H1 s1 hp hta hr2 he2 _ _=>?_⟩⟩
      exact ⟨p,_,_,_,rfl,rfl,SqT.of hp,rfl,_,rfl,.inr ⟨b,qs,U,rfl,hu.same s1,hn,fun H' s'=>kE H' (s1.trans s')⟩⟩
def spBad2 (c:Addr):Sp:=fun vs H Q E=>∃(a:Addr) (v:V) (rs:List Addr) (T:Tb),vs=[.ref a,v]∧TabAt H a rs T∧NoTab T∧∀H',Same H H'→E (.ref c) none H'
def spRdX (c:Addr):Sp:=fun vs H Q E=>spRoad vs H Q E∨spBad2 c vs H Q E
theorem bad_q0p (D:DefAt K mg "road" s_q0p ["one","two"]) (T:Bt mg) (C_q0p:Callee P w K mg base 47 "road" ["one","two"] spRoad) (CX_q0g:CalleeX P w K mg base 46 "brought" ["table"] (spBrX c_BadTable)):CalleeX P w K mg base 47 "road" ["one","two"] (spRdX c_BadTable):=by
  refine D.also (k:=46) C_q0p sc_q0p (fun vs H Q E h=>?_) (fun f cdv A outer s H vs Q E hr h=>?_)
  · obtain ⟨_,_,_,_,rfl,_⟩:=h
    rfl
  · obtain ⟨a,v,rs,Tt,rfl,ht,hn,kE⟩:=h
    refine ⟨_,(pss_cons (ps_set (i:=2) sc_q0p.nd rfl (Or.inl rfl) (pe_callX raise_cx CX_q0g (hr.mono (by decide)) rfl (pa_cons (pv 0) pa_nil)))
        pss_never),?_⟩
    exact ⟨_,rfl,.inr ⟨a,rs,Tt,rfl,ht,hn,kE⟩⟩
def spBadH (cT cR:Addr):Sp:=fun vs H Q E=>∃(a r:Addr) (rs:List Addr) (T:Tb) (row:List Int),vs=[.ref a,.ref r]∧TabAt H a rs T∧IsRow H r row ∧
  ((NoTab T∧∀H',Same H H'→E (.ref cT) none H')∨((∃m n,Small m n T∧row.length≠n)∧∀H',Same H H'→E (.ref cR) none H'))
def spHoX (cT cR:Addr):Sp:=fun vs H Q E=>spHowOften vs H Q E∨spBadH cT cR vs H Q E
theorem bad_q0q (D:DefAt K mg "how_often" s_q0q ["table","row"]) (T:Bt mg) (e_BadRow:ECls K mg "BadRow" c_BadRow) (C_q0q:Callee P w K mg base 46 "how_often" ["table","row"] spHowOften) (CX_q00:CalleeX P w K mg base 1 "refuse_no_table" ["table"] (spRefX c_BadTable)):CalleeX P w K mg base 46 "how_often" ["table","row"] (spHoX c_BadTable c_BadRow):=by
  refine D.also (k:=45) C_q0q sc_q0q (fun vs H Q E h=>?_) (fun f cdv A outer s H vs Q E hr h=>?_)
  · obtain ⟨_,_,_,_,_,rfl,_⟩:=h
    rfl
  · obtain ⟨a,r,rs,Tt,row,rfl,ht,hrow,h⟩:=h
    refine ⟨_,(pss_cons (ps_expr (pe_callX raise_cx CX_q00 (hr.mono (by decide)) rfl (pa_cons (pv 0) pa_nil)))
        (pss_cons (ps_set (i:=2) sc_q0q.nd rfl (Or.inl rfl) (pe_callB call_len_seq rfl T.len bt_len (pa_cons (pe_ix ix_list (pv 0) pe_int (fun _ _=>rfl)) pa_nil)))
        (pss_cons (ps_if (pt_cmpR op_ne (pe_callB call_len_seq rfl T.len bt_len (pa_cons (pv 1) pa_nil)) (pv 2) (nomark _)) (pss_one (ps_raise raise_cx rfl rfl e_BadRow.m e_BadRow.q (pa_cons pe_str pa_nil))) pss_nil)
        pss_never))),?_⟩
    rcases h with ⟨hn,kE⟩ | ⟨⟨m,n,sm,hne⟩,kE⟩
    · exact ⟨_,rfl,.inr ⟨a,rs,Tt,rfl,ht,hn,kE⟩⟩
    · have hr':=sm.r
      obtain ⟨m',rfl⟩:∃m',m=m'+1:=⟨m - 1,by have:=sm.m0;omega⟩
      obtain ⟨n',rfl⟩:∃n',n=n'+1:=⟨n - 1,by have:=sm.n0;omega⟩
      have h1:=ht.tab.1
      obtain ⟨r0,e0,_,hr0,hl0⟩:=ht.at hr' sm.m0
      refine ⟨_,rfl,.inl ⟨a,rs,Tt,m',n',rfl,ht,hr',?_⟩⟩
      refine ⟨_,rfl,a,_,_,_,rfl,rfl,SqL.of h1,atI_nat (j:=0) (rget e0),r0,_,rfl,.inl (SqL.of hr0),?_⟩
      rw [List.length_map,hl0]
      refine ⟨_,rfl,r,_,rfl,.inl (SqL.of hrow),_,rfl,rfl,_,rfl,?_⟩
      rw [List.length_map]
      exact iteNN (v_ne (by omega)) ⟨by show 1≤1000;decide,kE _ (Same.refl _)⟩
def spBadM (cT cN:Addr):Sp:=fun vs H Q E=>∃(a:Addr) (N:Int) (rs:List Addr) (T:Tb),vs=[.ref a,.int N]∧TabAt H a rs T ∧
  ((NoTab T∧∀H',Same H H'→E (.ref cT) none H')∨((∃m n,Small m n T)∧N<1∧∀H',Same H H'→E (.ref cN) none H'))
def spHmX (cT cN:Addr):Sp:=fun vs H Q E=>spHowMany vs H Q E∨spBadM cT cN vs H Q E
theorem bad_q0v (D:DefAt K mg "how_many" s_q0v ["table","number"]) (T:Bt mg) (e_BadNumber:ECls K mg "BadNumber" c_BadNumber) (C_q0v:Callee P w K mg base 48 "how_many" ["table","number"] spHowMany) (CX_q00:CalleeX P w K mg base 1 "refuse_no_table" ["table"] (spRefX c_BadTable)):CalleeX P w K mg base 48 "how_many" ["table","number"] (spHmX c_BadTable c_BadNumber):=by
  refine D.also (k:=47) C_q0v sc_q0v (fun vs H Q E h=>?_) (fun f cdv A outer s H vs Q E hr h=>?_)
  · obtain ⟨_,_,_,_,rfl,_⟩:=h
    rfl
  · obtain ⟨a,N,rs,Tt,rfl,ht,h⟩:=h
    refine ⟨_,(pss_cons (ps_expr (pe_callX raise_cx CX_q00 (hr.mono (by decide)) rfl (pa_cons (pv 0) pa_nil)))
        (pss_cons (ps_if (pt_cmpR op_lt (pv 1) pe_int (nomark _)) (pss_one (ps_raise raise_cx rfl rfl e_BadNumber.m e_BadNumber.q (pa_cons pe_str pa_nil))) pss_nil)
        pss_never)),?_⟩
    rcases h with ⟨hn,kE⟩ | ⟨⟨m,n,sm⟩,hN,kE⟩
    · exact ⟨_,rfl,.inr ⟨a,rs,Tt,rfl,ht,hn,kE⟩⟩
    · have hr':=sm.r
      obtain ⟨m',rfl⟩:∃m',m=m'+1:=⟨m - 1,by have:=sm.m0;omega⟩
      obtain ⟨n',rfl⟩:∃n',n=n'+1:=⟨n - 1,by have:=sm.n0;omega⟩
      refine ⟨_,rfl,.inl ⟨a,rs,Tt,m',n',rfl,ht,hr',?_⟩⟩
      exact ⟨_,rfl,_,_,rfl,rfl,_,rfl,iteP hN ⟨by show 1≤1000;decide,kE _ (Same.refl _)⟩⟩
inductive Kd where
  | t | c | r | n
def Kd.cl (cT cC cR cN:Addr):Kd→Addr
  | .t=>cT
  | .c=>cC
  | .r=>cR
  | .n=>cN
inductive Due (T:Tb) (ch:ICh) (len:Nat) (num:Int) (w:Nat):Option Kd→Prop
  | tab (_:NoTab T):Due T ch len num w (some .t)
  | chg (m n:Nat) (_:Small m n T) (_:w<2) (_:¬ ch.ok m n):Due T ch len num w (some .c)
  | row (m n:Nat) (_:Small m n T) (_:w=6) (_:len≠n):Due T ch len num w (some .r)
  | num (m n:Nat) (_:Small m n T) (_:w=8) (_:num<1):Due T ch len num w (some .n)
  | done (m n:Nat) (_:Small m n T) (_:w<2→ch.ok m n) (_:w=6→len=n) (_:w=8→1≤num):Due T ch len num w none
inductive Hnd (H:Hp) (T:Tb) (ch:ICh) (row:List Int) (num:Int) (w:Nat):List V→Prop
  | mk (t c r:Addr) (rs:List Addr) (_:TabAt H t rs T) (_:IsI H c ch) (_:IsRow H r row) (_:w<10) (_:∀m n,ch.ok m n→ch.plain) (_:∀y,(rowF row y).natAbs≤2^4) (_:num≤3):Hnd H T ch row num w [.int w,.ref t,.ref c,.ref r,.int num]
theorem Hnd.same {H H':Hp} {T:Tb} {ch:ICh} {row:List Int} {num:Int} {w:Nat} {vs:List V} (h:Hnd H T ch row num w vs) (s:Same H H'):Hnd H' T ch row num w vs:=by
  obtain ⟨t,c,r,rs,h1,h2,h3,h4,h5,h6,h7⟩:=h
  exact ⟨t,c,r,rs,h1.same s,s _ _ h2,s _ _ h3,h4,h5,h6,h7⟩
def spDone (cl:Kd→Addr):Sp:=fun vs H Q E=>∃(T:Tb) (ch:ICh) (row:List Int) (num:Int) (w:Nat) (o:Option Kd),Hnd H T ch row num w vs∧Due T ch row.length num w o ∧
  (o=none→∀H',Same H H'→Q .non H')∧∀k,o=some k→∀H',Same H H'→E (.ref (cl k)) none H'
theorem small_one:Small 1 1 [[1]]:=by
  refine ⟨⟨rfl,by simp⟩,by decide,by decide,.inl ⟨by decide,by decide⟩,fun x y=>?_⟩
  unfold ent
  rcases x with _ | x
  · rcases y with _ | y
    · decide
    · simp
  · simp
theorem due_tab {T:Tb} {ch:ICh} {len:Nat} {num:Int} {w:Nat} {o:Option Kd} (h:Due T ch len num w o) (h0:w=2∨w=3∨w=4∨w=5∨w=7∨w=9):(NoTab T∧o=some .t)∨((∃m n,Small m n T)∧o=none):=by
  cases h with
  | tab h=>exact .inl ⟨h,rfl⟩
  | chg m n _ h=>omega
  | row m n _ h=>omega
  | num m n _ h=>omega
  | done m n h=>exact .inr ⟨⟨m,n,h⟩,rfl⟩
theorem due_chg {T:Tb} {ch:ICh} {len:Nat} {num:Int} {w:Nat} {o:Option Kd} (h:Due T ch len num w o) (h0:w<2):(NoTab T∧o=some .t)∨∃m n,Small m n T∧((ch.ok m n∧o=none)∨(¬ ch.ok m n∧o=some .c)):=by
  cases h with
  | tab h=>exact .inl ⟨h,rfl⟩
  | chg m n h _ hn=>exact .inr ⟨m,n,h,.inr ⟨hn,rfl⟩⟩
  | row m n _ h=>omega
  | num m n _ h=>omega
  | done m n h h2=>exact .inr ⟨m,n,h,.inl ⟨h2 h0,rfl⟩⟩
theorem due_tabC {cl:Kd→Addr} {H:Hp} {Q:VK} {E:XK} {T:Tb} {ch:ICh} {len:Nat} {num:Int} {w:Nat} {o:Option Kd} (h:Due T ch len num w o) (h0:w<2) (hp:∀m n,ch.ok m n→ch.plain) (cs:List ICh) (hcs:∀m n,0<m→((∀c∈cs,c.ok m n)↔ch.ok m n)) (hpl:∀m n,∀c∈cs,c.ok m n→c.plain)
    (k:o=none→∀H',Same H H'→Q .non H') (kE:∀k,o=some k→∀H',Same H H'→E (.ref (cl k)) none H'):TabC (cl .t) (cl .c) T cs H (fun _ H'=>Q .non H') E:=by
  rcases due_chg h h0 with ⟨hn,e⟩ | ⟨m,n,sm,h⟩
  · exact .inl ⟨hn,fun H' s=>kE .t e H' s⟩
  · refine .inr ⟨m,n,sm,hpl m n,fun z v H' s=>?_,fun ⟨c,hc,z⟩ H' s=>?_⟩
    · rcases h with ⟨_,e⟩ | ⟨h,_⟩
      · exact k e H' s
      · exact absurd ((hcs m n sm.m0).mp z) h
    · rcases h with ⟨h,_⟩ | ⟨_,e⟩
      · exact absurd ((hcs m n sm.m0).mpr h c hc) z
      · exact kE .c e H' s
end
end X1
namespace X1
open PySem L2
theorem turn0_ok {m n:Nat} (h:0<m):(ICh.turn true 0).ok m n:=by
  refine ⟨fun p hp=>?_,fun i j e=>by cases e⟩
  have:p=0:=by simpa [ICh.places] using hp
  subst this
  exact ⟨Int.le_refl _,by show (0:Int)<(m:Int);omega⟩
theorem tab_one {H:Hp} {r l:Addr} (hr:H r=none) (hl:(upd H r (.lst [.int 1])) l=none):Same H (upd (upd H r (.lst [.int 1])) l (.lst [.ref r]))∧TabAt (upd (upd H r (.lst [.int 1])) l (.lst [.ref r])) l [r] [[1]]:=by
  have hne:r≠l:=fun z=>by rw [←z,upd_same] at hl;cases hl
  refine ⟨(same_upd hr).laid hl,⟨⟨upd_same,.cons ?_ .nil⟩,?_⟩⟩
  · show upd _ l _ r=_
    rw [upd_ne hne,upd_same];rfl
  · simp [hne.symm]
section
variable {P:Program} {w:World} {K:PySem.W.Frag} {mg:Str→Option Value} {base:Heap} {c_BadTable c_BadChange c_BadRow c_BadNumber c_TableError c_NoRoad c_NoLine:Addr}
set_option maxHeartbeats 4000000 in
theorem ok_q11 (D:DefAt K mg "_law_done" s_q11 ["_law_which","_law_table","_law_change","_law_row","_law_number"]) (T:Bt mg) (CX_q06:CalleeX P w K mg base 4 "changed" ["table","change"] (spOne c_BadTable c_BadChange)) (CX_q07:CalleeX P w K mg base 3 "changed_all" ["table","changes"] (spAll c_BadTable c_BadChange)) (CX_q0g:CalleeX P w K mg base 46 "brought" ["table"] (spBrX c_BadTable)) (CX_q0h:CalleeX P w K mg base 47 "diagonal" ["table"] (spDgX c_BadTable)) (CX_q0o:CalleeX P w K mg base 47 "are_kin" ["one","two"] (spKinX c_BadTable)) (CX_q0p:CalleeX P w K mg base 47 "road" ["one","two"] (spRdX c_BadTable)) (CX_q0q:CalleeX P w K mg base 46 "how_often" ["table","row"] (spHoX c_BadTable c_BadRow)) (CX_q0u:CalleeX P w K mg base 48 "classes" ["table"] (spClX c_BadTable)) (CX_q0v:CalleeX P w K mg base 48 "how_many" ["table","number"] (spHmX c_BadTable c_BadNumber)):CalleeX P w K mg base 49 "_law_done" ["_law_which","_law_table","_law_change","_law_row","_law_number"] (spDone (Kd.cl c_BadTable c_BadChange c_BadRow c_BadNumber)):=by
  refine D.okX (k:=48) sc_q11 (fun vs H Q E h=>?_) (fun f cdv A outer s H vs Q E hr h=>?_)
  · obtain ⟨_,_,_,_,_,_,hh,_⟩:=h
    cases hh;rfl
  · obtain ⟨Tt,ch,row,num,w',o,hh,hd,k,kE⟩:=h
    obtain ⟨t,c,r,rs,ht,hc,hrow,hw,hp,hy,hn3⟩:=hh
    refine ⟨_,(pss_one (ps_if (pt_cmpR op_eq (pv 0) pe_int (nomark _)) (pss_one (ps_expr (pe_callX raise_cx CX_q06 (hr.mono (by decide)) rfl (pa_cons (pv 1) (pa_cons (pv 2) pa_nil))))) (pss_one (ps_if (pt_cmpR op_eq (pv 0) pe_int (nomark _)) (pss_one (ps_expr (pe_callX raise_cx CX_q07 (hr.mono (by decide)) rfl (pa_cons (pv 1) (pa_cons (pe_lst (pa_cons (pe_tup (pa_cons pe_str (pa_cons pe_str (pa_cons pe_int pa_nil)))) (pa_cons (pv 2) pa_nil))) pa_nil))))) (pss_one (ps_if (pt_cmpR op_eq (pv 0) pe_int (nomark _)) (pss_one (ps_expr (pe_callX raise_cx CX_q0g (hr.mono (by decide)) rfl (pa_cons (pv 1) pa_nil)))) (pss_one (ps_if (pt_cmpR op_eq (pv 0) pe_int (nomark _)) (pss_one (ps_expr (pe_callX raise_cx CX_q0h (hr.mono (by decide)) rfl (pa_cons (pv 1) pa_nil)))) (pss_one (ps_if (pt_cmpR op_eq (pv 0) pe_int (nomark _)) (pss_one (ps_expr (pe_callX raise_cx CX_q0o (hr.mono (by decide)) rfl (pa_cons (pe_lst (pa_cons (pe_lst (pa_cons pe_int pa_nil)) pa_nil)) (pa_cons (pv 1) pa_nil))))) (pss_one (ps_if (pt_cmpR op_eq (pv 0) pe_int (nomark _)) (pss_one (ps_expr (pe_callX raise_cx CX_q0p (hr.mono (by decide)) rfl (pa_cons (pv 1) (pa_cons (pv 1) pa_nil))))) (pss_one (ps_if (pt_cmpR op_eq (pv 0) pe_int (nomark _)) (pss_one (ps_expr (pe_callX raise_cx CX_q0q (hr.mono (by decide)) rfl (pa_cons (pv 1) (pa_cons (pv 3) pa_nil))))) (pss_one (ps_if (pt_cmpR op_eq (pv 0) pe_int (nomark _)) (pss_one (ps_expr (pe_callX raise_cx CX_q0u (hr.mono (by decide)) rfl (pa_cons (pv 1) pa_nil)))) (pss_one (ps_if (pt_cmpR op_eq (pv 0) pe_int (nomark _)) (pss_one (ps_expr (pe_callX raise_cx CX_q0v (hr.mono (by decide)) rfl (pa_cons (pv 1) (pa_cons (pv 4) pa_nil))))) (pss_one (ps_expr (pe_callX raise_cx CX_q0o (hr.mono (by decide)) rfl (pa_cons (pv 1) (pa_cons (pe_lst (pa_cons (pe_lst (pa_cons pe_int pa_nil)) pa_nil)) pa_nil))))))))))))))))))))))),?_⟩
    rcases (show w'=0∨w'=1∨w'=2∨w'=3∨w'=4∨w'=5∨w'=6∨w'=7∨w'=8∨w'=9 by omega) with rfl | rfl | rfl | rfl | rfl | rfl | rfl | rfl | rfl | rfl
    · refine ⟨_,rfl,rfl,_,rfl,iteP rfl ?_⟩
      refine ⟨_,rfl,_,rfl,t,c,rs,Tt,ch,rfl,ht,hc,due_tabC hd (by decide) hp [ch] (fun m n _=>by simp) (fun m n d hd=>?_) k kE⟩
      have:d=ch:=by simpa using hd
      rw [this];exact hp m n
    · refine ⟨_,rfl,rfl,_,rfl,iteN (v_ne (by decide)) ⟨_,rfl,rfl,_,rfl,iteP rfl ?_⟩⟩
      refine ⟨_,rfl,by show 3≤sizeLine;decide,fun p hpn=>⟨_,rfl,by show 2≤sizeLine;decide,fun l hl=>?_⟩⟩
      have s1:Same H (upd H p (.tup [.str "turn",.str "row",.int 0])):=same_upd hpn
      have hi:IsI (upd H p (.tup [.str "turn",.str "row",.int 0])) p (.turn true 0):=upd_same
      have s2:Same (upd H p (.tup [.str "turn",.str "row",.int 0])) _:=same_upd (o:=.lst [.ref p,.ref c]) hl
      have s12:=s1.trans s2
      refine ⟨t,l,rs,[p,c],Tt,[.turn true 0,ch],rfl,ht.same s12,⟨upd_same,.cons (s2 _ _ hi) (.cons (s12 _ _ hc) .nil)⟩,(due_tabC hd (by decide) hp [.turn true 0,ch] (fun m n h0=>?_) (fun m n d hd=>?_) k kE).same s12⟩
      · simp [turn0_ok h0]
      · rcases List.mem_cons.mp hd with rfl | hd
        · exact fun _=>trivial
        · have:d=ch:=by simpa using hd
          rw [this];exact hp m n
    · iterate 2 refine ⟨_,rfl,rfl,_,rfl,iteN (v_ne (by decide)) ?_⟩
      refine ⟨_,rfl,rfl,_,rfl,iteP rfl ⟨_,rfl,?_⟩⟩
      rcases due_tab hd (by decide) with ⟨hn,e⟩ | ⟨⟨m,n,sm⟩,e⟩
      · exact .inr ⟨t,rs,Tt,rfl,ht,hn,fun H' s=>kE .t e H' s⟩
      · obtain ⟨L,e',br,_,hz⟩:=sm.br
        have:=sm.m5;have:=sm.n5
        exact .inl ⟨t,rs,Tt,m,n,L,e',rfl,ht,sm.r,sm.m0,sm.n0,by omega,by omega,br,Nat.le_trans hz (by decide),fun _ _ _ _ _ _ H1 s1 _ _ _ _ _ _=>k e H1 s1⟩
    · iterate 3 refine ⟨_,rfl,rfl,_,rfl,iteN (v_ne (by decide)) ?_⟩
      refine ⟨_,rfl,rfl,_,rfl,iteP rfl ⟨_,rfl,?_⟩⟩
      rcases due_tab hd (by decide) with ⟨hn,e⟩ | ⟨⟨m,n,sm⟩,e⟩
      · exact .inr ⟨t,rs,Tt,rfl,ht,hn,fun H' s=>kE .t e H' s⟩
      · obtain ⟨L,e',br,_,hz⟩:=sm.br
        have:=sm.m5;have:=sm.n5
        exact .inl ⟨t,rs,Tt,m,n,L,e',rfl,ht,sm.r,sm.m0,sm.n0,by omega,by omega,br,Nat.le_trans hz (by decide),fun _ H1 s1 _ _=>k e H1 s1⟩
    · iterate 4 refine ⟨_,rfl,rfl,_,rfl,iteN (v_ne (by decide)) ?_⟩
      refine ⟨_,rfl,rfl,_,rfl,iteP rfl ?_⟩
      refine ⟨by show 1≤sizeLine;decide,fun r1 hr1=>⟨by show 1≤sizeLine;decide,fun l1 hl1=>⟨_,rfl,?_⟩⟩⟩
      obtain ⟨s1,t1⟩:=tab_one hr1 hl1
      rcases due_tab hd (by decide) with ⟨hn,e⟩ | ⟨⟨m,n,sm⟩,e⟩
      · exact .inr ⟨l1,t,[r1],rs,[[1]],Tt,rfl,t1,ht.same s1,.inr ⟨⟨1,1,small_one⟩,hn⟩,fun H' s=>kE .t e H' (s1.trans s)⟩
      · exact .inl ⟨l1,t,[r1],rs,[[1]],Tt,1,1,m,n,rfl,t1,small_one,ht.same s1,sm,fun v H' s=>k e H' (s1.trans s)⟩
    · iterate 5 refine ⟨_,rfl,rfl,_,rfl,iteN (v_ne (by decide)) ?_⟩
      refine ⟨_,rfl,rfl,_,rfl,iteP rfl ⟨_,rfl,_,rfl,?_⟩⟩
      rcases due_tab hd (by decide) with ⟨hn,e⟩ | ⟨⟨m,n,sm⟩,e⟩
      · exact .inr ⟨t,_,rs,Tt,rfl,ht,hn,fun H' s=>kE .t e H' s⟩
      · exact .inl ⟨t,rs,Tt,m,n,rfl,ht,sm,fun v H' s=>k e H' s⟩
    · iterate 6 refine ⟨_,rfl,rfl,_,rfl,iteN (v_ne (by decide)) ?_⟩
      refine ⟨_,rfl,rfl,_,rfl,iteP rfl ⟨_,rfl,_,rfl,?_⟩⟩
      cases hd with
      | tab hn=>exact .inr ⟨t,r,rs,Tt,row,rfl,ht,hrow,.inl ⟨hn,fun H' s=>kE .t rfl H' s⟩⟩
      | chg m n _ h=>omega
      | row m n sm _ hne=>exact .inr ⟨t,r,rs,Tt,row,rfl,ht,hrow,.inr ⟨⟨m,n,sm,hne⟩,fun H' s=>kE .r rfl H' s⟩⟩
      | num m n _ h=>omega
      | done m n sm _ h6 _ =>
        have h1:=sm.sz;have:=sm.n5
        exact .inl ⟨t,r,rs,Tt,row,m,n,rfl,ht,sm.r,hrow,h6 rfl,sm.m0,sm.n0,by omega,by omega,sm.le,hy,fun v H' s=>k rfl H' s⟩
    · iterate 7 refine ⟨_,rfl,rfl,_,rfl,iteN (v_ne (by decide)) ?_⟩
      refine ⟨_,rfl,rfl,_,rfl,iteP rfl ⟨_,rfl,?_⟩⟩
      rcases due_tab hd (by decide) with ⟨hn,e⟩ | ⟨⟨m,n,sm⟩,e⟩
      · exact .inr ⟨t,rs,Tt,rfl,ht,hn,fun H' s=>kE .t e H' s⟩
      · obtain ⟨L,e',br,⟨_,hle⟩,hz⟩:=sm.br
        have:=sm.m5;have:=sm.n5
        exact .inl ⟨t,rs,Tt,m,n,L,e',rfl,ht,sm.r,sm.m0,sm.n0,by omega,by omega,br,Nat.le_trans hz (by decide),hle,fun H1 s1=>k e H1 s1⟩
    · iterate 8 refine ⟨_,rfl,rfl,_,rfl,iteN (v_ne (by decide)) ?_⟩
      refine ⟨_,rfl,rfl,_,rfl,iteP rfl ⟨_,rfl,_,rfl,?_⟩⟩
      cases hd with
      | tab hn=>exact .inr ⟨t,num,rs,Tt,rfl,ht,.inl ⟨hn,fun H' s=>kE .t rfl H' s⟩⟩
      | chg m n _ h=>omega
      | row m n _ h=>omega
      | num m n sm _ hlt=>exact .inr ⟨t,num,rs,Tt,rfl,ht,.inr ⟨⟨m,n,sm⟩,hlt,fun H' s=>kE .n rfl H' s⟩⟩
      | done m n sm _ _ h8 =>
        obtain ⟨L,e',br,⟨hf,_⟩,hz⟩:=sm.br
        have:=sm.m5;have:=sm.n5
        have h1:=h8 rfl
        obtain ⟨N,rfl⟩:=Int.eq_ofNat_of_zero_le (Int.le_trans (by decide) h1)
        exact .inl ⟨t,rs,Tt,m,n,N,L,e',rfl,ht,sm.r,sm.m0,sm.n0,by omega,by omega,by omega,Nat.le_trans (by omega:N≤2^2) (Nat.pow_le_pow_right (by decide) (by decide)),br,Nat.le_trans hz (by decide),hf.nn,fun H1 s1=>k rfl H1 s1⟩
    · iterate 9 refine ⟨_,rfl,rfl,_,rfl,iteN (v_ne (by decide)) ?_⟩
      refine ⟨_,rfl,by show 1≤sizeLine;decide,fun r1 hr1=>⟨by show 1≤sizeLine;decide,fun l1 hl1=>?_⟩⟩
      obtain ⟨s1,t1⟩:=tab_one hr1 hl1
      rcases due_tab hd (by decide) with ⟨hn,e⟩ | ⟨⟨m,n,sm⟩,e⟩
      · exact .inr ⟨t,l1,rs,[r1],Tt,[[1]],rfl,ht.same s1,t1,.inl hn,fun H' s=>kE .t e H' (s1.trans s)⟩
      · exact .inl ⟨t,l1,rs,[r1],Tt,[[1]],m,n,1,1,rfl,ht.same s1,sm,t1,small_one,fun v H' s=>k e H' (s1.trans s)⟩
def Kd.is:Kd→Kd→Bool
  | .t,.t=>true
  | .c,.c=>true
  | .r,.r=>true
  | .n,.n=>true
  | _,_=>false
def word:Option Kd→Str
  | none => "done"
  | some .t => "table"
  | some .c => "change"
  | some .r => "row"
  | some .n => "number"
structure ErrK (K:PySem.W.Frag) (C cTE cT cC cNR cR cN cNL:Addr) (k:Kd):Prop where
  x:PySem.W.exmOne K (.ref C) (.ref cTE)=some true
  xt:PySem.W.exmOne K (.ref C) (.ref cT)=some (k.is .t)
  xc:PySem.W.exmOne K (.ref C) (.ref cC)=some (k.is .c)
  xr:PySem.W.exmOne K (.ref C) (.ref cR)=some (k.is .r)
  xn:PySem.W.exmOne K (.ref C) (.ref cN)=some (k.is .n)
  t:PySem.W.kitOne K (.ref C) (.ref cT)=some (k.is .t)
  c:PySem.W.kitOne K (.ref C) (.ref cC)=some (k.is .c)
  d:PySem.W.kitOne K (.ref C) (.ref cNR)=some false
  r:PySem.W.kitOne K (.ref C) (.ref cR)=some (k.is .r)
  n:PySem.W.kitOne K (.ref C) (.ref cN)=some (k.is .n)
  l:PySem.W.kitOne K (.ref C) (.ref cNL)=some false
  v:PySem.W.kitOne K (.ref C) (.type "ValueError")=some true
inductive SpSaid (vs:List V) (H:Hp) (Q:VK):Prop
  | mk (T:Tb) (ch:ICh) (row:List Int) (num:Int) (w:Nat) (o:Option Kd) (_:Hnd H T ch row num w vs) (_:Due T ch row.length num w o) (_:∀H',Same H H'→Q (.str (word o)) H'):SpSaid vs H Q
def spSaid:Sp:=fun vs H Q _=>SpSaid vs H Q
theorem ok_q12 (D:DefAt K mg "_law_said" s_q12 ["_law_which","_law_table","_law_change","_law_row","_law_number"]) (T:Bt mg) (e_BadTable:ECls K mg "BadTable" c_BadTable) (e_BadChange:ECls K mg "BadChange" c_BadChange) (e_BadRow:ECls K mg "BadRow" c_BadRow) (e_BadNumber:ECls K mg "BadNumber" c_BadNumber) (ER:∀k,ErrK K (Kd.cl c_BadTable c_BadChange c_BadRow c_BadNumber k) c_TableError c_BadTable c_BadChange c_NoRoad c_BadRow c_BadNumber c_NoLine k)
    (C_q11:CalleeX P w K mg base 49 "_law_done" ["_law_which","_law_table","_law_change","_law_row","_law_number"] (spDone (Kd.cl c_BadTable c_BadChange c_BadRow c_BadNumber))):Callee P w K mg base 50 "_law_said" ["_law_which","_law_table","_law_change","_law_row","_law_number"] spSaid:=by
  refine D.ok (k:=49) sc_q12 (fun vs H Q E h=>?_) (fun f cdv A outer s H vs Q E hr h=>?_)
  · obtain ⟨_,_,_,_,_,_,hh,_⟩:=h
    cases hh;rfl
  · obtain ⟨Tt,ch,row,num,w',o,hh,hd,k⟩:=h
    have hh0:=hh
    obtain ⟨t,c,r,rs,ht,hc,hrow,hw,hp,hy,hn3⟩:=hh
    refine ⟨_,(pss_cons (ps_set (i:=5) sc_q12.nd rfl (Or.inl rfl) pe_str)
        (pss_cons (ps_tryE ⟨rfl,rfl,rfl⟩ C_q11 (hr.mono (by decide)) rfl (fun _=>(pa_cons (pv 0) (pa_cons (pv 1) (pa_cons (pv 2) (pa_cons (pv 3) (pa_cons (pv 4) pa_nil)))))) (ph_cons0 rfl e_BadTable.m (fun _=>(pss_one (ps_set (i:=5) sc_q12.nd rfl (Or.inl rfl) pe_str))) (ph_cons0 rfl e_BadChange.m (fun _=>(pss_one (ps_set (i:=5) sc_q12.nd rfl (Or.inl rfl) pe_str))) (ph_cons0 rfl e_BadRow.m (fun _=>(pss_one (ps_set (i:=5) sc_q12.nd rfl (Or.inl rfl) pe_str))) (ph_cons0 rfl e_BadNumber.m (fun _=>(pss_one (ps_set (i:=5) sc_q12.nd rfl (Or.inl rfl) pe_str))) ph_nil)))))
        (pss_one (ps_ret (pv 5))))),?_⟩
    refine ⟨_,rfl,_,rfl,_,rfl,_,rfl,_,rfl,Tt,ch,row,num,w',o,hh0,hd,fun e H' s=>?_,fun kk e H' s=>?_⟩
    · subst e;exact ⟨_,rfl,k H' s⟩
    · subst e
      refine ⟨_,rfl,?_⟩
      cases kk with
      | t=>exact ⟨_,(ER .t).xt,iteT fun ea hea=>⟨_,rfl,k _ (s.laid hea)⟩⟩
      | c=>exact ⟨_,(ER .c).xt,iteF ⟨_,(ER .c).xc,iteT fun ea hea=>⟨_,rfl,k _ (s.laid hea)⟩⟩⟩
      | r=>exact ⟨_,(ER .r).xt,iteF ⟨_,(ER .r).xc,iteF ⟨_,(ER .r).xr,iteT fun ea hea=>⟨_,rfl,k _ (s.laid hea)⟩⟩⟩⟩
      | n=>exact ⟨_,(ER .n).xt,iteF ⟨_,(ER .n).xc,iteF ⟨_,(ER .n).xr,iteF ⟨_,(ER .n).xn,iteT fun ea hea=>⟨_,rfl,k _ (s.laid hea)⟩⟩⟩⟩⟩
inductive SpRefu (vs:List V) (H:Hp) (Q:VK):Prop
  | mk (T:Tb) (ch:ICh) (row:List Int) (num:Int) (w:Nat) (o:Option Kd) (_:Hnd H T ch row num w vs) (_:Due T ch row.length num w o) (_:∀H',Same H H'→Q (.bl o.isSome) H'):SpRefu vs H Q
def spRefu:Sp:=fun vs H Q _=>SpRefu vs H Q
theorem ok_q15 (D:DefAt K mg "_law_refuses" s_q15 ["_law_which","_law_table","_law_change","_law_row","_law_number"]) (T:Bt mg) (TVE:mg "ValueError" = none) (e_TableError:ECls K mg "TableError" c_TableError) (e_BadTable:ECls K mg "BadTable" c_BadTable) (e_BadChange:ECls K mg "BadChange" c_BadChange) (e_NoRoad:ECls K mg "NoRoad" c_NoRoad) (e_BadRow:ECls K mg "BadRow" c_BadRow) (e_BadNumber:ECls K mg "BadNumber" c_BadNumber) (e_NoLine:ECls K mg "NoLine" c_NoLine) (ER:∀k,ErrK K (Kd.cl c_BadTable c_BadChange c_BadRow c_BadNumber k) c_TableError c_BadTable c_BadChange c_NoRoad c_BadRow c_BadNumber c_NoLine k)
    (C_q11:CalleeX P w K mg base 49 "_law_done" ["_law_which","_law_table","_law_change","_law_row","_law_number"] (spDone (Kd.cl c_BadTable c_BadChange c_BadRow c_BadNumber))):Callee P w K mg base 50 "_law_refuses" ["_law_which","_law_table","_law_change","_law_row","_law_number"] spRefu:=by
  refine D.ok (k:=49) sc_q15 (fun vs H Q E h=>?_) (fun f cdv A outer s H vs Q E hr h=>?_)
  · obtain ⟨_,_,_,_,_,_,hh,_⟩:=h
    cases hh;rfl
  · obtain ⟨Tt,ch,row,num,w',o,hh,hd,k⟩:=h
    have hh0:=hh
    obtain ⟨t,c,r,rs,ht,hc,hrow,hw,hp,hy,hn3⟩:=hh
    refine ⟨_,(pss_cons (ps_tryE ⟨rfl,rfl,rfl⟩ C_q11 (hr.mono (by decide)) rfl (fun _=>(pa_cons (pv 0) (pa_cons (pv 1) (pa_cons (pv 2) (pa_cons (pv 3) (pa_cons (pv 4) pa_nil)))))) (ph_consN (i:=5) rfl e_TableError.m sc_q15.nd rfl rfl (fun _=>(pss_cons (ps_set (i:=6) sc_q15.nd rfl (Or.inl rfl) (pe_lst (pa_cons (pe_callB (call_isEK (K:=K) rfl) rfl T.isinstance bt_isinstance (pa_cons (pv 5) (pa_cons (pe_gref rfl e_BadTable.m) pa_nil))) (pa_cons (pe_callB (call_isEK (K:=K) rfl) rfl T.isinstance bt_isinstance (pa_cons (pv 5) (pa_cons (pe_gref rfl e_BadChange.m) pa_nil))) (pa_cons (pe_callB (call_isEK (K:=K) rfl) rfl T.isinstance bt_isinstance (pa_cons (pv 5) (pa_cons (pe_gref rfl e_NoRoad.m) pa_nil))) pa_nil)))))
        (pss_cons (ps_set (i:=6) sc_q15.nd rfl (Or.inl rfl) (pe_op op_cat (pv 6) (pe_lst (pa_cons (pe_callB (call_isEK (K:=K) rfl) rfl T.isinstance bt_isinstance (pa_cons (pv 5) (pa_cons (pe_gref rfl e_BadRow.m) pa_nil))) (pa_cons (pe_callB (call_isEK (K:=K) rfl) rfl T.isinstance bt_isinstance (pa_cons (pv 5) (pa_cons (pe_gref rfl e_BadNumber.m) pa_nil))) (pa_cons (pe_callB (call_isEK (K:=K) rfl) rfl T.isinstance bt_isinstance (pa_cons (pv 5) (pa_cons (pe_gref rfl e_NoLine.m) pa_nil))) pa_nil))))))
        (pss_one (ps_ret (pe_and (pe_callB (call_isBK (K:=K) rfl) rfl T.isinstance bt_isinstance (pa_cons (pv 5) (pa_cons (pe_bltn (v:=.ty "ValueError") rfl TVE bt_ValueError rfl) pa_nil))) (pe_one (pe_cmpR op_eq (pe_bmK (K:=K) rfl PySem.F.plainAttrs_list PySem.F.slot_list_count PySem.F.type_list_count mt_count (pv 6) (pa_cons pe_bl pa_nil)) pe_int (nomark _))))))))) ph_nil))
        (pss_one (ps_ret pe_bl))),?_⟩
    refine ⟨_,rfl,_,rfl,_,rfl,_,rfl,_,rfl,Tt,ch,row,num,w',o,hh0,hd,fun e H' s=>?_,fun kk e H' s=>?_⟩
    · subst e;exact k H' s
    · subst e
      have ek:KEx K (Kd.cl c_BadTable c_BadChange c_BadRow c_BadNumber kk):=match kk with | .t=>e_BadTable.k | .c=>e_BadChange.k | .r=>e_BadRow.k | .n=>e_BadNumber.k
      have er:=ER kk
      have cnt:([kk.is .t,kk.is .c,false]++[kk.is .r,kk.is .n,false]).count true=1:=by cases kk <;> rfl
      generalize Kd.cl c_BadTable c_BadChange c_BadRow c_BadNumber kk=C at ek er
      refine ⟨_,rfl,_,er.x,iteT fun ea hea=>?_⟩
      have s2:=s.laid (o:=.ext (ExcO ea C)) hea
      have hx:(upd H' ea (.ext (ExcO ea C))) ea=some (.ext (ExcO ea C)):=upd_same
      generalize upd H' ea (.ext (ExcO ea C))=H2 at s2 hx ⊢
      refine ⟨_,rfl,ea,C,c_BadTable,_,rfl,er.t,hx,ek,_,rfl,ea,C,c_BadChange,_,rfl,er.c,hx,ek,_,rfl,ea,C,c_NoRoad,_,rfl,er.d,hx,ek,by show 3≤sizeLine;decide,fun l hl=>?_⟩
      have s3:=s2.laid (o:=.lst ([kk.is .t,kk.is .c,false].map V.bl)) hl
      have hx3:(upd H2 l (.lst ([kk.is .t,kk.is .c,false].map V.bl))) ea=some (.ext (ExcO ea C)):=by rw [upd_ne (ne_of_none hx hl)];exact hx
      have hl3:(upd H2 l (.lst ([kk.is .t,kk.is .c,false].map V.bl))) l=some (.lst ([kk.is .t,kk.is .c,false].map V.bl)):=upd_same
      refine ⟨_,rfl,_,rfl,ea,C,c_BadRow,_,rfl,er.r,hx3,ek,_,rfl,ea,C,c_BadNumber,_,rfl,er.n,hx3,ek,_,rfl,ea,C,c_NoLine,_,rfl,er.l,hx3,ek,by show 3≤sizeLine;decide,fun l2 hl2=>?_⟩
      have s4:=s3.laid (o:=.lst ([kk.is .r,kk.is .n,false].map V.bl)) hl2
      have hx4:(upd (upd H2 l (.lst ([kk.is .t,kk.is .c,false].map V.bl))) l2 (.lst ([kk.is .r,kk.is .n,false].map V.bl))) ea=some (.ext (ExcO ea C)):=by rw [upd_ne (ne_of_none hx3 hl2)];exact hx3
      refine ⟨l,l2,_,_,rfl,rfl,by rw [upd_ne (ne_of_none hl3 hl2)];exact hl3,upd_same,by show 3+3≤sizeLine;decide,fun l4 hl4=>?_⟩
      have hx5:=(same_upd (o:=.lst (([kk.is .t,kk.is .c,false]++[kk.is .r,kk.is .n,false]).map V.bl)) hl4) _ _ hx4
      have s5:=s4.laid (o:=.lst (([kk.is .t,kk.is .c,false]++[kk.is .r,kk.is .n,false]).map V.bl)) hl4
      refine ⟨_,rfl,ea,C,"ValueError",true,rfl,er.v,hx5,ek,_,rfl,iteT ?_⟩
      refine ⟨_,rfl,.inl ⟨rfl,_,SqL.of upd_same⟩,l4,[kk.is .t,kk.is .c,false]++[kk.is .r,kk.is .n,false],true,rfl,rfl,upd_same,rfl,?_⟩
      rw [cnt]
      exact k _ s5
inductive SpAsDue (vs:List V) (H:Hp) (Q:VK):Prop
  | mk (T:Tb) (ch:ICh) (row:List Int) (num:Int) (w:Nat) (o:Option Kd) (us:List V) (_:vs=.str (word o)::us) (_:Hnd H T ch row num w us) (_:Due T ch row.length num w o) (_:∀H',Same H H'→Q (.bl true) H'):SpAsDue vs H Q
def spAsDue:Sp:=fun vs H Q _=>SpAsDue vs H Q
theorem ok_q16 (D:DefAt K mg "_law_as_due" s_q16 ["_law_due","_law_which","_law_table","_law_change","_law_row","_law_number"]) (T:Bt mg) (C_q15:Callee P w K mg base 50 "_law_refuses" ["_law_which","_law_table","_law_change","_law_row","_law_number"] spRefu) (C_q12:Callee P w K mg base 50 "_law_said" ["_law_which","_law_table","_law_change","_law_row","_law_number"] spSaid):Callee P w K mg base 51 "_law_as_due" ["_law_due","_law_which","_law_table","_law_change","_law_row","_law_number"] spAsDue:=by
  refine D.ok (k:=50) sc_q16 (fun vs H Q E h=>?_) (fun f cdv A outer s H vs Q E hr h=>?_)
  · obtain ⟨_,_,_,_,_,_,_,rfl,hh,_⟩:=h
    cases hh;rfl
  · obtain ⟨Tt,ch,row,num,w',o,us,rfl,hh,hd,k⟩:=h
    have hh0:=hh
    obtain ⟨t,c,r,rs,ht,hc,hrow,hw,hp,hy,hn3⟩:=hh
    refine ⟨_,(pss_cons (ps_if (pt_cmpR op_ne (pe_callC C_q15 (hr.mono (by decide)) rfl (pa_cons (pv 1) (pa_cons (pv 2) (pa_cons (pv 3) (pa_cons (pv 4) (pa_cons (pv 5) pa_nil)))))) (pe_cmpR op_ne (pv 0) pe_str (nomark _)) (nomark _)) (pss_one (ps_ret pe_bl)) pss_nil)
        (pss_one (ps_ret (pe_cmpR op_eq (pe_callC C_q12 (hr.mono (by decide)) rfl (pa_cons (pv 1) (pa_cons (pv 2) (pa_cons (pv 3) (pa_cons (pv 4) (pa_cons (pv 5) pa_nil)))))) (pv 0) (nomark _))))),?_⟩
    refine ⟨_,rfl,_,rfl,_,rfl,_,rfl,_,rfl,Tt,ch,row,num,w',o,hh0,hd,fun H1 s1=>?_⟩
    refine ⟨_,rfl,rfl,rfl,_,rfl,?_⟩
    have e:(!decide (V.bl o.isSome=V.bl (!decide (V.str (word o)=V.str "done"))))=false:=by
      cases o with
      | none=>decide +kernel
      | some kk=>cases kk <;> decide +kernel
    rw [e]
    refine iteF ⟨_,rfl,_,rfl,_,rfl,_,rfl,_,rfl,Tt,ch,row,num,w',o,hh0.same s1,hd,fun H2 s2=>⟨_,rfl,rfl,?_⟩⟩
    rw [decide_eq_true rfl]
    exact k H2 (s1.trans s2)
end
end X1
namespace X1
open PySem L2
section
variable {P:Program} {w:World} {K:PySem.W.Frag} {mg:Str→Option Value} {base:Heap}
inductive SpTabBy (K:PySem.W.Frag) (vs:List V) (H:Hp) (Q:VK):Prop
  | mk (a:Addr) (ns:List Int) (f m n:Nat) (_:vs=[.ref a,.int f,.int m,.int n]) (_:SqL K H a (ns.map V.int)) (_:m≤1000) (_:n≤1000) (_:∀(p:Addr) (qs:List Addr) (T:Tb) (H':Hp),Same H H'→TabAt H' p qs T→(∀b∈p::qs,H b=none)→Rect m n T→Big 11 T→Q (.ref p) H'):SpTabBy K vs H Q
def spTabBy (K:PySem.W.Frag):Sp:=fun vs H Q _=>SpTabBy K vs H Q
set_option maxHeartbeats 4000000 in
theorem ok_q10 (D:DefAt K mg "_law_table_by" s_q10 ["_law_script","_law_first","_law_high","_law_wide"]) (T:Bt mg) (C_q0y:Callee P w K mg base 1 "_law_at" ["_law_script","_law_k"] (spAt K)):Callee P w K mg base 2 "_law_table_by" ["_law_script","_law_first","_law_high","_law_wide"] (spTabBy K):=by
  refine D.ok (k:=1) sc_q10 (fun vs H Q E h=>?_) (fun f cdv A outer s H vs Q E hr h=>?_)
  · obtain ⟨_,_,_,_,_,rfl,_⟩:=h
    rfl
  · obtain ⟨a,ns,fi,m,n,rfl,ha,hm,hn,k⟩:=h
    refine ⟨_,(pss_cons (ps_set (i:=4) sc_q10.nd rfl (Or.inl rfl) (pe_lst pa_nil))
        (pss_cons (ps_for PassesOwn.never rfl (pi_range1 rfl T.range (pa_cons (pv 2) pa_nil)) (pg_name (i:=5) sc_q10.nd rfl (Or.inl rfl)) (pss_cons (ps_set (i:=6) sc_q10.nd rfl (Or.inl rfl) (pe_lst pa_nil))
        (pss_cons (ps_for PassesOwn.never rfl (pi_range1 rfl T.range (pa_cons (pv 3) pa_nil)) (pg_name (i:=7) sc_q10.nd rfl (Or.inl rfl)) (pss_cons (ps_set (i:=8) sc_q10.nd rfl (Or.inl rfl) (pe_callC C_q0y (hr.mono (by decide)) rfl (pa_cons (pv 0) (pa_cons (pe_op op_add (pe_op op_add (pv 1) (pe_op op_mul (pv 5) (pv 3))) (pv 7)) pa_nil))))
        (pss_one (ps_expr (pe_bm PySem.F.plainAttrs_list PySem.F.slot_list_append PySem.F.type_list_append mt_append (pv 6) (pa_cons (pe_op op_sub (pe_op op_mod (pe_op op_add (pe_op op_add (pv 8) (pe_op op_mul pe_int (pv 5))) (pe_op op_mul pe_int (pv 7))) pe_int) pe_int) pa_nil))))))
        (pss_one (ps_expr (pe_bm PySem.F.plainAttrs_list PySem.F.slot_list_append PySem.F.type_list_append mt_append (pv 4) (pa_cons (pv 6) pa_nil)))))))
        (pss_one (ps_ret (pv 4))))),?_⟩
    refine ⟨Nat.zero_le _,fun l hl=>?_⟩
    have s1:Same H (upd H l (.lst [])):=same_upd hl
    refine ⟨_,rfl,_,rfl,by omega,by omega,for_range0 (fun i σ H2=>∃(qs:List Addr) (Tt:Tb) (v5 v6 v7 v8:Option V),σ=[some (.ref a),some (.int fi),some (.int m),some (.int n),some (.ref l),v5,v6,v7,v8]∧Fill H H2 l qs Tt∧Rect i n Tt∧Big 11 Tt∧(∀b∈qs,H b=none)) ⟨[],[],none,none,none,none,rfl,⟨s1,⟨⟨upd_same,.nil⟩,by simp⟩,hl⟩,⟨rfl,(fun _ h=>nomatch h)⟩,(fun _ h=>nomatch h),(fun _ h=>nomatch h)⟩ ?_ ?_⟩
    · rintro i σ H2 hi ⟨qs,Tt,v5,v6,v7,v8,rfl,md,hrt,hbig,hnew⟩
      have hi':i<m:=by simpa using hi
      refine ⟨Nat.zero_le _,fun r hrn=>?_⟩
      have s2:Same H2 (upd H2 r (.lst [])):=same_upd hrn
      refine ⟨_,rfl,_,rfl,by omega,by omega,for_range0 (fun j σ H3=>∃(zs:List Int) (v7 v8:Option V),σ=[some (.ref a),some (.int fi),some (.int m),some (.int n),some (.ref l),some (.int i),some (.ref r),v7,v8]∧Same H2 H3∧H3 r=some (.lst (zs.map V.int))∧zs.length=j∧∀x∈zs,x.natAbs≤11) ⟨[],v7,v8,rfl,s2,upd_same,rfl,(fun _ h=>nomatch h)⟩ ?_ ?_⟩
      · rintro j σ H3 hj ⟨zs,v7,v8,rfl,s3,hr3,hlz,hzb⟩
        have hj':j<n:=by simpa using hj
        have ha3:=(md.same.trans s3).seq ha
        have i64:-(2^64)<(i:Int)∧(i:Int)<2^64:=⟨by omega,by omega⟩
        refine ⟨_,rfl,_,rfl,_,rfl,_,rfl,_,_,rfl,rfl,.inl i64,_,_,rfl,rfl,_,rfl,_,_,rfl,rfl,a,ns,fi+i*n+j,?_,ha3,?_⟩
        · show [V.ref a,V.int ((fi:Int)+(i:Int)*(n:Int)+(j:Int))]=[V.ref a,V.int ((fi+i*n+j:Nat):Int)]
          push_cast
          rfl
        generalize ns.getD (fi+i*n+j) 0=cell
        have hzl:(zs.map V.int).length<sizeLine:=by rw [List.length_map,hlz];exact Nat.lt_of_lt_of_le (by omega:j<2000) (by decide)
        refine ⟨_,rfl,.inl ⟨rfl,_,SqL.of hr3⟩,_,rfl,_,rfl,_,_,rfl,rfl,.inl ⟨by decide,by decide⟩,_,_,rfl,rfl,_,rfl,_,_,rfl,rfl,.inl ⟨by decide,by decide⟩,_,_,rfl,rfl,_,_,rfl,rfl,(by show (0:Int)<23;decide),_,_,rfl,rfl,r,_,_,rfl,rfl,hr3,hzl,?_⟩
        refine ⟨zs++[(cell+5*(i:Int)+3*(j:Int)) % 23 - 11],_,_,rfl,fun b o q=>?_,by rw [upd_same,List.map_append];rfl,by rw [List.length_append,hlz];rfl,fun x hx=>?_⟩
        · rw [upd_ne (ne_of_none q hrn)]
          exact s3 _ _ q
        · rcases List.mem_append.mp hx with z | z
          · exact hzb x z
          · have:x=(cell+5*(i:Int)+3*(j:Int)) % 23 - 11:=by simpa using z
            rw [this];omega
      · rintro σ H3 ⟨zs,v7,v8,rfl,s3,hr3,hlz,hzb⟩
        have hlz':zs.length=n:=by rw [hlz];simp
        have hzl:(qs.map V.ref).length<sizeLine:=by rw [List.length_map,md.tab.len hrt];exact Nat.lt_of_lt_of_le (by omega:i<2000) (by decide)
        refine ⟨_,rfl,.inl ⟨rfl,_,SqL.of (s3 _ _ md.tab.tab.1)⟩,_,rfl,l,_,_,rfl,rfl,s3 _ _ md.tab.tab.1,hzl,?_⟩
        refine ⟨qs++[r],Tt++[zs],_,_,_,_,rfl,md.more s3 hr3 hrn,hrt.snoc hlz',fun q hq=>?_,fun b hb=>?_⟩
        · rcases List.mem_append.mp hq with z | z
          · exact hbig q z
          · have:q=zs:=by simpa using z
            rw [this];exact hzb
        · rcases List.mem_append.mp hb with z | z
          · exact hnew b z
          · have:b=r:=by simpa using z
            rw [this];exact md.same.free hrn
    · rintro σ H2 ⟨qs,Tt,v5,v6,v7,v8,rfl,md,hrt,hbig,hnew⟩
      have hrt:Rect m n Tt:=by simpa using hrt
      refine ⟨_,rfl,k l qs Tt H2 md.same md.tab (fun b hb=>?_) hrt hbig⟩
      rcases List.mem_cons.mp hb with rfl | hb
      · exact hl
      · exact hnew b hb
def spoil (way m:Nat) (T:Tb):Tb :=
  match way with
  | 1=>[]
  | 2=>List.replicate m []
  | 3=>T.set (m - 1) (T.getD (m - 1) []++[0])
  | 4=>T.set 0 ((T.getD 0 []).drop 1)
  | _=>T
inductive SpSpoilt (vs:List V) (H:Hp) (Q:VK):Prop
  | mk (a:Addr) (rs:List Addr) (T:Tb) (m n way:Nat) (_:vs=[.ref a,.int way]) (_:TabAt H a rs T) (_:Rect m n T) (_:0<m) (_:0<n) (_:m≤4) (_:n≤4) (_:way<8) (_:∀(p:Addr) (qs:List Addr) (H':Hp),Same H H'→TabAt H' p qs (spoil way m T)→(∀b∈p::qs,H b=none)→Q (.ref p) H'):SpSpoilt vs H Q
def spSpoilt:Sp:=fun vs H Q _=>SpSpoilt vs H Q
theorem atI_last {xs:List V} {v:V} (h:xs[xs.length - 1]?=some v):atI xs (-1)=some v:=by
  have h0:0<xs.length:=by
    have:=(List.getElem?_eq_some_iff.mp h).1
    omega
  unfold atI ixN
  rw [if_neg (by decide),if_pos (by omega)]
  have e:(-1+(xs.length:Int)).toNat=xs.length - 1:=by omega
  show xs[(-1+(xs.length:Int)).toNat]?=some v
  rw [e];exact h
set_option maxHeartbeats 4000000 in
theorem ok_q13 (D:DefAt K mg "_law_spoilt" s_q13 ["_law_table","_law_way"]) (T:Bt mg) (C_q0z:Callee P w K mg base 1 "_law_copy" ["_law_table"] spCopy):Callee P w K mg base 2 "_law_spoilt" ["_law_table","_law_way"] spSpoilt:=by
  refine D.ok (k:=1) sc_q13 (fun vs H Q E h=>?_) (fun f cdv A outer s H vs Q E hr h=>?_)
  · obtain ⟨_,_,_,_,_,_,rfl,_⟩:=h
    rfl
  · obtain ⟨a,rs,Tt,m,n,way,rfl,ht,hrt,m0,n0,m4,n4,w8,k⟩:=h
    refine ⟨_,(pss_cons (ps_set (i:=2) sc_q13.nd rfl (Or.inl rfl) (pe_callC C_q0z (hr.mono (by decide)) rfl (pa_cons (pv 0) pa_nil)))
        (pss_cons (ps_if (pt_cmpR op_eq (pv 1) pe_int (nomark _)) (pss_one (ps_ret (pe_lst pa_nil))) pss_nil)
        (pss_cons (ps_if (pt_cmpR op_eq (pv 1) pe_int (nomark _)) (pss_one (ps_ret (pe_comp (N:=["_law_row"]) (cap:=[]) (k:=1) (CompScope.mk' (defScope s_q13) ["_law_table","_law_way","_law_made"] rfl rfl (by decide +kernel)) rfl (pi_list (pv 2)) (fun _ _ _ _=>(pg_name (i:=0) (show (["_law_row"]:List Str).Nodup by decide +kernel) rfl (Or.inl rfl))) (fun _ _ _ _=>(pe_lst pa_nil))))) pss_nil)
        (pss_cons (ps_if (pt_cmpR op_eq (pv 1) pe_int (nomark _)) (pss_one (ps_expr (pe_bm PySem.F.plainAttrs_list PySem.F.slot_list_append PySem.F.type_list_append mt_append (pe_ix ix_list (pv 2) (pe_un un_neg pe_int) (fun _ _=>rfl)) (pa_cons pe_int pa_nil)))) pss_nil)
        (pss_cons (ps_if (pt_cmpR op_eq (pv 1) pe_int (nomark _)) (pss_one (ps_asg (pe_slice sl_list (pe_ix ix_list (pv 2) pe_int (fun _ _=>rfl)) (po_some pe_int) po_none) (pg_sub (pv 2) pe_int set_list))) pss_nil)
        (pss_one (ps_ret (pv 2)))))))),?_⟩
    refine ⟨_,rfl,a,rs,Tt,rfl,ht,by rw [hrt.1];omega,fun p qs H1 s1 t1 new=>?_⟩
    have h1:=t1.tab.1
    have hlen:=t1.len hrt
    have same:spoil way m Tt=Tt→Q (.ref p) H1:=fun e=>k p qs H1 s1 (by rw [e];exact t1) new
    rcases (show way=1∨way=2∨way=3∨way=4∨way=0∨way=5∨way=6∨way=7 by omega) with rfl | rfl | rfl | rfl | rfl | rfl | rfl | rfl
    · refine ⟨_,rfl,rfl,_,rfl,iteP rfl ⟨Nat.zero_le _,fun l hl=>?_⟩⟩
      refine k l [] _ (s1.laid hl) ⟨⟨upd_same,.nil⟩,by simp⟩ fun b hb=>?_
      have:b=l:=by simpa using hb
      rw [this];exact s1.free hl
    · refine ⟨_,rfl,rfl,_,rfl,iteN (v_ne (by decide)) ⟨_,rfl,rfl,_,rfl,iteP rfl ?_⟩⟩
      refine ⟨_,rfl,p,rfl,⟨_,SqL.of h1⟩,comp_list (K:=K) (a:=p) (xs:=qs.map V.ref) (fun i ys H2=>∃us,ys=us.map V.ref∧us.length=i∧Same H1 H2∧CopyAt H H2 us (List.replicate i [])) (by rw [List.length_map,hlen];exact Nat.le_trans (by omega:m≤1000) (by decide)) ⟨[],rfl,rfl,Same.refl _,s1,.nil,List.nodup_nil,fun _ h=>nomatch h⟩ (fun i ys H2 ⟨us,e,e2,_⟩=>by rw [e,List.length_map,e2]) (fun i ys H2 _ ⟨us,_,_,s2,_⟩=>SqL.of (s2 _ _ h1)) ?_ ?_⟩
      · rintro i x ys H2 hx ⟨us,rfl,hq,s2,c⟩
        refine ⟨rfl,Nat.zero_le _,fun l hl=>⟨us++[l],by rw [List.map_append];rfl,by rw [List.length_append,hq];rfl,s2.laid hl,?_⟩⟩
        rw [List.replicate_succ']
        exact c.more (row:=[]) hl
      · rintro ys H2 ⟨us,rfl,hq,s2,c⟩ l hl
        rw [List.length_map,hlen] at c
        obtain ⟨q1,q2,q3⟩:=c.done hl
        exact k l us _ q1 q2 q3
    · refine ⟨_,rfl,rfl,_,rfl,iteN (v_ne (by decide)) ⟨_,rfl,rfl,_,rfl,iteN (v_ne (by decide)) ⟨_,rfl,rfl,_,rfl,iteP rfl ?_⟩⟩⟩
      obtain ⟨r,er,_,hrow,hl⟩:=t1.at hrt (show m - 1<m by omega)
      refine ⟨_,rfl,_,rfl,p,_,_,.ref r,rfl,rfl,SqL.of h1,atI_last (by rw [List.length_map,hlen];exact rget er),?_⟩
      refine ⟨.inl ⟨rfl,_,SqL.of hrow⟩,r,_,_,rfl,rfl,hrow,by rw [List.length_map,hl];exact Nat.lt_of_lt_of_le (by omega:n<1000) (by decide),?_⟩
      refine ⟨_,rfl,rfl,_,rfl,iteN (v_ne (by decide)) ⟨_,rfl,?_⟩⟩
      have hc:=t1.cell (row:=Tt.getD (m - 1) []++[0]) er
      rw [List.map_append] at hc
      refine k p qs _ (fun b o e=>?_) hc new
      have hb:b≠r:=fun z=>by rw [z,new r (List.mem_cons_of_mem _ (List.mem_of_getElem? er))] at e;cases e
      rw [upd_ne hb];exact s1 _ _ e
    · refine ⟨_,rfl,rfl,_,rfl,iteN (v_ne (by decide)) ⟨_,rfl,rfl,_,rfl,iteN (v_ne (by decide)) ⟨_,rfl,rfl,_,rfl,iteN (v_ne (by decide)) ⟨_,rfl,rfl,_,rfl,iteP rfl ?_⟩⟩⟩⟩
      obtain ⟨r,er,_,hrow,hl⟩:=t1.at hrt m0
      refine ⟨_,rfl,p,_,_,_,rfl,rfl,SqL.of h1,atI_nat (j:=0) (rget er),_,rfl,r,_,rfl,SqL.of hrow,fun c hc=>?_⟩
      have cut:cutV ((Tt.getD 0 []).map V.int) (some 1) none=((Tt.getD 0 []).drop 1).map V.int:=cut_from (n:=1) (by rw [hl];exact n0)
      rw [cut]
      have hpc:p≠c:=ne_of_none h1 hc
      obtain ⟨q1,q2,q3⟩:=t1.put (i:=0) (row:=(Tt.getD 0 []).drop 1) (Same.refl H1) hc
      refine ⟨_,rfl,p,_,_,0,rfl,rfl,by rw [upd_ne hpc];exact h1,ixN_nat (i:=0) (by rw [List.length_map,hlen];exact m0),?_⟩
      refine ⟨_,rfl,k p (qs.set 0 c) _ (fun b o e=>q2 b o (s1 _ _ e) fun z=>?_) q1 fun b hb=>?_⟩
      · rw [new b z] at e;cases e
      · rcases List.mem_cons.mp hb with rfl | hb
        · exact new _ List.mem_cons_self
        · rcases q3 b hb with z | z
          · exact new b (List.mem_cons_of_mem _ z)
          · exact s1.free z
    all_goals
      iterate 4 refine ⟨_,rfl,rfl,_,rfl,iteN (v_ne (by decide)) ?_⟩
      exact ⟨_,rfl,same rfl⟩
def cw:Bool→Str
  | true => "done"
  | false => "change"
inductive SpChg (K:PySem.W.Frag) (vs:List V) (H:Hp) (Q:VK):Prop
  | mk (a:Addr) (ns:List Int) (m n:Nat) (_:vs=[.ref a,.int m,.int n]) (_:SqL K H a (ns.map V.int)) (_:0<m) (_:∀(p c:Addr) (ch:ICh) (x:Bool) (H':Hp),Same H H'→H' p=some (.tup [.ref c,.str (cw x)])→IsI H' c ch→(0<n→(ch.ok m n↔x=true))→(∀m n,ch.ok m n→ch.plain)→Q (.ref p) H'):SpChg K vs H Q
def spChg (K:PySem.W.Frag):Sp:=fun vs H Q _=>SpChg K vs H Q
theorem at_side (x:Int):∃s:Bool,atI [V.str "row",V.str "column"] (x % 2)=some (.str (sd s))∧∀m n:Nat,atI [V.int m,V.int n] (x % 2)=some (.int (dim s m n:Nat)):=by
  have h1:0≤x % 2:=Int.emod_nonneg _ (by decide)
  have h2:x % 2<2:=Int.emod_lt_of_pos _ (by decide)
  rcases (show x % 2=0∨x % 2=1 by omega) with h | h
  · exact ⟨true,by rw [h];rfl,fun m n=>by rw [h];rfl⟩
  · exact ⟨false,by rw [h];rfl,fun m n=>by rw [h];rfl⟩
theorem ok_q1o {s:Bool} {i:Int} {m n:Nat}:(ICh.turn s i).ok m n↔0≤i∧i<(dim s m n:Int) :=
  ⟨fun h=>h.1 i (by simp [ICh.places]),fun h=>⟨fun p hp=>by
    have:p=i:=by simpa [ICh.places] using hp
    rw [this];exact h,fun _ _ e=>by cases e⟩⟩
theorem ok_q1p {c:ICh} {i j:Int} {m n:Nat} (e:c.places=[i,j]):c.ok m n↔(0≤i∧i<(dim c.side m n:Int))∧(0≤j∧j<(dim c.side m n:Int))∧i≠j :=
  ⟨fun h=>⟨h.1 i (by simp [e]),h.1 j (by simp [e]),h.2 i j e⟩,fun h=>⟨fun p hp=>by
    rw [e] at hp
    have:p=i∨p=j:=by simpa using hp
    rcases this with z | z
    · rw [z];exact h.1
    · rw [z];exact h.2.1,fun a b e'=>by rw [e] at e';cases e';exact h.2.2⟩⟩
set_option maxHeartbeats 4000000 in
theorem ok_q14 (D:DefAt K mg "_law_some_change" s_q14 ["_law_script","_law_high","_law_wide"]) (T:Bt mg) (C_q0y:Callee P w K mg base 1 "_law_at" ["_law_script","_law_k"] (spAt K)):Callee P w K mg base 2 "_law_some_change" ["_law_script","_law_high","_law_wide"] (spChg K):=by
  refine D.ok (k:=1) sc_q14 (fun vs H Q E h=>?_) (fun f cdv A outer s H vs Q E hr h=>?_)
  · obtain ⟨_,_,_,_,rfl,_⟩:=h
    rfl
  · obtain ⟨a,ns,m,n,rfl,ha,m0,k⟩:=h
    refine ⟨_,(pss_cons (ps_set (i:=3) sc_q14.nd rfl (Or.inl rfl) (pe_ix ix_list (pe_lst (pa_cons pe_str (pa_cons pe_str pa_nil))) (pe_op op_mod (pe_callC C_q0y (hr.mono (by decide)) rfl (pa_cons (pv 0) (pa_cons pe_int pa_nil))) pe_int) (fun _ _=>rfl)))
        (pss_cons (ps_set (i:=4) sc_q14.nd rfl (Or.inl rfl) (pe_ix ix_list (pe_lst (pa_cons (pv 1) (pa_cons (pv 2) pa_nil))) (pe_op op_mod (pe_callC C_q0y (hr.mono (by decide)) rfl (pa_cons (pv 0) (pa_cons pe_int pa_nil))) pe_int) (fun _ _=>rfl)))
        (pss_cons (ps_set (i:=5) sc_q14.nd rfl (Or.inl rfl) (pe_op op_mod (pe_callC C_q0y (hr.mono (by decide)) rfl (pa_cons (pv 0) (pa_cons pe_int pa_nil))) pe_int))
        (pss_cons (ps_set (i:=6) sc_q14.nd rfl (Or.inl rfl) (pe_op op_mod (pe_op op_fdiv (pe_callC C_q0y (hr.mono (by decide)) rfl (pa_cons (pv 0) (pa_cons pe_int pa_nil))) pe_int) (pe_op op_pow pe_int pe_int)))
        (pss_cons (ps_if (pt_cmpR op_eq (pv 5) pe_int (nomark _)) (pss_one (ps_ret (pe_tup (pa_cons (pe_tup (pa_cons pe_str (pa_cons (pv 3) (pa_cons (pe_op op_sub (pv 4) pe_int) pa_nil)))) (pa_cons pe_str pa_nil))))) pss_nil)
        (pss_cons (ps_if (pt_cmpR op_eq (pv 5) pe_int (nomark _)) (pss_one (ps_ret (pe_tup (pa_cons (pe_tup (pa_cons pe_str (pa_cons (pv 3) (pa_cons (pe_op op_sub (pe_un un_neg pe_int) (pv 6)) pa_nil)))) (pa_cons pe_str pa_nil))))) pss_nil)
        (pss_cons (ps_if (pt_cmpR op_eq (pv 5) pe_int (nomark _)) (pss_one (ps_ret (pe_tup (pa_cons (pe_tup (pa_cons pe_str (pa_cons (pv 3) (pa_cons pe_int (pa_cons (pe_op op_add (pv 4) (pv 6)) pa_nil))))) (pa_cons pe_str pa_nil))))) pss_nil)
        (pss_cons (ps_if (pt_cmpR op_eq (pv 5) pe_int (nomark _)) (pss_one (ps_ret (pe_tup (pa_cons (pe_tup (pa_cons pe_str (pa_cons (pv 3) (pa_cons (pe_op op_sub (pv 4) pe_int) (pa_cons (pe_op op_sub (pv 4) pe_int) (pa_cons pe_int pa_nil)))))) (pa_cons pe_str pa_nil))))) pss_nil)
        (pss_cons (ps_if (pt_cmpR op_eq (pv 5) pe_int (nomark _)) (pss_one (ps_ret (pe_tup (pa_cons (pe_tup (pa_cons pe_str (pa_cons (pv 3) (pa_cons (pe_op op_sub (pe_un un_neg pe_int) (pv 6)) (pa_cons pe_int (pa_cons pe_int pa_nil)))))) (pa_cons pe_str pa_nil))))) pss_nil)
        (pss_cons (ps_if (pt_cmpR op_eq (pv 4) pe_int (nomark _)) (pss_one (ps_ret (pe_tup (pa_cons (pe_tup (pa_cons pe_str (pa_cons (pv 3) (pa_cons pe_int (pa_cons pe_int pa_nil))))) (pa_cons pe_str pa_nil))))) pss_nil)
        (pss_one (ps_ret (pe_tup (pa_cons (pe_tup (pa_cons pe_str (pa_cons (pv 3) (pa_cons pe_int (pa_cons (pe_op op_sub (pv 4) pe_int) pa_nil))))) (pa_cons pe_str pa_nil))))))))))))))),?_⟩
    obtain ⟨sd',hs1,hs2⟩:=at_side (ns.getD 5 0)
    refine ⟨by show 2≤sizeLine;decide,fun p1 hp1=>?_⟩
    have s1:Same H (upd H p1 (.lst [V.str "row",V.str "column"])):=same_upd hp1
    refine ⟨_,rfl,a,ns,5,rfl,s1.seq ha,_,_,rfl,rfl,(by show (0:Int)<2;decide),p1,_,_,_,rfl,rfl,SqL.of upd_same,hs1,?_⟩
    generalize upd H p1 (.lst [V.str "row",V.str "column"])=H1 at s1 ⊢
    refine ⟨_,rfl,_,rfl,by show 2≤sizeLine;decide,fun p2 hp2=>?_⟩
    have s2:=s1.laid (o:=.lst [V.int m,V.int n]) hp2
    refine ⟨_,rfl,a,ns,5,rfl,s2.seq ha,_,_,rfl,rfl,(by show (0:Int)<2;decide),p2,_,_,_,rfl,rfl,SqL.of upd_same,hs2 m n,?_⟩
    generalize upd H1 p2 (.lst [V.int m,V.int n])=H2 at s2 ⊢
    have ha2:=s2.seq ha
    refine ⟨_,rfl,a,ns,4,rfl,ha2,_,_,rfl,rfl,(by show (0:Int)<6;decide),?_⟩
    have p12:(0:Int)<(10:Int)^((12:Int).toNat):=by decide
    refine ⟨_,rfl,a,ns,4,rfl,ha2,_,_,rfl,rfl,by unfold CDiv;decide,_,_,rfl,rfl,⟨by decide,by decide,by decide⟩,_,_,rfl,rfl,p12,?_⟩
    dsimp only
    have f0:0≤(ns.getD 4 0 / 6) % ((10:Int)^((12:Int).toNat)):=Int.emod_nonneg _ (by decide)
    have w0:0≤ns.getD 4 0 % 6:=Int.emod_nonneg _ (by decide)
    have w6:ns.getD 4 0 % 6<6:=Int.emod_lt_of_pos _ (by decide)
    generalize (ns.getD 4 0 / 6) % ((10:Int)^((12:Int).toNat))=far at f0 ⊢
    generalize ns.getD 4 0 % 6=way at w0 w6 ⊢
    obtain ⟨d,hd⟩:∃d,d=dim sd' m n:=⟨_,rfl⟩
    have hd1:0<n→0<d:=fun h=>hd▸(match sd' with | false=>h | true=>m0)
    rw [←hd]
    have fin:∀(ch:ICh) (x:Bool) (c p:Addr),H2 c=none→(upd H2 c (.tup (ichV ch))) p=none→(0<n→(ch.ok m n↔x=true))→(∀m n,ch.ok m n→ch.plain)→Q (.ref p) (upd (upd H2 c (.tup (ichV ch))) p (.tup [.ref c,.str (cw x)])):=fun ch x c p hc hp h1 h2=>by
      have hcp:(upd H2 c (.tup (ichV ch))) c=some (.tup (ichV ch)):=upd_same
      exact k p c ch x _ ((s2.laid hc).laid hp) upd_same (by show upd _ p _ c=_;rw [upd_ne (ne_of_none hcp hp)];exact hcp) h1 h2
    have nope:∀{A:Prop},¬ A→(A↔false=true):=fun h=>⟨fun z=>absurd z h,fun z=>by cases z⟩
    have sure:∀{A:Prop},A→(A↔true=true):=fun h=>⟨fun _=>rfl,fun _=>h⟩
    rcases (show way=0∨way=1∨way=2∨way=3∨way=4∨way=5 by omega) with rfl | rfl | rfl | rfl | rfl | rfl
    · refine ⟨_,rfl,rfl,_,rfl,iteP rfl ?_⟩
      refine ⟨_,rfl,_,rfl,_,_,rfl,rfl,by show 3≤sizeLine;decide,fun c hc=>⟨by show 2≤sizeLine;decide,fun p hp=>?_⟩⟩
      exact fin (.turn sd' ((d:Int) - 1)) true c p hc hp (fun h=>sure (ok_q1o.mpr (by have:=hd1 h;rw [←hd];omega))) fun _ _ _=>trivial
    · iterate 1 refine ⟨_,rfl,rfl,_,rfl,iteN (v_ne (by decide)) ?_⟩
      refine ⟨_,rfl,rfl,_,rfl,iteP rfl ?_⟩
      refine ⟨_,rfl,_,rfl,_,rfl,_,_,rfl,rfl,by show 3≤sizeLine;decide,fun c hc=>⟨by show 2≤sizeLine;decide,fun p hp=>?_⟩⟩
      exact fin (.turn sd' (-1 - far)) false c p hc hp (fun h=>nope fun z=>by have:=(ok_q1o.mp z).1;omega) fun _ _ _=>trivial
    · iterate 2 refine ⟨_,rfl,rfl,_,rfl,iteN (v_ne (by decide)) ?_⟩
      refine ⟨_,rfl,rfl,_,rfl,iteP rfl ?_⟩
      refine ⟨_,rfl,_,rfl,_,rfl,_,_,rfl,rfl,by show 4≤sizeLine;decide,fun c hc=>⟨by show 2≤sizeLine;decide,fun p hp=>?_⟩⟩
      exact fin (.swap sd' 0 ((d:Int)+far)) false c p hc hp (fun h=>nope fun z=>by have:=((ok_q1p rfl).mp z).2.1.2;rw [show dim (ICh.swap sd' 0 ((d:Int)+far)).side m n=d from hd.symm] at this;omega) fun _ _ _=>trivial
    · iterate 3 refine ⟨_,rfl,rfl,_,rfl,iteN (v_ne (by decide)) ?_⟩
      refine ⟨_,rfl,rfl,_,rfl,iteP rfl ?_⟩
      refine ⟨_,rfl,_,rfl,_,_,rfl,rfl,_,rfl,_,_,rfl,rfl,by show 5≤sizeLine;decide,fun c hc=>⟨by show 2≤sizeLine;decide,fun p hp=>?_⟩⟩
      exact fin (.add sd' ((d:Int) - 1) ((d:Int) - 1) 2) false c p hc hp (fun h=>nope fun z=>((ok_q1p rfl).mp z).2.2 rfl) fun _ _ z=>absurd rfl ((ok_q1p rfl).mp z).2.2
    · iterate 4 refine ⟨_,rfl,rfl,_,rfl,iteN (v_ne (by decide)) ?_⟩
      refine ⟨_,rfl,rfl,_,rfl,iteP rfl ?_⟩
      refine ⟨_,rfl,_,rfl,_,rfl,_,_,rfl,rfl,by show 5≤sizeLine;decide,fun c hc=>⟨by show 2≤sizeLine;decide,fun p hp=>?_⟩⟩
      have bad:∀m n,¬ (ICh.add sd' (-1 - far) 0 2).ok m n:=fun m n z=>by have:=((ok_q1p rfl).mp z).1.1;omega
      exact fin (.add sd' (-1 - far) 0 2) false c p hc hp (fun h=>nope (bad m n)) fun m n z=>absurd z (bad m n)
    · iterate 5 refine ⟨_,rfl,rfl,_,rfl,iteN (v_ne (by decide)) ?_⟩
      refine ⟨_,rfl,rfl,_,rfl,?_⟩
      by_cases h1:(d:Int)=1
      · refine iteP (congrArg V.int h1) ?_
        refine ⟨_,rfl,by show 4≤sizeLine;decide,fun c hc=>⟨by show 2≤sizeLine;decide,fun p hp=>?_⟩⟩
        exact fin (.swap sd' 0 0) false c p hc hp (fun h=>nope fun z=>((ok_q1p rfl).mp z).2.2 rfl) fun _ _ _=>trivial
      · refine iteN (v_ne h1) ?_
        refine ⟨_,rfl,_,rfl,_,_,rfl,rfl,by show 4≤sizeLine;decide,fun c hc=>⟨by show 2≤sizeLine;decide,fun p hp=>?_⟩⟩
        exact fin (.swap sd' 0 ((d:Int) - 1)) true c p hc hp (fun h=>sure ((ok_q1p rfl).mpr (by have:=hd1 h;rw [show dim (ICh.swap sd' 0 ((d:Int) - 1)).side m n=d from hd.symm];omega))) fun _ _ _=>trivial
end
end X1
namespace X1
open PySem L2
def wideN (way m n:Nat):Nat:=if way=3∧m=1 then n+1 else if way=4∧m=1 then n - 1 else n
def badB (way m n:Nat):Bool:=(if way=4∧m=1 then decide (n=1) else (decide (way=1)||decide (way=2)||decide (way=4)||(decide (way=3)&&decide (1<m))))
theorem spoil_bad {way m n:Nat} {T:Tb} (hr:Rect m n T) (m0:0<m) (n0:0<n) (h:badB way m n=true):NoTab (spoil way m T):=by
  unfold badB at h
  have hl:=hr.1
  have h0:0<T.length:=by omega
  have hrow:=hr.row m0
  by_cases h4:way=4∧m=1
  · rw [if_pos h4] at h
    obtain ⟨rfl,rfl⟩:=h4
    have n1:n=1:=by simpa using h
    refine .inr (.inl ?_)
    show (T.set 0 ((T.getD 0 []).drop 1)).getD 0 []=[]
    rw [List.getD_eq_getElem?_getD,List.getElem?_set_self h0]
    exact List.drop_eq_nil_of_le (by rw [hrow,n1];exact Nat.le_refl _)
  · rw [if_neg h4] at h
    simp only [Bool.or_eq_true,Bool.and_eq_true,decide_eq_true_eq] at h
    rcases h with ((rfl | rfl) | rfl) | ⟨rfl,h1⟩
    · exact .inl rfl
    · refine .inr (.inl ?_)
      show (List.replicate m ([]:List Int)).getD 0 []=[]
      rw [List.getD_eq_getElem?_getD,List.getElem?_replicate]
      simp [m0]
    · have hm1:1<m:=by omega
      refine .inr (.inr ⟨1,T.getD 1 [],?_,?_⟩)
      · show (T.set 0 ((T.getD 0 []).drop 1))[1]?=_
        rw [List.getElem?_set_ne (by decide)]
        have:1<T.length:=by omega
        simp [this]
      · show _≠((T.set 0 ((T.getD 0 []).drop 1)).getD 0 []).length
        rw [hr.row hm1,List.getD_eq_getElem?_getD,List.getElem?_set_self h0]
        show n≠((T.getD 0 []).drop 1).length
        rw [List.length_drop,hrow];omega
    · refine .inr (.inr ⟨m - 1,T.getD (m - 1) []++[0],?_,?_⟩)
      · show (T.set (m - 1) (T.getD (m - 1) []++[0]))[m - 1]?=_
        rw [List.getElem?_set_self (by omega)]
      · show _≠((T.set (m - 1) (T.getD (m - 1) []++[0])).getD 0 []).length
        have e:∀row:List Int,(T.set (m - 1) row).getD 0 []=T.getD 0 []:=fun row=>by
          rw [List.getD_eq_getElem?_getD,List.getElem?_set_ne (by omega),List.getD_eq_getElem?_getD]
        rw [e,hrow,List.length_append,hr.row (show m - 1<m by omega)]
        simp
theorem hr_set {n n':Nat} {T:Tb} {row:List Int} (hr:Rect 1 n T) (h:row.length=n'):Rect 1 n' (T.set 0 row):=by
  obtain ⟨r,rfl⟩:=List.length_eq_one_iff.mp hr.1
  refine ⟨rfl,fun q hq=>?_⟩
  have:q=row:=by simpa using hq
  rw [this];exact h
theorem spoil_good {way m n:Nat} {T:Tb} (hr:Rect m n T) (hb:Big 11 T) (m0:0<m) (n0:0<n) (m4:m≤4) (n4:n≤4) (h:badB way m n=false):Small m (wideN way m n) (spoil way m T):=by
  unfold badB at h
  have hl:=hr.1
  have h0:0<T.length:=by omega
  have hrow:=hr.row m0
  have le4:∀{U:Tb},Big 11 U→∀x y,(ent U x y).natAbs≤2^4:=fun h x y=>Nat.le_trans (h.ent x y) (by decide)
  have hm0:T.getD 0 []∈T:=getD_mem h0
  by_cases h3:way=3∧m=1
  · obtain ⟨rfl,rfl⟩:=h3
    refine ⟨?_,m0,by unfold wideN;simp,by unfold wideN;simp;omega,le4 (Big.set hb (fun x hx=>?_) 0)⟩
    · exact hr_set hr (by show (T.getD 0 []++[0]).length=wideN 3 1 n;rw [List.length_append,hrow];rfl)
    · rcases List.mem_append.mp hx with z | z
      · exact hb _ hm0 x z
      · have:x=0:=by simpa using z
        rw [this];decide
  · by_cases h4:way=4∧m=1
    · rw [if_pos h4] at h
      obtain ⟨rfl,rfl⟩:=h4
      have n1:n≠1:=by simpa using h
      refine ⟨?_,m0,by unfold wideN;simp;omega,by unfold wideN;simp;omega,le4 (Big.set hb (fun x hx=>?_) 0)⟩
      · exact hr_set hr (by show ((T.getD 0 []).drop 1).length=wideN 4 1 n;rw [List.length_drop,hrow];rfl)
      · exact hb _ hm0 x (List.mem_of_mem_drop hx)
    · rw [if_neg h4] at h
      have ew:wideN way m n=n:=by unfold wideN;rw [if_neg h3,if_neg h4]
      have es:spoil way m T=T:=by
        simp only [Bool.or_eq_false_iff,Bool.and_eq_false_iff,decide_eq_false_iff_not] at h
        unfold spoil
        split <;> first | rfl | (exfalso;omega)
      rw [ew,es]
      exact ⟨hr,m0,n0,.inl ⟨m4,n4⟩,le4 hb⟩
theorem spoil_row {way n:Nat} {T:Tb} (hr:Rect 1 n T) (h:way=3∨way=4):∃row,spoil way 1 T=[row]∧row.length=wideN way 1 n:=by
  obtain ⟨r,rfl⟩:=List.length_eq_one_iff.mp hr.1
  have hl:r.length=n:=hr.2 r List.mem_cons_self
  rcases h with rfl | rfl
  · exact ⟨r++[0],rfl,by rw [List.length_append,hl];rfl⟩
  · exact ⟨r.drop 1,rfl,by rw [List.length_drop,hl];rfl⟩
theorem dI {i:Nat} {j:Int} (k:Nat) (hj:j=k):decide (V.int (i:Int)=V.int j)=decide (i=k):=by
  subst hj
  by_cases h:i=k
  · subst h;simp
  · rw [decide_eq_false (v_ne (by omega)),decide_eq_false h]
section
variable {σ:St} {H:Hp}
theorem eqV {i x:Nat} {c:Int} (k:Nat) (hc:c=k) (h:σ[i]?=some (some (.int x))) (Q:VK) (q:Q (.bl (decide (x=k))) H):tOp rEq (tVar i) (tC (V.int c)) σ H Q :=
  ⟨_,h,rfl,by rw [dI k hc];exact q⟩
theorem eqT {i x:Nat} {c:Int} (k:Nat) (hc:c=k) (h:σ[i]?=some (some (.int x))) (Q:Bool→Hp→Prop) (q:Q (decide (x=k)) H):tTest (tOp rEq (tVar i) (tC (V.int c))) σ H Q :=
  eqV k hc h _ ⟨_,rfl,q⟩
theorem and_of {t u:TT} {b c:Bool} (ht:∀Q:Bool→Hp→Prop,Q b H→t σ H Q) (hu:∀Q:Bool→Hp→Prop,Q c H→u σ H Q) (Q:Bool→Hp→Prop) (q:Q (b&&c) H):tAnd t u σ H Q :=
  ht _ (by cases b;exact iteF q;exact iteT (hu _ q))
theorem or_of {t u:TT} {b c:Bool} (ht:∀Q:Bool→Hp→Prop,Q b H→t σ H Q) (hu:∀Q:Bool→Hp→Prop,Q c H→u σ H Q) (Q:Bool→Hp→Prop) (q:Q (b||c) H):tOr t u σ H Q :=
  ht _ (by cases b;exact iteF (hu _ q);exact iteT q)
theorem andV_of {t u:TE} {b c:Bool} (ht:∀Q:VK,Q (.bl b) H→t σ H Q) (hu:∀Q:VK,Q (.bl c) H→u σ H Q) (Q:VK) (q:Q (.bl (b&&c)) H):tAndV t u σ H Q :=
  ht _ ⟨_,rfl,by cases b;exact iteF q;exact iteT (hu _ q)⟩
theorem orV_of {t u:TE} {b c:Bool} (ht:∀Q:VK,Q (.bl b) H→t σ H Q) (hu:∀Q:VK,Q (.bl c) H→u σ H Q) (Q:VK) (q:Q (.bl (b||c)) H):tOrV t u σ H Q :=
  ht _ ⟨_,rfl,by cases b;exact iteF (hu _ q);exact iteT q⟩
end
def dueO (i:Nat) (x bad:Bool) (more num:Int):Option Kd:=if bad=true then some .t else if i=8∧num<1 then some .n else if i=6∧more≠0 then some .r else if i<2∧x=false then some .c else none
theorem due_1 {i:Nat} {x:Bool}:(if i<2 then cw x else ("done" : Str))=word (dueO i x false 0 1):=by
  have e:dueO i x false 0 1=if i<2∧x=false then some .c else none:=by
    unfold dueO
    rw [if_neg (by decide:¬ false=true),if_neg (by omega:¬ (i=8∧(1:Int)<1)),if_neg (by omega:¬ (i=6∧(0:Int)≠0))]
  rw [e]
  by_cases h:i<2
  · rw [if_pos h]
    cases x
    · rw [if_pos ⟨h,rfl⟩];rfl
    · rw [if_neg (fun z=>by cases z.2)];rfl
  · rw [if_neg h,if_neg (fun z=>h z.1)];rfl
theorem due_2 {i:Nat} {x:Bool} {more:Int}:(if i=6∧more≠0 then ("row" : Str) else word (dueO i x false 0 1))=word (dueO i x false more 1):=by
  have e:∀more,dueO i x false more 1=if i=6∧more≠0 then some .r else if i<2∧x=false then some .c else none:=fun more=>by
    unfold dueO
    rw [if_neg (by decide:¬ false=true),if_neg (by omega:¬ (i=8∧(1:Int)<1))]
  rw [e,e,if_neg (by omega:¬ (i=6∧(0:Int)≠0))]
  by_cases h:i=6∧more≠0
  · rw [if_pos h,if_pos h];rfl
  · rw [if_neg h,if_neg h]
theorem due_3 {i:Nat} {x:Bool} {more num:Int}:(if i=8∧num<1 then ("number" : Str) else word (dueO i x false more 1))=word (dueO i x false more num):=by
  have e:∀num,dueO i x false more num=if i=8∧num<1 then some .n else if i=6∧more≠0 then some .r else if i<2∧x=false then some .c else none:=fun num=>by
    unfold dueO
    rw [if_neg (by decide:¬ false=true)]
  rw [e,e,if_neg (by omega:¬ (i=8∧(1:Int)<1))]
  by_cases h:i=8∧num<1
  · rw [if_pos h,if_pos h];rfl
  · rw [if_neg h,if_neg h]
theorem due_4 {i:Nat} {x bad:Bool} {more num:Int}:(if bad=true then ("table" : Str) else word (dueO i x false more num))=word (dueO i x bad more num):=by
  cases bad
  · rfl
  · rfl
theorem due_is {T:Tb} {ch:ICh} {m n i:Nat} {x bad:Bool} {more num:Int} (hb:bad=true→NoTab T) (hg:bad=false→Small m n T) (hok:0<n→(ch.ok m n↔x=true)) (h1:-1≤more):Due T ch ((n:Int)+more).toNat num i (dueO i x bad more num):=by
  unfold dueO
  cases bad with
  | true=>rw [if_pos rfl];exact .tab (hb rfl)
  | false =>
    have sm:=hg rfl
    have n0:=sm.n0
    rw [if_neg (by decide)]
    by_cases h8:i=8∧num<1
    · rw [if_pos h8];exact .num m n sm h8.1 h8.2
    rw [if_neg h8]
    by_cases h6:i=6∧more≠0
    · rw [if_pos h6];exact .row m n sm h6.1 (by omega)
    rw [if_neg h6]
    by_cases h2:i<2∧x=false
    · rw [if_pos h2]
      refine .chg m n sm h2.1 fun z=>?_
      have:=(hok n0).mp z
      rw [h2.2] at this;cases this
    rw [if_neg h2]
    refine .done m n sm (fun z=>(hok n0).mpr ?_) (fun z=>by omega) (fun z=>by omega)
    cases x
    · exact absurd ⟨z,rfl⟩ h2
    · rfl
section
variable {P:Program} {w:World} {K:PySem.W.Frag} {mg:Str→Option Value} {base:Heap}
def spLaw (K:PySem.W.Frag):Sp:=fun vs H Q _=>∃(a:Addr) (ns:List Int),vs=[.ref a]∧SqL K H a (ns.map V.int)∧ns.length≤63∧∀H',Q (.bl true) H'
set_option maxHeartbeats 8000000 in
theorem ok_q17 (D:DefAt K mg "law" s_q17 ["_law_script"]) (T:Bt mg) (C_q0y:Callee P w K mg base 1 "_law_at" ["_law_script","_law_k"] (spAt K)) (C_q10:Callee P w K mg base 2 "_law_table_by" ["_law_script","_law_first","_law_high","_law_wide"] (spTabBy K)) (C_q13:Callee P w K mg base 2 "_law_spoilt" ["_law_table","_law_way"] spSpoilt) (C_q14:Callee P w K mg base 2 "_law_some_change" ["_law_script","_law_high","_law_wide"] (spChg K)) (C_q16:Callee P w K mg base 51 "_law_as_due" ["_law_due","_law_which","_law_table","_law_change","_law_row","_law_number"] spAsDue):Callee P w K mg base 52 "law" ["_law_script"] (spLaw K):=by
  refine D.ok (k:=51) sc_q17 (fun vs H Q E h=>?_) (fun f cdv A outer s H vs Q E hr h=>?_)
  · obtain ⟨_,_,rfl,_⟩:=h
    rfl
  · obtain ⟨a0,ns,rfl,ha0,hlen,k⟩:=h
    refine ⟨_,(pss_cons (ps_set (i:=0) sc_q17.nd rfl (Or.inl rfl) (pe_slice sl_list (pv 0) po_none (po_some pe_int)))
        (pss_cons (ps_set (i:=1) sc_q17.nd rfl (Or.inl rfl) (pe_op op_add pe_int (pe_op op_mod (pe_callC C_q0y (hr.mono (by decide)) rfl (pa_cons (pv 0) (pa_cons pe_int pa_nil))) pe_int)))
        (pss_cons (ps_set (i:=2) sc_q17.nd rfl (Or.inl rfl) (pe_op op_add pe_int (pe_op op_mod (pe_callC C_q0y (hr.mono (by decide)) rfl (pa_cons (pv 0) (pa_cons pe_int pa_nil))) pe_int)))
        (pss_cons (ps_set (i:=3) sc_q17.nd rfl (Or.inl rfl) (pe_op op_mod (pe_callC C_q0y (hr.mono (by decide)) rfl (pa_cons (pv 0) (pa_cons pe_int pa_nil))) pe_int))
        (pss_cons (ps_set (i:=4) sc_q17.nd rfl (Or.inl rfl) (pe_callC C_q13 (hr.mono (by decide)) rfl (pa_cons (pe_callC C_q10 (hr.mono (by decide)) rfl (pa_cons (pv 0) (pa_cons pe_int (pa_cons (pv 1) (pa_cons (pv 2) pa_nil))))) (pa_cons (pv 3) pa_nil))))
        (pss_cons (ps_set (i:=5) sc_q17.nd rfl (Or.inl rfl) (pe_or (pe_cmpR op_eq (pv 3) pe_int (nomark _)) (pe_or (pe_cmpR op_eq (pv 3) pe_int (nomark _)) (pe_or (pe_cmpR op_eq (pv 3) pe_int (nomark _)) (pe_one (pe_and (pe_cmpR op_eq (pv 3) pe_int (nomark _)) (pe_one (pe_cmpR op_gt (pv 1) pe_int (nomark _)))))))))
        (pss_consX (ps_if (PW.pt (pw_and (pt_cmpR op_eq (pv 3) pe_int (nomark _)) (pw_and1 (pt_cmpR op_eq (pv 1) pe_int (nomark _))))) (pss_one (ps_set (i:=5) sc_q17.nd rfl (Or.inl rfl) (pe_cmpR op_eq (pv 2) pe_int (nomark _)))) pss_nil)
        (pss_cons (ps_asg (pe_callC C_q14 (hr.mono (by decide)) rfl (pa_cons (pv 0) (pa_cons (pv 1) (pa_cons (pv 2) pa_nil)))) (pg_tup (n:=2) rfl (pgs_cons (pg_name (i:=6) sc_q17.nd rfl (Or.inl rfl)) (pgs_cons (pg_name (i:=7) sc_q17.nd rfl (Or.inl rfl)) pgs_nil))))
        (pss_consX (ps_if (PW.pt (pw_or (PW.pt (pw_and (pt_cmpR op_eq (pv 3) pe_int (nomark _)) (pw_and1 (pt_cmpR op_eq (pv 1) pe_int (nomark _))))) (pw_or1 (PW.pt (pw_and (pt_cmpR op_eq (pv 3) pe_int (nomark _)) (pw_and1 (pt_cmpR op_eq (pv 1) pe_int (nomark _)))))))) (pss_cons (ps_set (i:=2) sc_q17.nd rfl (Or.inl rfl) (pe_callB call_len_seq rfl T.len bt_len (pa_cons (pe_ix ix_list (pv 4) pe_int (fun _ _=>rfl)) pa_nil)))
        (pss_one (ps_asg (pe_callC C_q14 (hr.mono (by decide)) rfl (pa_cons (pv 0) (pa_cons (pv 1) (pa_cons (pv 2) pa_nil)))) (pg_tup (n:=2) rfl (pgs_cons (pg_name (i:=6) sc_q17.nd rfl (Or.inl rfl)) (pgs_cons (pg_name (i:=7) sc_q17.nd rfl (Or.inl rfl)) pgs_nil)))))) pss_nil)
        (pss_cons (ps_set (i:=8) sc_q17.nd rfl (Or.inl rfl) (pe_op op_sub (pe_op op_mod (pe_callC C_q0y (hr.mono (by decide)) rfl (pa_cons (pv 0) (pa_cons pe_int pa_nil))) pe_int) pe_int))
        (pss_cons (ps_set (i:=9) sc_q17.nd rfl (Or.inl rfl) (pe_op op_sub (pe_op op_mod (pe_callC C_q0y (hr.mono (by decide)) rfl (pa_cons (pv 0) (pa_cons pe_int pa_nil))) pe_int) pe_int))
        (pss_cons (ps_for PassesOwn.never rfl (pi_range1 rfl T.range (pa_cons pe_int pa_nil)) (pg_name (i:=10) sc_q17.nd rfl (Or.inl rfl)) (pss_cons (ps_set (i:=11) sc_q17.nd rfl (Or.inl rfl) pe_str)
        (pss_consX (ps_if (pt_cmpR op_lt (pv 10) pe_int (nomark _)) (pss_one (ps_set (i:=11) sc_q17.nd rfl (Or.inl rfl) (pv 7))) pss_nil)
        (pss_consX (ps_if (PW.pt (pw_and (pt_cmpR op_eq (pv 10) pe_int (nomark _)) (pw_and1 (pt_cmpR op_ne (pv 8) pe_int (nomark _))))) (pss_one (ps_set (i:=11) sc_q17.nd rfl (Or.inl rfl) pe_str)) pss_nil)
        (pss_consX (ps_if (PW.pt (pw_and (pt_cmpR op_eq (pv 10) pe_int (nomark _)) (pw_and1 (pt_cmpR op_lt (pv 9) pe_int (nomark _))))) (pss_one (ps_set (i:=11) sc_q17.nd rfl (Or.inl rfl) pe_str)) pss_nil)
        (pss_consX (ps_if (pt_val (pv 5)) (pss_one (ps_set (i:=11) sc_q17.nd rfl (Or.inl rfl) pe_str)) pss_nil)
        (pss_cons (ps_setComp (i:=12) sc_q17.nd rfl (Or.inl rfl) (N:=["_law_row"]) (cap:=[]) (k:=1) (CompScope.mk' (defScope s_q17) ["_law_script","_law_high","_law_wide","_law_way","_law_table","_law_bad","_law_change","_law_word","_law_more","_law_number","_law_which","_law_due","_law_handed"] rfl rfl (by decide +kernel)) rfl (pi_list (pv 4)) (fun _ _ _ _=>(pg_name (i:=0) (show (["_law_row"]:List Str).Nodup by decide +kernel) rfl (Or.inl rfl))) (fun _ _ _ _=>(pe_callTy (call_list_ofK (K:=K) rfl) rfl T.list bt_list (pa_cons (pv 0) pa_nil))))
        (pss_cons (ps_if (pt_not (pt_val (pe_callC C_q16 (hr.mono (by decide)) rfl (pa_cons (pv 11) (pa_cons (pv 10) (pa_cons (pv 12) (pa_cons (pv 6) (pa_cons (pe_op op_rep (pe_lst (pa_cons pe_int pa_nil)) (pe_op op_add (pv 2) (pv 8))) (pa_cons (pv 9) pa_nil))))))))) (pss_one (ps_ret pe_bl)) pss_nil)
        (pss_one (ps_if (pt_cmpR (op_neT hr.units) (pv 12) (pv 4) (nomark _)) (pss_one (ps_ret pe_bl)) pss_nil))))))))))
        (pss_one (ps_ret pe_bl)))))))))))))),?_⟩
    refine ⟨_,rfl,_,rfl,a0,_,rfl,ha0,fun a hpa=>?_⟩
    have ecut:cutV (ns.map V.int) none (some 500)=ns.map V.int:=cut_all (by rw [List.length_map];omega)
    rw [ecut]
    have ha:SqL K (upd H a (.lst (ns.map V.int))) a (ns.map V.int):=SqL.of upd_same
    generalize upd H a (.lst (ns.map V.int))=H0 at ha ⊢
    refine ⟨_,rfl,a,ns,0,rfl,ha,_,_,rfl,rfl,(by show (0:Int)<4;decide),_,_,rfl,rfl,?_⟩
    obtain ⟨m',em,hm4⟩:=sizeN 4 (by decide) (ns.getD 0 0)
    have em:1+ns.getD 0 0 % 4=((m'+1:Nat):Int):=em
    dsimp only
    rw [em]
    generalize em2:m'+1=m at hm4 ⊢
    have m0:0<m:=by omega
    refine ⟨_,rfl,a,ns,1,rfl,ha,_,_,rfl,rfl,(by show (0:Int)<4;decide),_,_,rfl,rfl,?_⟩
    obtain ⟨n',en,hn4⟩:=sizeN 4 (by decide) (ns.getD 1 0)
    have en:1+ns.getD 1 0 % 4=((n'+1:Nat):Int):=en
    dsimp only
    rw [en]
    generalize en2:n'+1=n at hn4 ⊢
    have n0:0<n:=by omega
    refine ⟨_,rfl,a,ns,2,rfl,ha,_,_,rfl,rfl,(by show (0:Int)<8;decide),?_⟩
    have y0:0≤ns.getD 2 0 % 8:=Int.emod_nonneg _ (by decide)
    have y8:ns.getD 2 0 % 8<8:=Int.emod_lt_of_pos _ (by decide)
    dsimp only
    obtain ⟨way,ew⟩:=Int.eq_ofNat_of_zero_le y0
    rw [ew] at y8 ⊢
    have hw8:way<8:=by omega
    refine ⟨_,rfl,_,rfl,_,rfl,a,ns,7,m,n,rfl,ha,by omega,by omega,fun t0 rs0 T0 H1 s1 ht1 _ hr1 hb1=>?_⟩
    refine ⟨_,rfl,t0,rs0,T0,m,n,way,rfl,ht1,hr1,m0,n0,hm4,hn4,hw8,fun tb rs H2 s2 ht2 _=>?_⟩
    have ha2:=(s1.trans s2).seq ha
    clear ht1
    have hbad:badB way m n=true→NoTab (spoil way m T0):=spoil_bad hr1 m0 n0
    have hgood:badB way m n=false→Small m (wideN way m n) (spoil way m T0):=spoil_good hr1 hb1 m0 n0 hm4 hn4
    refine orV_of (eqV 1 rfl rfl) (orV_of (eqV 2 rfl rfl) (orV_of (eqV 4 rfl rfl) (andV_of (eqV 3 rfl rfl) (fun Q q=>⟨_,rfl,_,_,rfl,rfl,(q:Q (.bl (decide ((1:Int)<(m:Int)))) H2)⟩)))) _ ?_
    have e1:decide ((1:Int)<(m:Int))=decide (1<m):=decide_eq_decide.mpr (by omega)
    refine ⟨fun σ' H'=>σ'=[some (.ref a),some (.int m),some (.int n),some (.int way),some (.ref tb),some (.bl (badB way m n)),none,none,none,none,none,none,none]∧H'=H2,and_of (eqT 4 rfl rfl) (eqT 1 rfl rfl) _ ?_,?_⟩
    · by_cases hc:way=4∧m=1
      · refine iteB (by simp [hc]) (eqV 1 rfl rfl _ ⟨?_,rfl⟩)
        have:badB way m n=decide (n=1):=by unfold badB;rw [if_pos hc]
        rw [this];rfl
      · refine iteB0 (by rw [←Bool.decide_and];exact decide_eq_false hc) ⟨?_,rfl⟩
        have:badB way m n=(decide (way=1)||(decide (way=2)||(decide (way=4)||(decide (way=3)&&decide ((1:Int)<(m:Int)))))):=by
          unfold badB;rw [if_neg hc,e1,Bool.or_assoc,Bool.or_assoc]
        rw [this];rfl
    rintro σ' H' ⟨z1,z2⟩
    rw [z1,z2]
    clear z1 z2
    refine ⟨_,rfl,_,rfl,_,rfl,a,ns,m,n,rfl,ha2,m0,fun p1 c1 ch1 x1 H3 s3 hp1 hc1 hok1 hpl1=>⟨p1,_,rfl,SqT.of hp1,rfl,_,_,rfl,_,_,rfl,rfl,?_⟩⟩
    refine ⟨fun σ' H'=>∃(c:Addr) (ch:ICh) (x:Bool),σ'=[some (.ref a),some (.int m),some (.int (wideN way m n)),some (.int way),some (.ref tb),some (.bl (badB way m n)),some (.ref c),some (.str (cw x)),none,none,none,none,none]∧Same H2 H'∧IsI H' c ch∧(0<wideN way m n→(ch.ok m (wideN way m n)↔x=true))∧∀m n,ch.ok m n→ch.plain,or_of (and_of (eqT 3 rfl rfl) (eqT 1 rfl rfl)) (and_of (eqT 4 rfl rfl) (eqT 1 rfl rfl)) _ ?_,?_⟩
    · have ht3:=ht2.same s3
      by_cases hc:(way=3∨way=4)∧m=1
      · obtain ⟨hc,rfl⟩:=hc
        refine iteB (by rcases hc with h | h <;> simp [h]) ?_
        obtain ⟨row,er,hl⟩:=spoil_row hr1 hc
        rw [er] at ht3
        obtain ⟨r0,e0,hr0⟩:=ht3.tab.2.get (i:=0) rfl
        refine ⟨_,rfl,tb,_,_,_,rfl,rfl,SqL.of ht3.tab.1,atI_nat (j:=0) (rget e0),r0,_,rfl,.inl (SqL.of hr0),?_⟩
        rw [List.length_map,hl]
        refine ⟨_,rfl,_,rfl,_,rfl,a,ns,1,wideN way 1 n,rfl,s3.seq ha2,m0,fun p c ch x H4 s4 hp hc hok hpl=>⟨p,_,rfl,SqT.of hp,rfl,_,_,rfl,_,_,rfl,rfl,?_⟩⟩
        exact ⟨c,ch,x,rfl,s3.trans s4,hc,hok,hpl⟩
      · refine iteB0 ?_ ?_
        · by_cases m1:m=1
          · have w3:way≠3:=fun z=>hc ⟨.inl z,m1⟩
            have w4:way≠4:=fun z=>hc ⟨.inr z,m1⟩
            simp [w3,w4]
          · simp [m1]
        · have e:wideN way m n=n:=by
            unfold wideN
            rw [if_neg fun z=>hc ⟨.inl z.1,z.2⟩,if_neg fun z=>hc ⟨.inr z.1,z.2⟩]
          rw [e]
          exact ⟨c1,ch1,x1,rfl,s3,hc1,hok1,hpl1⟩
    clear hok1 hpl1 hc1 hp1
    rintro σ' H4 ⟨c,ch,x,rfl,s4,hc,hok,hpl⟩
    have ha4:=s4.seq ha2
    have ht4:=ht2.same s4
    refine ⟨_,rfl,a,ns,3,rfl,ha4,_,_,rfl,rfl,(by show (0:Int)<3;decide),_,_,rfl,rfl,?_⟩
    refine ⟨_,rfl,a,ns,6,rfl,ha4,_,_,rfl,rfl,(by show (0:Int)<5;decide),_,_,rfl,rfl,?_⟩
    dsimp only
    obtain ⟨more,emo⟩:∃more,more=ns.getD 3 0 % 3 - 1:=⟨_,rfl⟩
    obtain ⟨num,enu⟩:∃num,num=ns.getD 6 0 % 5 - 1:=⟨_,rfl⟩
    have mo1:-1≤more:=by omega
    have mo2:more≤1:=by omega
    have nu2:num≤3:=by omega
    rw [←emo,←enu]
    clear emo enu
    refine ⟨_,rfl,by decide,by decide,for_range0 (fun i σ H5=>∃(v10 v11 v12:Option V),σ=[some (.ref a),some (.int m),some (.int (wideN way m n)),some (.int way),some (.ref tb),some (.bl (badB way m n)),some (.ref c),some (.str (cw x)),some (.int more),some (.int num),v10,v11,v12]∧Same H4 H5) ⟨none,none,none,rfl,Same.refl _⟩ ?_ ?_⟩
    · rintro i σ H5 hi ⟨v10,v11,v12,rfl,s5⟩
      have hi':i<10:=by simpa using hi
      refine ⟨fun σ' H'=>σ'=[some (.ref a),some (.int m),some (.int (wideN way m n)),some (.int way),some (.ref tb),some (.bl (badB way m n)),some (.ref c),some (.str (cw x)),some (.int more),some (.int num),some (.int i),some (.str (word (dueO i x false 0 1))),v12]∧H'=H5,⟨_,rfl,_,_,rfl,rfl,_,rfl,?_⟩,?_⟩
      · rw [←due_1]
        by_cases h2:i<2
        · rw [if_pos h2];exact iteP (by omega) ⟨_,rfl,rfl,rfl⟩
        · rw [if_neg h2];exact iteN (by omega) ⟨rfl,rfl⟩
      rintro σ' H' ⟨z1,z2⟩
      rw [z1,z2]
      clear z1 z2
      refine ⟨fun σ' H'=>σ'=[some (.ref a),some (.int m),some (.int (wideN way m n)),some (.int way),some (.ref tb),some (.bl (badB way m n)),some (.ref c),some (.str (cw x)),some (.int more),some (.int num),some (.int i),some (.str (word (dueO i x false more 1))),v12]∧H'=H5,and_of (c:=!decide (V.int more=V.int 0)) (eqT 6 rfl rfl) (fun Q q=>⟨_,rfl,rfl,_,rfl,q⟩) _ ?_,?_⟩
      · rw [←due_2]
        by_cases h2:i=6∧more≠0
        · rw [if_pos h2];exact iteB (by rw [decide_eq_true h2.1,decide_eq_false (v_ne h2.2)];rfl) ⟨rfl,rfl⟩
        · rw [if_neg h2];exact iteB0 (by
            by_cases h6:i=6
            · have:more=0:=Decidable.byContradiction fun z=>h2 ⟨h6,z⟩
              rw [this,decide_eq_true (rfl:V.int 0=V.int 0)];simp
            · rw [decide_eq_false h6];rfl) ⟨rfl,rfl⟩
      rintro σ' H' ⟨z1,z2⟩
      rw [z1,z2]
      clear z1 z2
      refine ⟨fun σ' H'=>σ'=[some (.ref a),some (.int m),some (.int (wideN way m n)),some (.int way),some (.ref tb),some (.bl (badB way m n)),some (.ref c),some (.str (cw x)),some (.int more),some (.int num),some (.int i),some (.str (word (dueO i x false more num))),v12]∧H'=H5,and_of (c:=decide (num<1)) (eqT 8 rfl rfl) (fun Q q=>⟨_,rfl,_,_,rfl,rfl,_,rfl,q⟩) _ ?_,?_⟩
      · rw [←due_3]
        by_cases h2:i=8∧num<1
        · rw [if_pos h2];exact iteB (by rw [decide_eq_true h2.1,decide_eq_true h2.2];rfl) ⟨rfl,rfl⟩
        · rw [if_neg h2];exact iteB0 (by rw [←Bool.decide_and];exact decide_eq_false h2) ⟨rfl,rfl⟩
      rintro σ' H' ⟨z1,z2⟩
      rw [z1,z2]
      clear z1 z2
      refine ⟨fun σ' H'=>σ'=[some (.ref a),some (.int m),some (.int (wideN way m n)),some (.int way),some (.ref tb),some (.bl (badB way m n)),some (.ref c),some (.str (cw x)),some (.int more),some (.int num),some (.int i),some (.str (word (dueO i x (badB way m n) more num))),v12]∧H'=H5,⟨_,rfl,_,rfl,?_⟩,?_⟩
      · rw [←due_4]
        by_cases h2:badB way m n=true
        · rw [if_pos h2];exact iteB h2 ⟨rfl,rfl⟩
        · rw [if_neg h2];exact iteB0 (by simpa using h2) ⟨rfl,rfl⟩
      rintro σ' H' ⟨z1,z2⟩
      rw [z1,z2]
      clear z1 z2
      have hd:=due_is (ch:=ch) (i:=i) (num:=num) hbad hgood hok mo1
      have ht5:=ht4.same s5
      generalize dueO i x (badB way m n) more num=o at hd ⊢
      have hTT:(spoil way m T0).length≤4:=by
        unfold spoil
        split <;> simp [hr1.1,hm4]
      have hwn:wideN way m n≤5:=by unfold wideN;split <;> (try split) <;> omega
      generalize spoil way m T0=TT at ht5 hd ht4 hTT
      have h1:=ht5.tab.1
      have hlen:=ht5.tab.2.length
      have hTl:TT.length≤4:=hTT
      refine ⟨_,rfl,tb,rfl,⟨_,SqL.of h1⟩,comp_list (K:=K) (a:=tb) (xs:=rs.map V.ref) (fun j ys H6=>∃qs,ys=qs.map V.ref∧qs.length=j∧j≤TT.length∧CopyAt H5 H6 qs (TT.take j)) (by rw [List.length_map,hlen];exact Nat.le_trans hTl (by decide)) ⟨[],rfl,rfl,Nat.zero_le _,by simpa using CopyAt.start H5⟩ (fun j ys H6 ⟨qs,e,e2,_⟩=>by rw [e,List.length_map,e2]) (fun j ys H6 _ ⟨qs,_,_,_,c⟩=>SqL.of (c.same _ _ h1)) ?_ ?_⟩
      · rintro j y ys H6 hx ⟨qs,rfl,hq,hj,c⟩
        obtain ⟨r,er,rfl⟩:=mref hx
        obtain ⟨row,erow,hrow⟩:=pget ht5.tab.2 er
        refine ⟨rfl,_,rfl,r,_,rfl,.inl (SqL.of (c.same _ _ hrow)),fun l hl=>?_⟩
        have hlt:j<TT.length:=(List.getElem?_eq_some_iff.mp erow).1
        refine ⟨qs++[l],by rw [List.map_append];rfl,by rw [List.length_append,hq];rfl,hlt,?_⟩
        have e:TT.take (j+1)=TT.take j++[row]:=by rw [List.take_succ,erow];rfl
        rw [e]
        exact c.more hl
      · rintro ys H6 ⟨qs,rfl,hq,hj,cp⟩ hd' hdn
        rw [List.length_map,hlen,List.take_length] at cp
        obtain ⟨s6,t6,_⟩:=cp.done hdn
        generalize upd H6 hd' (.lst (qs.map V.ref))=H7 at s6 t6 ⊢
        refine ⟨_,rfl,_,rfl,_,rfl,_,rfl,by show 1≤sizeLine;decide,fun l1 hl1=>?_⟩
        have s7:Same H7 (upd H7 l1 (.lst [V.int 1])):=same_upd hl1
        have hl17:(upd H7 l1 (.lst [V.int 1])) l1=some (.lst [V.int 1]):=upd_same
        generalize upd H7 l1 (.lst [V.int 1])=H8 at s7 hl17 ⊢
        refine ⟨_,rfl,_,rfl,_,_,rfl,rfl,l1,_,_,rfl,rfl,hl17,by omega,by omega,by show 1*((wideN way m n:Int)+more).toNat≤sizeLine;exact Nat.le_trans (by omega:1*((wideN way m n:Int)+more).toNat≤1000) (by decide),fun l2 hl2=>?_⟩
        rw [rep_of]
        have s8:=s7.laid (o:=.lst ((List.replicate ((wideN way m n:Int)+more).toNat (1:Int)).map V.int)) hl2
        have hl28:IsRow (upd H8 l2 (.lst ((List.replicate ((wideN way m n:Int)+more).toNat (1:Int)).map V.int))) l2 (List.replicate ((wideN way m n:Int)+more).toNat (1:Int)):=upd_same
        generalize upd H8 l2 (.lst ((List.replicate ((wideN way m n:Int)+more).toNat (1:Int)).map V.int))=H9 at s8 hl28 ⊢
        have s69:=s6.trans s8
        have t9:=t6.same s8
        have hdl:Due TT ch (List.replicate ((wideN way m n:Int)+more).toNat (1:Int)).length num i o:=by rw [List.length_replicate];exact hd
        refine ⟨_,rfl,TT,ch,_,num,i,o,_,rfl,⟨hd',c,l2,qs,t9,(s5.trans s69) _ _ hc,hl28,hi',hpl,fun y=>?_,nu2⟩,hdl,fun H10 s10=>⟨_,rfl,iteF ?_⟩⟩
        · unfold rowF
          rw [List.getD_eq_getElem?_getD,List.getElem?_replicate]
          split <;> decide
        have t10:=t9.same s10
        have tb10:=ht5.same (s69.trans s10)
        refine ⟨_,rfl,_,rfl,hd',tb,qs,rs,TT,TT,rfl,rfl,t10.tab,tb10.tab,_,rfl,iteNS rfl ?_⟩
        exact ⟨_,_,_,rfl,s5.trans (s69.trans s10)⟩
    · rintro σ H5 ⟨v10,v11,v12,rfl,s5⟩
      exact k H5
end
end X1
namespace X1
open PySem L2
structure FD (K:PySem.W.Frag) (x:Str) (st:Stmt):Prop where
  ex:∃(f:Addr),PySem.W.nsIn K mainGlobals x=some (some (.ref f))∧∃(oc:Value) (od an:Option Addr) (sl:Array (Option Value)) (kV dc pm cd ct:Value),K.lookup f=some ⟨oc,od,.func (PySem.W.fnOf x x (defArgs st) (defBody st) (defScope st) .none kV dc pm an cd ct),sl⟩∧PySem.W.codeIn K cd x=true∧PySem.W.keepIn K (.ref f)=true
theorem FD.d {K:PySem.W.Frag} {h:Heap} {mg:Str→Option Value} {x:Str} {st:Stmt} (F:FD K x st) (X:K.In h) (G:h.Ns mainGlobals mg) (ps:List Str) (hb:∀(kV doc pm:Value) (an:Option Addr) (cdv ct:Value) (us:List Value),us.length=ps.length→bindArgs (PySem.W.fnOf x x (defArgs st) (defBody st) (defScope st) .none kV doc pm an cdv ct) ⟨us,[]⟩=pure (ps.zip us)):DefAt K mg x st ps:=by
  obtain ⟨f,a,oc,od,an,sl,kV,dc,pm,cd,ct,l,c,k⟩:=F.ex
  exact def_mk X G a l c k hb
structure FM (K:PySem.W.Frag) (C:Addr) (x q:Str) (st:Stmt):Prop where
  ex:∃(f:Addr),PySem.W.findIn K (.ref C) x=some (some (.ref f))∧PySem.W.isFn K (.ref f)=true∧∃(oc:Value) (od an:Option Addr) (sl:Array (Option Value)) (kV dc pm cd ct:Value),K.lookup f=some ⟨oc,od,.func (PySem.W.fnOf x q (defArgs st) (defBody st) (defScope st) .none kV dc pm an cd ct),sl⟩∧PySem.W.codeIn K cd q=true∧PySem.W.keepIn K (.ref f)=true
theorem FM.d {K:PySem.W.Frag} {C:Addr} {x q:Str} {st:Stmt} (F:FM K C x q st) (ps:List Str) (hb:∀(kV doc pm:Value) (an:Option Addr) (cdv ct:Value) (us:List Value),us.length=ps.length→bindArgs (PySem.W.fnOf x q (defArgs st) (defBody st) (defScope st) .none kV doc pm an cdv ct) ⟨us,[]⟩=pure (ps.zip us)):MDefAt K C x q st ps:=by
  obtain ⟨f,a,i,oc,od,an,sl,kV,dc,pm,cd,ct,l,c,k⟩:=F.ex
  exact ⟨_,_,fun_mk l c k,⟨a,i,k⟩,(fun_mk l c k).binds hb⟩
theorem FM.i {K:PySem.W.Frag} {h:Heap} {mg:Str→Option Value} {C:Addr} {y q:Str} {st:Stmt} (F:FM K C "__init__" q st) (X:K.In h) (G:h.Ns mainGlobals mg) (mk:PySem.W.makesIn K C=true) (kc:PySem.W.keepIn K (.ref C)=true) (aC:PySem.W.nsIn K mainGlobals y=some (some (.ref C))) (ps:List Str) (hb:∀(kV doc pm:Value) (an:Option Addr) (cdv ct:Value) (us:List Value),us.length=ps.length→bindArgs (PySem.W.fnOf "__init__" q (defArgs st) (defBody st) (defScope st) .none kV doc pm an cdv ct) ⟨us,[]⟩=pure (ps.zip us)):MkAt K mg C y q st ps:=by
  obtain ⟨f,a,i,oc,od,an,sl,kV,dc,pm,cd,ct,l,c,k⟩:=F.ex
  exact ⟨_,_,fun_mk l c k,⟨mk,a,i,kc⟩,PySem.W.mg_of X G aC,(fun_mk l c k).binds hb⟩
theorem lenL1 {us:List Value} (h:us.length=1):∃x0,us=[x0]:=match us,h with | [x0],_=>⟨x0,rfl⟩
theorem lenL2 {us:List Value} (h:us.length=2):∃x0 x1,us=[x0,x1]:=match us,h with | [x0,x1],_=>⟨x0,x1,rfl⟩
theorem lenL3 {us:List Value} (h:us.length=3):∃x0 x1 x2,us=[x0,x1,x2]:=match us,h with | [x0,x1,x2],_=>⟨x0,x1,x2,rfl⟩
theorem lenL4 {us:List Value} (h:us.length=4):∃x0 x1 x2 x3,us=[x0,x1,x2,x3]:=match us,h with | [x0,x1,x2,x3],_=>⟨x0,x1,x2,x3,rfl⟩
theorem lenL5 {us:List Value} (h:us.length=5):∃x0 x1 x2 x3 x4,us=[x0,x1,x2,x3,x4]:=match us,h with | [x0,x1,x2,x3,x4],_=>⟨x0,x1,x2,x3,x4,rfl⟩
theorem lenL6 {us:List Value} (h:us.length=6):∃x0 x1 x2 x3 x4 x5,us=[x0,x1,x2,x3,x4,x5]:=match us,h with | [x0,x1,x2,x3,x4,x5],_=>⟨x0,x1,x2,x3,x4,x5,rfl⟩
set_option maxHeartbeats 4000000 in
theorem all_mk {l:PySem.W.OpenLaw} {w:World} {K:PySem.W.Frag} {h:Heap} {mg:Str→Option Value} {fa:Addr} (htr:l.prog.given.tree=none) (X:K.In h) (G:h.Ns mainGlobals mg) (hfa:mg "law" = some (.ref fa))
    {C:Addr}
    {f51:Addr} {od51 an51:Option Addr} {sl51:Array (Option Value)} {oc51 kV51 dc51 pm51 cd51 ct51:Value}
    {c_TableError:Addr}
    {c_BadTable:Addr}
    {c_BadChange:Addr}
    {c_NoRoad:Addr}
    {c_BadRow:Addr}
    {c_BadNumber:Addr}
    {c_NoLine:Addr}
    (aC:PySem.W.nsIn K mainGlobals "Walk" = some (some (.ref C)))
    (d0:FD K "swap_parts" s_q05)
    (d1:FD K "refuse_no_table" s_q00)
    (d2:FD K "copied" s_q01)
    (d3:FD K "change_by_row" s_q03)
    (d4:FD K "column_of" s_q0f)
    (d5:FM K C "__init__" "Walk.__init__" s_q18)
    (d6:FM K C "tip_over" "Walk.tip_over" s_q19)
    (d7:FM K C "make" "Walk.make" s_q1a)
    (d8:FM K C "add_times" "Walk.add_times" s_q1b)
    (d9:FM K C "swap_rows" "Walk.swap_rows" s_q1c)
    (d10:FM K C "turn_row" "Walk.turn_row" s_q1d)
    (d11:FM K C "lessen" "Walk.lessen" s_q1e)
    (d12:FM K C "meet" "Walk.meet" s_q1f)
    (d13:FD K "first_place" s_q0a)
    (d14:FD K "lessen_row" s_q0d)
    (d15:FD K "lift" s_q0e)
    (d16:FD K "take_in" s_q0c)
    (d17:FD K "build_stairs" s_q0b)
    (d18:FD K "build_both_stairs" s_q0j)
    (d19:FD K "has_number_beside" s_q0k)
    (d20:FD K "diagonal_length" s_q0i)
    (d21:FD K "link" s_q0m)
    (d22:FD K "chain" s_q0l)
    (d23:FD K "turn_up" s_q0n)
    (d24:FD K "brought" s_q0g)
    (d25:FD K "diagonal" s_q0h)
    (d26:FD K "change_back" s_q08)
    (d27:FD K "taken_back" s_q09)
    (d28:FD K "are_kin" s_q0o)
    (d29:FD K "road" s_q0p)
    (d30:FD K "multiplied" s_q0w)
    (d31:FD K "greatest_into_both" s_q0x)
    (d32:FD K "how_many" s_q0v)
    (d33:FD K "classes" s_q0u)
    (d34:FD K "tally_of_one" s_q0s)
    (d35:FD K "tallied" s_q0r)
    (d36:FD K "less_the_stairs" s_q0t)
    (d37:FD K "how_often" s_q0q)
    (d38:FD K "refuse_bad_change" s_q02)
    (d39:FD K "change_by_column" s_q04)
    (d40:FD K "changed_all" s_q07)
    (d41:FD K "changed" s_q06)
    (d42:FD K "_law_at" s_q0y)
    (d43:FD K "_law_copy" s_q0z)
    (d44:FD K "_law_table_by" s_q10)
    (d45:FD K "_law_spoilt" s_q13)
    (d46:FD K "_law_some_change" s_q14)
    (d47:FD K "_law_done" s_q11)
    (d48:FD K "_law_said" s_q12)
    (d49:FD K "_law_refuses" s_q15)
    (d50:FD K "_law_as_due" s_q16)
    (a51:PySem.W.nsIn K mainGlobals "law" = some (some (.ref f51)))
    (l51:K.lookup f51=some ⟨oc51,od51,.func (PySem.W.fnOf "law" "law" (defArgs s_q17) (defBody s_q17) (defScope s_q17) .none kV51 dc51 pm51 an51 cd51 ct51),sl51⟩) (c51:PySem.W.codeIn K cd51 "law" = true) (k51:PySem.W.keepIn K (.ref f51)=true)
    (pg:PySem.W.plainGet K C Str.empty=true) (hd:PySem.W.hasDictIn K C=true) (po:PySem.W.plainOver K C=true) (sa:PySem.W.findIn K (.ref C) "__setattr__" = some (some (.builtin "object.__setattr__"))) (mk:PySem.W.makesIn K C=true) (kc:PySem.W.keepIn K (.ref C)=true)
    (nf0:PySem.W.findIn K (.ref C) "rows" = some none)
    (nf1:PySem.W.findIn K (.ref C) "side" = some none)
    (nf2:PySem.W.findIn K (.ref C) "changes" = some none)
    (ax_TableError:PySem.W.nsIn K mainGlobals "TableError" = some (some (.ref c_TableError)))
    (qx_TableError:PySem.W.excIn K c_TableError veB "ValueError.__new__" = true)
    (k1_TableError:(PySem.W.clsIn K c_TableError).isSome=true)
    (ga_TableError:PySem.W.findIn K (.ref c_TableError) "__getattribute__" = some (some (.builtin "BaseException.__getattribute__")))
    (gn_TableError:PySem.W.findIn K (.ref c_TableError) "__getattr__" = some none)
    (mb_TableError:PySem.W.mroIn K c_TableError (.type "BaseException")=some true)
    (k3_TableError:PySem.W.findIn K (.ref c_TableError) "__class__" = some (some (.builtin "object.__class__")))
    (k6_TableError:PySem.W.mroIn K c_TableError (.type "object")=some true)
    (ax_BadTable:PySem.W.nsIn K mainGlobals "BadTable" = some (some (.ref c_BadTable)))
    (qx_BadTable:PySem.W.excIn K c_BadTable veB "ValueError.__new__" = true)
    (k1_BadTable:(PySem.W.clsIn K c_BadTable).isSome=true)
    (ga_BadTable:PySem.W.findIn K (.ref c_BadTable) "__getattribute__" = some (some (.builtin "BaseException.__getattribute__")))
    (gn_BadTable:PySem.W.findIn K (.ref c_BadTable) "__getattr__" = some none)
    (mb_BadTable:PySem.W.mroIn K c_BadTable (.type "BaseException")=some true)
    (k3_BadTable:PySem.W.findIn K (.ref c_BadTable) "__class__" = some (some (.builtin "object.__class__")))
    (k6_BadTable:PySem.W.mroIn K c_BadTable (.type "object")=some true)
    (ax_BadChange:PySem.W.nsIn K mainGlobals "BadChange" = some (some (.ref c_BadChange)))
    (qx_BadChange:PySem.W.excIn K c_BadChange veB "ValueError.__new__" = true)
    (k1_BadChange:(PySem.W.clsIn K c_BadChange).isSome=true)
    (ga_BadChange:PySem.W.findIn K (.ref c_BadChange) "__getattribute__" = some (some (.builtin "BaseException.__getattribute__")))
    (gn_BadChange:PySem.W.findIn K (.ref c_BadChange) "__getattr__" = some none)
    (mb_BadChange:PySem.W.mroIn K c_BadChange (.type "BaseException")=some true)
    (k3_BadChange:PySem.W.findIn K (.ref c_BadChange) "__class__" = some (some (.builtin "object.__class__")))
    (k6_BadChange:PySem.W.mroIn K c_BadChange (.type "object")=some true)
    (ax_NoRoad:PySem.W.nsIn K mainGlobals "NoRoad" = some (some (.ref c_NoRoad)))
    (qx_NoRoad:PySem.W.excIn K c_NoRoad veB "ValueError.__new__" = true)
    (k1_NoRoad:(PySem.W.clsIn K c_NoRoad).isSome=true)
    (ga_NoRoad:PySem.W.findIn K (.ref c_NoRoad) "__getattribute__" = some (some (.builtin "BaseException.__getattribute__")))
    (gn_NoRoad:PySem.W.findIn K (.ref c_NoRoad) "__getattr__" = some none)
    (mb_NoRoad:PySem.W.mroIn K c_NoRoad (.type "BaseException")=some true)
    (k3_NoRoad:PySem.W.findIn K (.ref c_NoRoad) "__class__" = some (some (.builtin "object.__class__")))
    (k6_NoRoad:PySem.W.mroIn K c_NoRoad (.type "object")=some true)
    (ax_BadRow:PySem.W.nsIn K mainGlobals "BadRow" = some (some (.ref c_BadRow)))
    (qx_BadRow:PySem.W.excIn K c_BadRow veB "ValueError.__new__" = true)
    (k1_BadRow:(PySem.W.clsIn K c_BadRow).isSome=true)
    (ga_BadRow:PySem.W.findIn K (.ref c_BadRow) "__getattribute__" = some (some (.builtin "BaseException.__getattribute__")))
    (gn_BadRow:PySem.W.findIn K (.ref c_BadRow) "__getattr__" = some none)
    (mb_BadRow:PySem.W.mroIn K c_BadRow (.type "BaseException")=some true)
    (k3_BadRow:PySem.W.findIn K (.ref c_BadRow) "__class__" = some (some (.builtin "object.__class__")))
    (k6_BadRow:PySem.W.mroIn K c_BadRow (.type "object")=some true)
    (ax_BadNumber:PySem.W.nsIn K mainGlobals "BadNumber" = some (some (.ref c_BadNumber)))
    (qx_BadNumber:PySem.W.excIn K c_BadNumber veB "ValueError.__new__" = true)
    (k1_BadNumber:(PySem.W.clsIn K c_BadNumber).isSome=true)
    (ga_BadNumber:PySem.W.findIn K (.ref c_BadNumber) "__getattribute__" = some (some (.builtin "BaseException.__getattribute__")))
    (gn_BadNumber:PySem.W.findIn K (.ref c_BadNumber) "__getattr__" = some none)
    (mb_BadNumber:PySem.W.mroIn K c_BadNumber (.type "BaseException")=some true)
    (k3_BadNumber:PySem.W.findIn K (.ref c_BadNumber) "__class__" = some (some (.builtin "object.__class__")))
    (k6_BadNumber:PySem.W.mroIn K c_BadNumber (.type "object")=some true)
    (ax_NoLine:PySem.W.nsIn K mainGlobals "NoLine" = some (some (.ref c_NoLine)))
    (qx_NoLine:PySem.W.excIn K c_NoLine veB "ValueError.__new__" = true)
    (k1_NoLine:(PySem.W.clsIn K c_NoLine).isSome=true)
    (ga_NoLine:PySem.W.findIn K (.ref c_NoLine) "__getattribute__" = some (some (.builtin "BaseException.__getattribute__")))
    (gn_NoLine:PySem.W.findIn K (.ref c_NoLine) "__getattr__" = some none)
    (mb_NoLine:PySem.W.mroIn K c_NoLine (.type "BaseException")=some true)
    (k3_NoLine:PySem.W.findIn K (.ref c_NoLine) "__class__" = some (some (.builtin "object.__class__")))
    (k6_NoLine:PySem.W.mroIn K c_NoLine (.type "object")=some true)
    (kn:PySem.W.specialIn K (.builtin "object.__class__") "__get__" = some (some (.builtin "getset_descriptor.__get__"))) (kt:PySem.W.takesIn K (.builtin "object.__class__")=some true)
    (ERt0:PySem.W.exmOne K (.ref c_BadTable) (.ref c_TableError)=some true)
    (ERt1:PySem.W.exmOne K (.ref c_BadTable) (.ref c_BadTable)=some true)
    (ERt2:PySem.W.exmOne K (.ref c_BadTable) (.ref c_BadChange)=some false)
    (ERt3:PySem.W.exmOne K (.ref c_BadTable) (.ref c_BadRow)=some false)
    (ERt4:PySem.W.exmOne K (.ref c_BadTable) (.ref c_BadNumber)=some false)
    (ERt5:PySem.W.kitOne K (.ref c_BadTable) (.ref c_BadTable)=some true)
    (ERt6:PySem.W.kitOne K (.ref c_BadTable) (.ref c_BadChange)=some false)
    (ERt7:PySem.W.kitOne K (.ref c_BadTable) (.ref c_NoRoad)=some false)
    (ERt8:PySem.W.kitOne K (.ref c_BadTable) (.ref c_BadRow)=some false)
    (ERt9:PySem.W.kitOne K (.ref c_BadTable) (.ref c_BadNumber)=some false)
    (ERt10:PySem.W.kitOne K (.ref c_BadTable) (.ref c_NoLine)=some false)
    (ERt11:PySem.W.kitOne K (.ref c_BadTable) (.type "ValueError")=some true)
    (ERc0:PySem.W.exmOne K (.ref c_BadChange) (.ref c_TableError)=some true)
    (ERc1:PySem.W.exmOne K (.ref c_BadChange) (.ref c_BadTable)=some false)
    (ERc2:PySem.W.exmOne K (.ref c_BadChange) (.ref c_BadChange)=some true)
    (ERc3:PySem.W.exmOne K (.ref c_BadChange) (.ref c_BadRow)=some false)
    (ERc4:PySem.W.exmOne K (.ref c_BadChange) (.ref c_BadNumber)=some false)
    (ERc5:PySem.W.kitOne K (.ref c_BadChange) (.ref c_BadTable)=some false)
    (ERc6:PySem.W.kitOne K (.ref c_BadChange) (.ref c_BadChange)=some true)
    (ERc7:PySem.W.kitOne K (.ref c_BadChange) (.ref c_NoRoad)=some false)
    (ERc8:PySem.W.kitOne K (.ref c_BadChange) (.ref c_BadRow)=some false)
    (ERc9:PySem.W.kitOne K (.ref c_BadChange) (.ref c_BadNumber)=some false)
    (ERc10:PySem.W.kitOne K (.ref c_BadChange) (.ref c_NoLine)=some false)
    (ERc11:PySem.W.kitOne K (.ref c_BadChange) (.type "ValueError")=some true)
    (ERr0:PySem.W.exmOne K (.ref c_BadRow) (.ref c_TableError)=some true)
    (ERr1:PySem.W.exmOne K (.ref c_BadRow) (.ref c_BadTable)=some false)
    (ERr2:PySem.W.exmOne K (.ref c_BadRow) (.ref c_BadChange)=some false)
    (ERr3:PySem.W.exmOne K (.ref c_BadRow) (.ref c_BadRow)=some true)
    (ERr4:PySem.W.exmOne K (.ref c_BadRow) (.ref c_BadNumber)=some false)
    (ERr5:PySem.W.kitOne K (.ref c_BadRow) (.ref c_BadTable)=some false)
    (ERr6:PySem.W.kitOne K (.ref c_BadRow) (.ref c_BadChange)=some false)
    (ERr7:PySem.W.kitOne K (.ref c_BadRow) (.ref c_NoRoad)=some false)
    (ERr8:PySem.W.kitOne K (.ref c_BadRow) (.ref c_BadRow)=some true)
    (ERr9:PySem.W.kitOne K (.ref c_BadRow) (.ref c_BadNumber)=some false)
    (ERr10:PySem.W.kitOne K (.ref c_BadRow) (.ref c_NoLine)=some false)
    (ERr11:PySem.W.kitOne K (.ref c_BadRow) (.type "ValueError")=some true)
    (ERn0:PySem.W.exmOne K (.ref c_BadNumber) (.ref c_TableError)=some true)
    (ERn1:PySem.W.exmOne K (.ref c_BadNumber) (.ref c_BadTable)=some false)
    (ERn2:PySem.W.exmOne K (.ref c_BadNumber) (.ref c_BadChange)=some false)
    (ERn3:PySem.W.exmOne K (.ref c_BadNumber) (.ref c_BadRow)=some false)
    (ERn4:PySem.W.exmOne K (.ref c_BadNumber) (.ref c_BadNumber)=some true)
    (ERn5:PySem.W.kitOne K (.ref c_BadNumber) (.ref c_BadTable)=some false)
    (ERn6:PySem.W.kitOne K (.ref c_BadNumber) (.ref c_BadChange)=some false)
    (ERn7:PySem.W.kitOne K (.ref c_BadNumber) (.ref c_NoRoad)=some false)
    (ERn8:PySem.W.kitOne K (.ref c_BadNumber) (.ref c_BadRow)=some false)
    (ERn9:PySem.W.kitOne K (.ref c_BadNumber) (.ref c_BadNumber)=some true)
    (ERn10:PySem.W.kitOne K (.ref c_BadNumber) (.ref c_NoLine)=some false)
    (ERn11:PySem.W.kitOne K (.ref c_BadNumber) (.type "ValueError")=some true)
    (z0:PySem.W.nsIn K mainGlobals "len" = some none)
    (z1:PySem.W.nsIn K mainGlobals "list" = some none)
    (z2:PySem.W.nsIn K mainGlobals "tuple" = some none)
    (z3:PySem.W.nsIn K mainGlobals "int" = some none)
    (z4:PySem.W.nsIn K mainGlobals "bool" = some none)
    (z5:PySem.W.nsIn K mainGlobals "str" = some none)
    (z6:PySem.W.nsIn K mainGlobals "range" = some none)
    (z7:PySem.W.nsIn K mainGlobals "zip" = some none)
    (z8:PySem.W.nsIn K mainGlobals "enumerate" = some none)
    (z9:PySem.W.nsIn K mainGlobals "reversed" = some none)
    (z10:PySem.W.nsIn K mainGlobals "isinstance" = some none)
    (z11:PySem.W.nsIn K mainGlobals "min" = some none)
    (zve:PySem.W.nsIn K mainGlobals "ValueError" = some none) :
    ∃fd:FuncData,(∀(s:Shared) (v:Value),BindsTo s fd ⟨[v],[]⟩ [("_law_script",v)])∧∀base:Heap,K.In base→base.Ns mainGlobals mg→base.NoSeer→FnOk l.prog w K mg base CX0 52 fa fd ["_law_script"] (spLaw K):=by
  have e:=hfa.symm.trans (PySem.W.mg_of X G a51)
  cases e
  have T:Bt mg:=⟨PySem.W.mg_none_of X G z0,PySem.W.mg_none_of X G z1,PySem.W.mg_none_of X G z2,PySem.W.mg_none_of X G z3,PySem.W.mg_none_of X G z4,PySem.W.mg_none_of X G z5,PySem.W.mg_none_of X G z6,PySem.W.mg_none_of X G z7,PySem.W.mg_none_of X G z8,PySem.W.mg_none_of X G z9,PySem.W.mg_none_of X G z10,PySem.W.mg_none_of X G z11⟩
  have XT:WTxt K C:=⟨⟨pg,hd,po,sa⟩,nf0,nf1,nf2⟩
  have e_TableError:ECls K mg "TableError" c_TableError:=⟨PySem.W.mg_of X G ax_TableError,qx_TableError,⟨k1_TableError,ga_TableError,gn_TableError,mb_TableError,k3_TableError,kn,kt,k6_TableError⟩⟩
  have e_BadTable:ECls K mg "BadTable" c_BadTable:=⟨PySem.W.mg_of X G ax_BadTable,qx_BadTable,⟨k1_BadTable,ga_BadTable,gn_BadTable,mb_BadTable,k3_BadTable,kn,kt,k6_BadTable⟩⟩
  have e_BadChange:ECls K mg "BadChange" c_BadChange:=⟨PySem.W.mg_of X G ax_BadChange,qx_BadChange,⟨k1_BadChange,ga_BadChange,gn_BadChange,mb_BadChange,k3_BadChange,kn,kt,k6_BadChange⟩⟩
  have e_NoRoad:ECls K mg "NoRoad" c_NoRoad:=⟨PySem.W.mg_of X G ax_NoRoad,qx_NoRoad,⟨k1_NoRoad,ga_NoRoad,gn_NoRoad,mb_NoRoad,k3_NoRoad,kn,kt,k6_NoRoad⟩⟩
  have e_BadRow:ECls K mg "BadRow" c_BadRow:=⟨PySem.W.mg_of X G ax_BadRow,qx_BadRow,⟨k1_BadRow,ga_BadRow,gn_BadRow,mb_BadRow,k3_BadRow,kn,kt,k6_BadRow⟩⟩
  have e_BadNumber:ECls K mg "BadNumber" c_BadNumber:=⟨PySem.W.mg_of X G ax_BadNumber,qx_BadNumber,⟨k1_BadNumber,ga_BadNumber,gn_BadNumber,mb_BadNumber,k3_BadNumber,kn,kt,k6_BadNumber⟩⟩
  have e_NoLine:ECls K mg "NoLine" c_NoLine:=⟨PySem.W.mg_of X G ax_NoLine,qx_NoLine,⟨k1_NoLine,ga_NoLine,gn_NoLine,mb_NoLine,k3_NoLine,kn,kt,k6_NoLine⟩⟩
  have ERt:ErrK K c_BadTable c_TableError c_BadTable c_BadChange c_NoRoad c_BadRow c_BadNumber c_NoLine .t:=⟨ERt0,ERt1,ERt2,ERt3,ERt4,ERt5,ERt6,ERt7,ERt8,ERt9,ERt10,ERt11⟩
  have ERc:ErrK K c_BadChange c_TableError c_BadTable c_BadChange c_NoRoad c_BadRow c_BadNumber c_NoLine .c:=⟨ERc0,ERc1,ERc2,ERc3,ERc4,ERc5,ERc6,ERc7,ERc8,ERc9,ERc10,ERc11⟩
  have ERr:ErrK K c_BadRow c_TableError c_BadTable c_BadChange c_NoRoad c_BadRow c_BadNumber c_NoLine .r:=⟨ERr0,ERr1,ERr2,ERr3,ERr4,ERr5,ERr6,ERr7,ERr8,ERr9,ERr10,ERr11⟩
  have ERn:ErrK K c_BadNumber c_TableError c_BadTable c_BadChange c_NoRoad c_BadRow c_BadNumber c_NoLine .n:=⟨ERn0,ERn1,ERn2,ERn3,ERn4,ERn5,ERn6,ERn7,ERn8,ERn9,ERn10,ERn11⟩
  have D_q05:=d0.d X G ["parts","one","two"] fun _ _ _ _ _ _ us hl=>by obtain ⟨_,_,_,rfl⟩:=lenL3 hl;rfl
  have D_q00:=d1.d X G ["table"] fun _ _ _ _ _ _ us hl=>by obtain ⟨_,rfl⟩:=lenL1 hl;rfl
  have D_q01:=d2.d X G ["table"] fun _ _ _ _ _ _ us hl=>by obtain ⟨_,rfl⟩:=lenL1 hl;rfl
  have D_q03:=d3.d X G ["rows","change"] fun _ _ _ _ _ _ us hl=>by obtain ⟨_,_,rfl⟩:=lenL2 hl;rfl
  have D_q0f:=d4.d X G ["rows","place"] fun _ _ _ _ _ _ us hl=>by obtain ⟨_,_,rfl⟩:=lenL2 hl;rfl
  have D_q18:=d5.i X G mk kc aC ["self","table"] fun _ _ _ _ _ _ us hl=>by obtain ⟨_,_,rfl⟩:=lenL2 hl;rfl
  have D_q19:=d6.d ["self"] fun _ _ _ _ _ _ us hl=>by obtain ⟨_,rfl⟩:=lenL1 hl;rfl
  have D_q1a:=d7.d ["self","change"] fun _ _ _ _ _ _ us hl=>by obtain ⟨_,_,rfl⟩:=lenL2 hl;rfl
  have D_q1b:=d8.d ["self","one","two","many"] fun _ _ _ _ _ _ us hl=>by obtain ⟨_,_,_,_,rfl⟩:=lenL4 hl;rfl
  have D_q1c:=d9.d ["self","one","two"] fun _ _ _ _ _ _ us hl=>by obtain ⟨_,_,_,rfl⟩:=lenL3 hl;rfl
  have D_q1d:=d10.d ["self","one"] fun _ _ _ _ _ _ us hl=>by obtain ⟨_,_,rfl⟩:=lenL2 hl;rfl
  have D_q1e:=d11.d ["self","one","two","place"] fun _ _ _ _ _ _ us hl=>by obtain ⟨_,_,_,_,rfl⟩:=lenL4 hl;rfl
  have D_q1f:=d12.d ["self","top","low","place"] fun _ _ _ _ _ _ us hl=>by obtain ⟨_,_,_,_,rfl⟩:=lenL4 hl;rfl
  have D_q0a:=d13.d X G ["row"] fun _ _ _ _ _ _ us hl=>by obtain ⟨_,rfl⟩:=lenL1 hl;rfl
  have D_q0d:=d14.d X G ["walk","steps","row","start"] fun _ _ _ _ _ _ us hl=>by obtain ⟨_,_,_,_,rfl⟩:=lenL4 hl;rfl
  have D_q0e:=d15.d X G ["walk","low","top","height"] fun _ _ _ _ _ _ us hl=>by obtain ⟨_,_,_,_,rfl⟩:=lenL4 hl;rfl
  have D_q0c:=d16.d X G ["walk","steps","low"] fun _ _ _ _ _ _ us hl=>by obtain ⟨_,_,_,rfl⟩:=lenL3 hl;rfl
  have D_q0b:=d17.d X G ["walk"] fun _ _ _ _ _ _ us hl=>by obtain ⟨_,rfl⟩:=lenL1 hl;rfl
  have D_q0j:=d18.d X G ["walk"] fun _ _ _ _ _ _ us hl=>by obtain ⟨_,rfl⟩:=lenL1 hl;rfl
  have D_q0k:=d19.d X G ["rows"] fun _ _ _ _ _ _ us hl=>by obtain ⟨_,rfl⟩:=lenL1 hl;rfl
  have D_q0i:=d20.d X G ["rows"] fun _ _ _ _ _ _ us hl=>by obtain ⟨_,rfl⟩:=lenL1 hl;rfl
  have D_q0m:=d21.d X G ["walk","one","two"] fun _ _ _ _ _ _ us hl=>by obtain ⟨_,_,_,rfl⟩:=lenL3 hl;rfl
  have D_q0l:=d22.d X G ["walk"] fun _ _ _ _ _ _ us hl=>by obtain ⟨_,rfl⟩:=lenL1 hl;rfl
  have D_q0n:=d23.d X G ["walk"] fun _ _ _ _ _ _ us hl=>by obtain ⟨_,rfl⟩:=lenL1 hl;rfl
  have D_q0g:=d24.d X G ["table"] fun _ _ _ _ _ _ us hl=>by obtain ⟨_,rfl⟩:=lenL1 hl;rfl
  have D_q0h:=d25.d X G ["table"] fun _ _ _ _ _ _ us hl=>by obtain ⟨_,rfl⟩:=lenL1 hl;rfl
  have D_q08:=d26.d X G ["change"] fun _ _ _ _ _ _ us hl=>by obtain ⟨_,rfl⟩:=lenL1 hl;rfl
  have D_q09:=d27.d X G ["changes"] fun _ _ _ _ _ _ us hl=>by obtain ⟨_,rfl⟩:=lenL1 hl;rfl
  have D_q0o:=d28.d X G ["one","two"] fun _ _ _ _ _ _ us hl=>by obtain ⟨_,_,rfl⟩:=lenL2 hl;rfl
  have D_q0p:=d29.d X G ["one","two"] fun _ _ _ _ _ _ us hl=>by obtain ⟨_,_,rfl⟩:=lenL2 hl;rfl
  have D_q0w:=d30.d X G ["numbers"] fun _ _ _ _ _ _ us hl=>by obtain ⟨_,rfl⟩:=lenL1 hl;rfl
  have D_q0x:=d31.d X G ["one","two"] fun _ _ _ _ _ _ us hl=>by obtain ⟨_,_,rfl⟩:=lenL2 hl;rfl
  have D_q0v:=d32.d X G ["table","number"] fun _ _ _ _ _ _ us hl=>by obtain ⟨_,_,rfl⟩:=lenL2 hl;rfl
  have D_q0u:=d33.d X G ["table"] fun _ _ _ _ _ _ us hl=>by obtain ⟨_,rfl⟩:=lenL1 hl;rfl
  have D_q0s:=d34.d X G ["total","place"] fun _ _ _ _ _ _ us hl=>by obtain ⟨_,_,rfl⟩:=lenL2 hl;rfl
  have D_q0r:=d35.d X G ["table"] fun _ _ _ _ _ _ us hl=>by obtain ⟨_,rfl⟩:=lenL1 hl;rfl
  have D_q0t:=d36.d X G ["table","row"] fun _ _ _ _ _ _ us hl=>by obtain ⟨_,_,rfl⟩:=lenL2 hl;rfl
  have D_q0q:=d37.d X G ["table","row"] fun _ _ _ _ _ _ us hl=>by obtain ⟨_,_,rfl⟩:=lenL2 hl;rfl
  have D_q02:=d38.d X G ["rows","change"] fun _ _ _ _ _ _ us hl=>by obtain ⟨_,_,rfl⟩:=lenL2 hl;rfl
  have D_q04:=d39.d X G ["rows","change"] fun _ _ _ _ _ _ us hl=>by obtain ⟨_,_,rfl⟩:=lenL2 hl;rfl
  have D_q07:=d40.d X G ["table","changes"] fun _ _ _ _ _ _ us hl=>by obtain ⟨_,_,rfl⟩:=lenL2 hl;rfl
  have D_q06:=d41.d X G ["table","change"] fun _ _ _ _ _ _ us hl=>by obtain ⟨_,_,rfl⟩:=lenL2 hl;rfl
  have D_q0y:=d42.d X G ["_law_script","_law_k"] fun _ _ _ _ _ _ us hl=>by obtain ⟨_,_,rfl⟩:=lenL2 hl;rfl
  have D_q0z:=d43.d X G ["_law_table"] fun _ _ _ _ _ _ us hl=>by obtain ⟨_,rfl⟩:=lenL1 hl;rfl
  have D_q10:=d44.d X G ["_law_script","_law_first","_law_high","_law_wide"] fun _ _ _ _ _ _ us hl=>by obtain ⟨_,_,_,_,rfl⟩:=lenL4 hl;rfl
  have D_q13:=d45.d X G ["_law_table","_law_way"] fun _ _ _ _ _ _ us hl=>by obtain ⟨_,_,rfl⟩:=lenL2 hl;rfl
  have D_q14:=d46.d X G ["_law_script","_law_high","_law_wide"] fun _ _ _ _ _ _ us hl=>by obtain ⟨_,_,_,rfl⟩:=lenL3 hl;rfl
  have D_q11:=d47.d X G ["_law_which","_law_table","_law_change","_law_row","_law_number"] fun _ _ _ _ _ _ us hl=>by obtain ⟨_,_,_,_,_,rfl⟩:=lenL5 hl;rfl
  have D_q12:=d48.d X G ["_law_which","_law_table","_law_change","_law_row","_law_number"] fun _ _ _ _ _ _ us hl=>by obtain ⟨_,_,_,_,_,rfl⟩:=lenL5 hl;rfl
  have D_q15:=d49.d X G ["_law_which","_law_table","_law_change","_law_row","_law_number"] fun _ _ _ _ _ _ us hl=>by obtain ⟨_,_,_,_,_,rfl⟩:=lenL5 hl;rfl
  have D_q16:=d50.d X G ["_law_due","_law_which","_law_table","_law_change","_law_row","_law_number"] fun _ _ _ _ _ _ us hl=>by obtain ⟨_,_,_,_,_,_,rfl⟩:=lenL6 hl;rfl
  have D_q17:DefAt K mg "law" s_q17 ["_law_script"]:=def_mk X G a51 l51 c51 k51 fun _ _ _ _ _ _ us hl=>by obtain ⟨_,rfl⟩:=lenL1 hl;rfl
  refine ⟨PySem.W.fnOf "law" "law" (defArgs s_q17) (defBody s_q17) (defScope s_q17) .none kV51 dc51 pm51 an51 cd51 ct51,fun s v=>.of_eq rfl,fun base _ _ hse=>?_⟩
  have C_q05:=ok_q05 (P:=l.prog) (w:=w) (base:=base) D_q05 T
  have C_q00:=ok_q00 (P:=l.prog) (w:=w) (base:=base) D_q00 T
  have C_q01:=ok_q01 (P:=l.prog) (w:=w) (base:=base) D_q01 T
  have C_q03:=ok_q03 (P:=l.prog) (w:=w) (base:=base) (B:=1048576) (by decide) D_q03 T C_q05
  have C_q0f:=ok_q0f (P:=l.prog) (w:=w) (base:=base) D_q0f T
  have MK_Walk:=ok_q1n (P:=l.prog) (w:=w) (base:=base) D_q18 T XT C_q01
  have M_q1m:=ok_q19 (P:=l.prog) (w:=w) (base:=base) D_q19 T XT C_q0f
  have M_q1g:=ok_q1a (P:=l.prog) (w:=w) (base:=base) D_q1a T XT C_q03
  have M_q1h:=ok_q1b (P:=l.prog) (w:=w) (base:=base) D_q1b T XT M_q1g
  have M_q1i:=ok_q1c (P:=l.prog) (w:=w) (base:=base) D_q1c T XT M_q1g
  have M_q1j:=ok_q1d (P:=l.prog) (w:=w) (base:=base) D_q1d T XT M_q1g
  have M_q1k:=ok_q1e (P:=l.prog) (w:=w) (base:=base) (by decide) (by decide) hse htr D_q1e T XT M_q1h
  have M_q1l:=ok_q1f (P:=l.prog) (w:=w) (base:=base) D_q1f T XT M_q1k M_q1i
  have C_q0a:=ok_q0a (P:=l.prog) (w:=w) (base:=base) D_q0a T
  have C_q0d:=ok_q0d (P:=l.prog) (w:=w) (base:=base) D_q0d T XT M_q1k
  have C_q0e:=ok_q0e (P:=l.prog) (w:=w) (base:=base) D_q0e T XT M_q1i
  have C_q0c:=ok_q0c (P:=l.prog) (w:=w) (base:=base) D_q0c T XT C_q0a M_q1l C_q0d C_q0e
  have C_q0b:=ok_q0b (P:=l.prog) (w:=w) (base:=base) D_q0b T XT C_q0c C_q0d
  have C_q0j:=ok_q0j (P:=l.prog) (w:=w) (base:=base) D_q0j T XT C_q0b M_q1m
  have C_q0k:=ok_q0k (P:=l.prog) (w:=w) (base:=base) D_q0k T
  have C_q0i:=ok_q0i (P:=l.prog) (w:=w) (base:=base) D_q0i T
  have C_q0m:=ok_q0m (P:=l.prog) (w:=w) (base:=base) D_q0m T XT M_q1h M_q1m M_q1l M_q1k
  have C_q0l:=ok_q0l (P:=l.prog) (w:=w) (base:=base) D_q0l T XT C_q0i C_q0m
  have C_q0n:=ok_q0n (P:=l.prog) (w:=w) (base:=base) D_q0n T XT C_q0i M_q1j
  have C_q0g:=ok_q0g (P:=l.prog) (w:=w) (base:=base) D_q0g T XT C_q00 MK_Walk C_q0j C_q0k C_q0l C_q0n
  have C_q0h:=ok_q0h (P:=l.prog) (w:=w) (base:=base) D_q0h T C_q0g C_q0i
  have C_q08:=ok_q08 (P:=l.prog) (w:=w) (base:=base) D_q08 T
  have C_q09:=ok_q09 (P:=l.prog) (w:=w) (base:=base) D_q09 T C_q08
  have C_q0o:=ok_q0o (P:=l.prog) (w:=w) (base:=base) D_q0o T C_q0g
  have C_q0p:=ok_q0p (P:=l.prog) (w:=w) (base:=base) D_q0p T C_q0g C_q09
  have C_q0w:=ok_q0w (P:=l.prog) (w:=w) (base:=base) D_q0w T
  have C_q0x:=ok_q0x (P:=l.prog) (w:=w) (base:=base) D_q0x T
  have C_q0v:=ok_q0v (P:=l.prog) (w:=w) (base:=base) hse htr D_q0v T C_q00 C_q0h C_q0w C_q0x
  have C_q0u:=ok_q0u (P:=l.prog) (w:=w) (base:=base) D_q0u T C_q0h C_q0w
  have C_q0s:=ok_q0s (P:=l.prog) (w:=w) (base:=base) D_q0s T
  have C_q0r:=ok_q0r (P:=l.prog) (w:=w) (base:=base) D_q0r T C_q0s
  have C_q0t:=ok_q0t (P:=l.prog) (w:=w) (base:=base) hse htr D_q0t T XT MK_Walk C_q0b
  have C_q0q:=ok_q0q (P:=l.prog) (w:=w) (base:=base) D_q0q T C_q00 C_q0t C_q0r C_q0a
  have CX_q00:=bad_q00 (P:=l.prog) (w:=w) (base:=base) D_q00 T e_BadTable C_q00
  have C_q02:=ok_q02 (P:=l.prog) (w:=w) (base:=base) D_q02 T e_BadChange
  have C_q04:=ok_q04 (P:=l.prog) (w:=w) (base:=base) D_q04 T C_q05
  have C_q07:=ok_q07 (P:=l.prog) (w:=w) (base:=base) D_q07 T CX_q00 C_q01 C_q02 C_q03 C_q04
  have C_q06:=ok_q06 (P:=l.prog) (w:=w) (base:=base) D_q06 T C_q07
  have CX_q0g:=bad_q0g (P:=l.prog) (w:=w) (base:=base) D_q0g T C_q0g CX_q00
  have CX_q0h:=bad_q0h (P:=l.prog) (w:=w) (base:=base) D_q0h T C_q0h CX_q0g
  have CX_q0u:=bad_q0u (P:=l.prog) (w:=w) (base:=base) D_q0u T C_q0u CX_q0h
  have CX_q0o:=bad_q0o (P:=l.prog) (w:=w) (base:=base) D_q0o T C_q0o CX_q0g
  have CX_q0p:=bad_q0p (P:=l.prog) (w:=w) (base:=base) D_q0p T C_q0p CX_q0g
  have CX_q0q:=bad_q0q (P:=l.prog) (w:=w) (base:=base) D_q0q T e_BadRow C_q0q CX_q00
  have CX_q0v:=bad_q0v (P:=l.prog) (w:=w) (base:=base) D_q0v T e_BadNumber C_q0v CX_q00
  have C_q0y:=ok_q0y (P:=l.prog) (w:=w) (base:=base) D_q0y T
  have C_q0z:=ok_q0z (P:=l.prog) (w:=w) (base:=base) D_q0z T
  have C_q10:=ok_q10 (P:=l.prog) (w:=w) (base:=base) D_q10 T C_q0y
  have C_q13:=ok_q13 (P:=l.prog) (w:=w) (base:=base) D_q13 T C_q0z
  have C_q14:=ok_q14 (P:=l.prog) (w:=w) (base:=base) D_q14 T C_q0y
  have C_q11:=ok_q11 (P:=l.prog) (w:=w) (base:=base) D_q11 T C_q06 C_q07 CX_q0g CX_q0h CX_q0o CX_q0p CX_q0q CX_q0u CX_q0v
  have C_q12:=ok_q12 (P:=l.prog) (w:=w) (base:=base) D_q12 T e_BadTable e_BadChange e_BadRow e_BadNumber (fun k=>match k with | .t=>ERt | .c=>ERc | .r=>ERr | .n=>ERn) C_q11
  have C_q15:=ok_q15 (P:=l.prog) (w:=w) (base:=base) D_q15 T (PySem.W.mg_none_of X G zve) e_TableError e_BadTable e_BadChange e_NoRoad e_BadRow e_BadNumber e_NoLine (fun k=>match k with | .t=>ERt | .c=>ERc | .r=>ERr | .n=>ERn) C_q11
  have C_q16:=ok_q16 (P:=l.prog) (w:=w) (base:=base) D_q16 T C_q15 C_q12
  have C_q17:=ok_q17 (P:=l.prog) (w:=w) (base:=base) D_q17 T C_q0y C_q10 C_q13 C_q14 C_q16
  obtain ⟨f',fd',F',hm',_,_,oc',od',sl',lk'⟩:=C_q17.ex
  rw [hfa] at hm'
  cases hm'
  rw [l51] at lk'
  cases lk'
  exact F'
theorem walk {l:PySem.W.OpenLaw} {q:Program} {loose:List Str} {XP:(Str→Option Value)→Heap→Prop} {YP:World→Heap→Prop} {d:DefRec} {K:Params→PySem.W.Frag} (hn:l.most=some 63) (hdf:d.params.defaults=[]) (hin:PyProof.Rows.importsNone q=true)
    (hY:∀(w:World) (h:Heap),YP w h→(K w.params).In h)
    (F:∀(w:World) (mg:Str→Option Value) (fa:Addr) (h:Heap),(K w.params).In h→h.Ns mainGlobals mg→mg d.name=some (.ref fa) →
      ∃fd:FuncData,(∀(s:Shared) (u:Value),BindsTo s fd ⟨[u],[]⟩ [("_law_script",u)])∧∀base:Heap,(K w.params).In base→base.Ns mainGlobals mg→base.NoSeer→FnOk l.prog w (K w.params) mg base CX0 52 fa fd ["_law_script"] (spLaw (K w.params))) :
    PySem.W.WalkO q loose XP YP l.row.toRowW d [] (fun f vs=>PySem.call f vs) :=
  L2.walk_ofS (n:=63) (k:=52) (x := "_law_script") (CX:=fun _=>CX0) (sp:=fun w=>spLaw (K w.params)) hn (by decide) hdf ⟨rfl,by decide,by decide⟩ hin hY F (fun _ _ a ns hl _ hS=>⟨a,ns,rfl,hS,hl,fun _=>rfl⟩) fun _ _ _ _ _ z=>z
end X1
open PySem PySem.W PyProof.Rows
set_option maxRecDepth 100000 in
set_option maxHeartbeats 0 in
theorem PySem.Challenge.cw_crosstable_k09_refused_holds : PySem.Challenge.rw_crosstable_k09_refused.Holds := by
  w_on
  refine holds_law X1.saidL fun said=>?_
  refine holds_open (r:=PySem.Challenge.rw_crosstable_k09_refused.row) (q:=X1.qv) (loose:=[]) (Xt:=X1.XtL) (XP:=XL X1.qv []) (Yf:=Hook.obs X1.HK) (Ya:=Hook.val X1.HK) (YP:=Hook.says X1.HK) (d:=X1.lawRec) (kwd:=[]) (N:=X1.NL) X1.leftL (Hook.of X1.HK) (Hook.keeps X1.HK) (fun s e=>xl_of s (Bool.and_eq_true_iff.mp e).1) XL.keeps (by kernel_rfl) (by kernel_rfl) (by kernel_rfl) (fun s e=>recFacts_of (Bool.and_eq_true_iff.mp e).2) (by kernel_rfl) said (by decide +kernel) X1.bareL ?hw ?hc
  case hw=>w_witness2
  refine X1.walk (l:=PySem.Challenge.rw_crosstable_k09_refused) rfl (by kernel_rfl) (by decide +kernel) (fun w h Y=>PySem.W.kIn_of Y) ?F
  case F =>
    intro w mg fa h KX G hmg
    refine X1.all_mk (C:=267)
      (c_TableError:=24)
      (c_BadTable:=37)
      (c_BadChange:=49)
      (c_NoRoad:=61)
      (c_BadRow:=73)
      (c_BadNumber:=85)
      (c_NoLine:=97)
      (f51:=449) (od51:=none) (an51:=none) (sl51:=#[]) (oc51:=(.type "function")) (kV51:=.none) (dc51:=.none) (pm51:=(.str (Str.ofString "law_crosstable_k09_refused") 690)) (cd51:=(.ref 448)) (ct51:=.none) rfl KX G hmg (by kernel_rfl) ⟨137,by kernel_rfl,(.type "function"),none,none,#[],.none,.none,(.str (Str.ofString "crosstable.tables") 303),(.ref 136),.none,by kernel_rfl,by kernel_rfl,by kernel_rfl⟩ ⟨106,by kernel_rfl,(.type "function"),none,none,#[],.none,.none,(.str (Str.ofString "crosstable.tables") 303),(.ref 105),.none,by kernel_rfl,by kernel_rfl,by kernel_rfl⟩ ⟨111,by kernel_rfl,(.type "function"),none,none,#[],.none,.none,(.str (Str.ofString "crosstable.tables") 303),(.ref 110),.none,by kernel_rfl,by kernel_rfl,by kernel_rfl⟩ ⟨123,by kernel_rfl,(.type "function"),none,none,#[],.none,.none,(.str (Str.ofString "crosstable.tables") 303),(.ref 122),.none,by kernel_rfl,by kernel_rfl,by kernel_rfl⟩ ⟨203,by kernel_rfl,(.type "function"),none,none,#[],.none,.none,(.str (Str.ofString "crosstable.walk") 442),(.ref 202),.none,by kernel_rfl,by kernel_rfl,by kernel_rfl⟩ ⟨217,by kernel_rfl,by kernel_rfl,(.type "function"),none,none,#[],.none,.none,(.str (Str.ofString "crosstable.walk") 442),(.ref 216),.none,by kernel_rfl,by kernel_rfl,by kernel_rfl⟩ ⟨222,by kernel_rfl,by kernel_rfl,(.type "function"),none,none,#[],.none,.none,(.str (Str.ofString "crosstable.walk") 442),(.ref 221),.none,by kernel_rfl,by kernel_rfl,by kernel_rfl⟩ ⟨229,by kernel_rfl,by kernel_rfl,(.type "function"),none,none,#[],.none,.none,(.str (Str.ofString "crosstable.walk") 442),(.ref 228),.none,by kernel_rfl,by kernel_rfl,by kernel_rfl⟩ ⟨236,by kernel_rfl,by kernel_rfl,(.type "function"),none,none,#[],.none,.none,(.str (Str.ofString "crosstable.walk") 442),(.ref 235),.none,by kernel_rfl,by kernel_rfl,by kernel_rfl⟩ ⟨243,by kernel_rfl,by kernel_rfl,(.type "function"),none,none,#[],.none,.none,(.str (Str.ofString "crosstable.walk") 442),(.ref 242),.none,by kernel_rfl,by kernel_rfl,by kernel_rfl⟩ ⟨250,by kernel_rfl,by kernel_rfl,(.type "function"),none,none,#[],.none,.none,(.str (Str.ofString "crosstable.walk") 442),(.ref 249),.none,by kernel_rfl,by kernel_rfl,by kernel_rfl⟩ ⟨257,by kernel_rfl,by kernel_rfl,(.type "function"),none,none,#[],.none,.none,(.str (Str.ofString "crosstable.walk") 442),(.ref 256),.none,by kernel_rfl,by kernel_rfl,by kernel_rfl⟩ ⟨264,by kernel_rfl,by kernel_rfl,(.type "function"),none,none,#[],.none,.none,(.str (Str.ofString "crosstable.walk") 442),(.ref 263),.none,by kernel_rfl,by kernel_rfl,by kernel_rfl⟩ ⟨170,by kernel_rfl,(.type "function"),none,none,#[],.none,.none,(.str (Str.ofString "crosstable.stairs") 388),(.ref 169),.none,by kernel_rfl,by kernel_rfl,by kernel_rfl⟩ ⟨191,by kernel_rfl,(.type "function"),none,none,#[],.none,.none,(.str (Str.ofString "crosstable.stairs") 388),(.ref 190),.none,by kernel_rfl,by kernel_rfl,by kernel_rfl⟩ ⟨198,by kernel_rfl,(.type "function"),none,none,#[],.none,.none,(.str (Str.ofString "crosstable.stairs") 388),(.ref 197),.none,by kernel_rfl,by kernel_rfl,by kernel_rfl⟩ ⟨184,by kernel_rfl,(.type "function"),none,none,#[],.none,.none,(.str (Str.ofString "crosstable.stairs") 388),(.ref 183),.none,by kernel_rfl,by kernel_rfl,by kernel_rfl⟩ ⟨177,by kernel_rfl,(.type "function"),none,none,#[],.none,.none,(.str (Str.ofString "crosstable.stairs") 388),(.ref 176),.none,by kernel_rfl,by kernel_rfl,by kernel_rfl⟩ ⟨297,by kernel_rfl,(.type "function"),none,none,#[],.none,.none,(.str (Str.ofString "crosstable.diagonal") 544),(.ref 296),.none,by kernel_rfl,by kernel_rfl,by kernel_rfl⟩ ⟨304,by kernel_rfl,(.type "function"),none,none,#[],.none,.none,(.str (Str.ofString "crosstable.diagonal") 544),(.ref 303),.none,by kernel_rfl,by kernel_rfl,by kernel_rfl⟩ ⟨290,by kernel_rfl,(.type "function"),none,none,#[],.none,.none,(.str (Str.ofString "crosstable.diagonal") 544),(.ref 289),.none,by kernel_rfl,by kernel_rfl,by kernel_rfl⟩ ⟨318,by kernel_rfl,(.type "function"),none,none,#[],.none,.none,(.str (Str.ofString "crosstable.diagonal") 544),(.ref 317),.none,by kernel_rfl,by kernel_rfl,by kernel_rfl⟩ ⟨311,by kernel_rfl,(.type "function"),none,none,#[],.none,.none,(.str (Str.ofString "crosstable.diagonal") 544),(.ref 310),.none,by kernel_rfl,by kernel_rfl,by kernel_rfl⟩ ⟨325,by kernel_rfl,(.type "function"),none,none,#[],.none,.none,(.str (Str.ofString "crosstable.diagonal") 544),(.ref 324),.none,by kernel_rfl,by kernel_rfl,by kernel_rfl⟩ ⟨278,by kernel_rfl,(.type "function"),none,none,#[],.none,.none,(.str (Str.ofString "crosstable.diagonal") 544),(.ref 277),.none,by kernel_rfl,by kernel_rfl,by kernel_rfl⟩ ⟨283,by kernel_rfl,(.type "function"),none,none,#[],.none,.none,(.str (Str.ofString "crosstable.diagonal") 544),(.ref 282),.none,by kernel_rfl,by kernel_rfl,by kernel_rfl⟩ ⟨158,by kernel_rfl,(.type "function"),none,none,#[],.none,.none,(.str (Str.ofString "crosstable.tables") 303),(.ref 157),.none,by kernel_rfl,by kernel_rfl,by kernel_rfl⟩ ⟨163,by kernel_rfl,(.type "function"),none,none,#[],.none,.none,(.str (Str.ofString "crosstable.tables") 303),(.ref 162),.none,by kernel_rfl,by kernel_rfl,by kernel_rfl⟩ ⟨332,by kernel_rfl,(.type "function"),none,none,#[],.none,.none,(.str (Str.ofString "crosstable.kin") 612),(.ref 331),.none,by kernel_rfl,by kernel_rfl,by kernel_rfl⟩ ⟨339,by kernel_rfl,(.type "function"),none,none,#[],.none,.none,(.str (Str.ofString "crosstable.kin") 612),(.ref 338),.none,by kernel_rfl,by kernel_rfl,by kernel_rfl⟩ ⟨378,by kernel_rfl,(.type "function"),none,none,#[],.none,.none,(.str (Str.ofString "crosstable.sums") 632),(.ref 377),.none,by kernel_rfl,by kernel_rfl,by kernel_rfl⟩ ⟨385,by kernel_rfl,(.type "function"),none,none,#[],.none,.none,(.str (Str.ofString "crosstable.sums") 632),(.ref 384),.none,by kernel_rfl,by kernel_rfl,by kernel_rfl⟩ ⟨371,by kernel_rfl,(.type "function"),none,none,#[],.none,.none,(.str (Str.ofString "crosstable.sums") 632),(.ref 370),.none,by kernel_rfl,by kernel_rfl,by kernel_rfl⟩ ⟨366,by kernel_rfl,(.type "function"),none,none,#[],.none,.none,(.str (Str.ofString "crosstable.sums") 632),(.ref 365),.none,by kernel_rfl,by kernel_rfl,by kernel_rfl⟩ ⟨354,by kernel_rfl,(.type "function"),none,none,#[],.none,.none,(.str (Str.ofString "crosstable.sums") 632),(.ref 353),.none,by kernel_rfl,by kernel_rfl,by kernel_rfl⟩ ⟨349,by kernel_rfl,(.type "function"),none,none,#[],.none,.none,(.str (Str.ofString "crosstable.sums") 632),(.ref 348),.none,by kernel_rfl,by kernel_rfl,by kernel_rfl⟩ ⟨359,by kernel_rfl,(.type "function"),none,none,#[],.none,.none,(.str (Str.ofString "crosstable.sums") 632),(.ref 358),.none,by kernel_rfl,by kernel_rfl,by kernel_rfl⟩ ⟨344,by kernel_rfl,(.type "function"),none,none,#[],.none,.none,(.str (Str.ofString "crosstable.sums") 632),(.ref 343),.none,by kernel_rfl,by kernel_rfl,by kernel_rfl⟩ ⟨118,by kernel_rfl,(.type "function"),none,none,#[],.none,.none,(.str (Str.ofString "crosstable.tables") 303),(.ref 117),.none,by kernel_rfl,by kernel_rfl,by kernel_rfl⟩ ⟨130,by kernel_rfl,(.type "function"),none,none,#[],.none,.none,(.str (Str.ofString "crosstable.tables") 303),(.ref 129),.none,by kernel_rfl,by kernel_rfl,by kernel_rfl⟩ ⟨151,by kernel_rfl,(.type "function"),none,none,#[],.none,.none,(.str (Str.ofString "crosstable.tables") 303),(.ref 150),.none,by kernel_rfl,by kernel_rfl,by kernel_rfl⟩ ⟨144,by kernel_rfl,(.type "function"),none,none,#[],.none,.none,(.str (Str.ofString "crosstable.tables") 303),(.ref 143),.none,by kernel_rfl,by kernel_rfl,by kernel_rfl⟩ ⟨392,by kernel_rfl,(.type "function"),none,none,#[],.none,.none,(.str (Str.ofString "law_crosstable_k09_refused") 690),(.ref 391),.none,by kernel_rfl,by kernel_rfl,by kernel_rfl⟩ ⟨397,by kernel_rfl,(.type "function"),none,none,#[],.none,.none,(.str (Str.ofString "law_crosstable_k09_refused") 690),(.ref 396),.none,by kernel_rfl,by kernel_rfl,by kernel_rfl⟩ ⟨404,by kernel_rfl,(.type "function"),none,none,#[],.none,.none,(.str (Str.ofString "law_crosstable_k09_refused") 690),(.ref 403),.none,by kernel_rfl,by kernel_rfl,by kernel_rfl⟩ ⟨423,by kernel_rfl,(.type "function"),none,none,#[],.none,.none,(.str (Str.ofString "law_crosstable_k09_refused") 690),(.ref 422),.none,by kernel_rfl,by kernel_rfl,by kernel_rfl⟩ ⟨430,by kernel_rfl,(.type "function"),none,none,#[],.none,.none,(.str (Str.ofString "law_crosstable_k09_refused") 690),(.ref 429),.none,by kernel_rfl,by kernel_rfl,by kernel_rfl⟩ ⟨411,by kernel_rfl,(.type "function"),none,none,#[],.none,.none,(.str (Str.ofString "law_crosstable_k09_refused") 690),(.ref 410),.none,by kernel_rfl,by kernel_rfl,by kernel_rfl⟩ ⟨418,by kernel_rfl,(.type "function"),none,none,#[],.none,.none,(.str (Str.ofString "law_crosstable_k09_refused") 690),(.ref 417),.none,by kernel_rfl,by kernel_rfl,by kernel_rfl⟩ ⟨437,by kernel_rfl,(.type "function"),none,none,#[],.none,.none,(.str (Str.ofString "law_crosstable_k09_refused") 690),(.ref 436),.none,by kernel_rfl,by kernel_rfl,by kernel_rfl⟩ ⟨444,by kernel_rfl,(.type "function"),none,none,#[],.none,.none,(.str (Str.ofString "law_crosstable_k09_refused") 690),(.ref 443),.none,by kernel_rfl,by kernel_rfl,by kernel_rfl⟩ (by kernel_rfl) (by kernel_rfl) (by kernel_rfl) (by kernel_rfl) (by kernel_rfl) (by kernel_rfl) (by kernel_rfl) (by kernel_rfl) (by kernel_rfl) (by kernel_rfl) (by kernel_rfl) (by kernel_rfl) (by kernel_rfl) (by kernel_rfl) (by kernel_rfl) (by kernel_rfl) (by kernel_rfl) (by kernel_rfl) (by kernel_rfl) (by kernel_rfl) (by kernel_rfl) (by kernel_rfl) (by kernel_rfl) (by kernel_rfl) (by kernel_rfl) (by kernel_rfl) (by kernel_rfl) (by kernel_rfl) (by kernel_rfl) (by kernel_rfl) (by kernel_rfl) (by kernel_rfl) (by kernel_rfl) (by kernel_rfl) (by kernel_rfl) (by kernel_rfl) (by kernel_rfl) (by kernel_rfl) (by kernel_rfl) (by kernel_rfl) (by kernel_rfl) (by kernel_rfl) (by kernel_rfl) (by kernel_rfl) (by kernel_rfl) (by kernel_rfl) (by kernel_rfl) (by kernel_rfl) (by kernel_rfl) (by kernel_rfl) (by kernel_rfl) (by kernel_rfl) (by kernel_rfl) (by kernel_rfl) (by kernel_rfl) (by kernel_rfl) (by kernel_rfl) (by kernel_rfl) (by kernel_rfl) (by kernel_rfl) (by kernel_rfl) (by kernel_rfl) (by kernel_rfl) (by kernel_rfl) (by kernel_rfl) (by kernel_rfl) (by kernel_rfl) (by kernel_rfl) (by kernel_rfl) (by kernel_rfl) (by kernel_rfl) (by kernel_rfl) (by kernel_rfl) (by kernel_rfl) (by kernel_rfl) (by kernel_rfl) (by kernel_rfl) (by kernel_rfl) (by kernel_rfl) (by kernel_rfl) (by kernel_rfl) (by kernel_rfl) (by kernel_rfl) (by kernel_rfl) (by kernel_rfl) (by kernel_rfl) (by kernel_rfl) (by kernel_rfl) (by kernel_rfl) (by kernel_rfl) (by kernel_rfl) (by kernel_rfl) (by kernel_rfl) (by kernel_rfl) (by kernel_rfl) (by kernel_rfl) (by kernel_rfl) (by kernel_rfl) (by kernel_rfl) (by kernel_rfl) (by kernel_rfl) (by kernel_rfl) (by kernel_rfl) (by kernel_rfl) (by kernel_rfl) (by kernel_rfl) (by kernel_rfl) (by kernel_rfl) (by kernel_rfl) (by kernel_rfl) (by kernel_rfl) (by kernel_rfl) (by kernel_rfl) (by kernel_rfl) (by kernel_rfl) (by kernel_rfl) (by kernel_rfl) (by kernel_rfl) (by kernel_rfl) (by kernel_rfl) (by kernel_rfl) (by kernel_rfl) (by kernel_rfl) (by kernel_rfl) (by kernel_rfl) (by kernel_rfl) (by kernel_rfl) (by kernel_rfl) (by kernel_rfl) (by kernel_rfl) (by kernel_rfl) (by kernel_rfl)

