import PyProof.Rows.All
import Wide.All
import OpenK.Peek
import OpenK.KGet
import OpenK.KFacts
import OpenK.KDescr
import OpenK.KCall
import OpenK.KMake
import OpenK.KCls
import OpenK.KWalk
import OpenK.KMore
import OpenK.KLine
import OpenK.KRaise
import OpenK.KOwn
import KE.KTryMore
import KE.KFromBytes
import KE.KListMore
import KE.KEqSeq
import KE.KItem
import KE.KxBytes
import KE.KEqDeep
import KE.KIsAll
import KE.IntBitsLaws
import Wide.FinOn
import Lean
import PyProof.EqAt
import PyProof.EqKinds
import PyProof.TupleCall
import PyProof.CallType
import PyProof.AutoListH
import PyProof.EnumStmt
import PyProof.FactsAll.list
import PySem.Challenge.RW_crosstable_k08_changes_on_lines
import PyProof.NsDelKeeps
import PyProof.PassesOwn
import PyProof.StrCalls2
import PyProof.StrBlockH
import PyProof.StrWalks
import PyProof.SliceStr2
import PyProof.StrLawsChain
import PyProof.StrLawsTight
import PyProof.CollectWalk
import PyProof.JoinWalk
import KE.KIntText
import KE.KTab
import KE.KRevIter
set_option Elab.async false
set_option linter.all false
set_option maxRecDepth 100000
namespace L2
open PySem PySem.Spec PyProof.Rows
def defArgs (s : Stmt) : Arguments := match s with
  | .FunctionDef _ a _ _ _ _ _ _ _ _ => a
  | _ => { posonlyargs := [], args := [], vararg := none, kwonlyargs := [], kw_defaults := [], kwarg := none, defaults := [] }
def defBody (s : Stmt) : List Stmt := match s with
  | .FunctionDef _ _ b _ _ _ _ _ _ _ => b
  | _ => []
def defScope (s : Stmt) : Scope := match s with
  | .FunctionDef _ _ _ _ _ _ sc _ _ _ => sc
  | _ => { kind := .function, names := [], isGenerator := false, isCoroutine := false }
end L2
namespace X1
open PySem L2
def top (i : Nat) : Stmt := PySem.Challenge.pw_crosstable_k08_changes_on_lines.main.body.getD i (.Pass ⟨0, 0, 0, 0⟩)
abbrev s_q00 : Stmt := top 6
abbrev s_q01 : Stmt := top 7
abbrev s_q02 : Stmt := top 8
abbrev s_q03 : Stmt := top 9
abbrev s_q04 : Stmt := top 10
abbrev s_q05 : Stmt := top 11
abbrev s_q06 : Stmt := top 12
abbrev s_q07 : Stmt := top 14
abbrev s_q08 : Stmt := top 15
abbrev s_q09 : Stmt := top 16
abbrev s_q0a : Stmt := top 17
abbrev s_q0b : Stmt := top 18
abbrev s_q0c : Stmt := top 19
end X1
namespace X1
open PySem L2 PyProof.Rows
abbrev kE (P : Params) (k : String) (t : Nat) (v : Value) : DictEntry := ⟨PyData.keyHash P (Str.ofString k), .str (Str.ofString k) t, v⟩
def oF (n q : String) (st : Stmt) (p : String) (t : Nat) (c : Addr) : Obj := ⟨.type "function", none, .func (PySem.W.fnOf (Str.ofString n) (Str.ofString q) (defArgs st) (defBody st) (defScope st) .none .none .none (.str (Str.ofString p) t) none (.ref c) .none), #[]⟩
def oC (n : String) (a : Nat) (q : String) (b c : Nat) (i3 i4 i5 i6 i7 : Int) (r8 : Addr) (b9 : Bool) (i10 : Int) (r11 r13 r14 r15 : Addr) (i16 i17 : Int) (d : Nat) : Obj := ⟨.type "code", none, .fields #[.str (Str.ofString n) a, .str (Str.ofString q) b, .str (Str.ofString "/claim/cut.py") c, .int i3 0, .int i4 0, .int i5 0, .int i6 0, .int i7 0, .ref r8, .bool b9, .int i10 0, .ref r11, .none, .ref r13, .ref r14, .ref r15, .int i16 0, .int i17 0, .str (Str.ofString "/claim/cut.py") d], #[]⟩
abbrev oS (x : String) : Str := Str.ofString x
def KF : Params → PySem.W.Frag := fun P => [(nat_lit 3, (⟨(.type "dict"), none, .dict #[kE P "__name__" 165 (.str (oS "law_crosstable_k08_changes_on_lines") 293), kE P "__doc__" 166 .none, kE P "__package__" 167 .none, kE P "__loader__" 168 (.builtin "__main__.__loader__#opaque"), kE P "__spec__" 169 .none, kE P "__annotations__" 170 (.ref 6), kE P "__builtins__" 171 (.ref 4), kE P "__file__" 173 (.str (oS "/claim/cut.py") 172), kE P "__cached__" 174 .none, kE P "TableError" 206 (.ref 24), kE P "NoLine" 222 (.ref 37), kE P "HOW_MANY_PARTS" 234 (.ref 40), kE P "SIDES" 237 (.ref 41), kE P "shown" 243 (.ref 46), kE P "read" 249 (.ref 51), kE P "refuse_bad_places" 256 (.ref 58), kE P "written" 266 (.ref 65), kE P "number_of" 275 (.ref 72), kE P "are_figures" 281 (.ref 77), kE P "size_of" 292 (.ref 84), kE P "_law_whole" 301 (.ref 91), kE P "_law_change_of" 316 (.ref 98), kE P "_law_are_changes" 329 (.ref 105), kE P "_law_refused" 337 (.ref 112), kE P "_law_bad_line" 345 (.ref 119), kE P "law" 360 (.ref 126)] 26, #[]⟩ : Obj)),
  (nat_lit 23, (⟨(.type "dict"), none, .dict #[kE P "__module__" 196 (.str (oS "crosstable.errors") 187), kE P "__firstlineno__" 200 (.int (2) 199), kE P "__static_attributes__" 201 (.ref 22), kE P "__weakref__" 203 (.ref 25), kE P "__doc__" 204 .none] 3, #[]⟩ : Obj)),
  (nat_lit 24, ({ cls := Value.type "type", data := Data.cls { name := oS "TableError", bases := [Value.type "ValueError"], mro := [Value.ref 24, Value.type "ValueError", Value.type "Exception", Value.type "BaseException", Value.type "object"], ns := 23, qualname := oS "TableError", subclasses := [Value.ref 37] }, slots := #[Option.some (Value.ref 15), Option.none, Option.some (Value.str (oS "TableError") 189), Option.some (Value.str (oS "TableError") 197), Option.some (Value.builtin "ValueError.__new__"), Option.some (Value.bool Bool.true)] } : Obj)),
  (nat_lit 36, (⟨(.type "dict"), none, .dict #[kE P "__module__" 214 (.str (oS "crosstable.errors") 187), kE P "__firstlineno__" 218 (.int (4) 217), kE P "__static_attributes__" 219 (.ref 35), kE P "__doc__" 220 .none] 2, #[]⟩ : Obj)),
  (nat_lit 37, ({ cls := Value.type "type", data := Data.cls { name := oS "NoLine", bases := [Value.ref 24], mro := [Value.ref 37, Value.ref 24, Value.type "ValueError", Value.type "Exception", Value.type "BaseException", Value.type "object"], ns := 36, qualname := oS "NoLine" }, slots := #[Option.some (Value.ref 28), Option.none, Option.some (Value.str (oS "NoLine") 207), Option.some (Value.str (oS "NoLine") 215), Option.some (Value.builtin "ValueError.__new__"), Option.some (Value.bool Bool.true)] } : Obj)),
  (nat_lit 40, (⟨(.type "dict"), none, .dict #[kE P "add" 225 (.int (5) 226), kE P "swap" 227 (.int (4) 228), kE P "turn" 229 (.int (3) 230)] 3, #[]⟩ : Obj)),
  (nat_lit 41, (⟨(.type "tuple"), none, .seq #[(.str (oS "row") 235), (.str (oS "column") 236)] 0, #[]⟩ : Obj)),
  (nat_lit 45, (⟨(.type "code"), none, .fields #[(.str (oS "shown") 238), (.str (oS "shown") 239), (.str (oS "/claim/cut.py") 240), (.int (9) 0), (.int (1) 0), (.int (0) 0), (.int (0) 0), (.int (3) 0), (.ref 42), (.bool true), (.int (181) 0), (.ref 43), .none, .none, .none, (.ref 44), (.int (241) 0), (.int (9) 0), (.str (oS "/claim/cut.py") 242)], #[]⟩ : Obj)),
  (nat_lit 46, (oF "shown" "shown" s_q00 "crosstable.notes" 223 45 : Obj)),
  (nat_lit 50, (⟨(.type "code"), none, .fields #[(.str (oS "read") 244), (.str (oS "read") 245), (.str (oS "/claim/cut.py") 246), (.int (11) 0), (.int (1) 0), (.int (0) 0), (.int (0) 0), (.int (3) 0), (.ref 47), (.bool true), (.int (181) 0), (.ref 48), .none, .none, .none, (.ref 49), (.int (247) 0), (.int (11) 0), (.str (oS "/claim/cut.py") 248)], #[]⟩ : Obj)),
  (nat_lit 51, (oF "read" "read" s_q01 "crosstable.notes" 223 50 : Obj)),
  (nat_lit 57, (⟨(.type "code"), none, .fields #[(.str (oS "refuse_bad_places") 250), (.str (oS "refuse_bad_places") 251), (.str (oS "/claim/cut.py") 252), (.int (18) 0), (.int (1) 0), (.int (0) 0), (.int (0) 0), (.int (3) 0), (.ref 52), (.bool true), (.int (181) 0), (.ref 53), .none, (.ref 54), (.ref 55), (.ref 56), (.int (254) 0), (.int (18) 0), (.str (oS "/claim/cut.py") 255)], #[]⟩ : Obj)),
  (nat_lit 58, (oF "refuse_bad_places" "refuse_bad_places" s_q02 "crosstable.notes" 223 57 : Obj)),
  (nat_lit 64, (⟨(.type "code"), none, .fields #[(.str (oS "written") 257), (.str (oS "written") 258), (.str (oS "/claim/cut.py") 259), (.int (23) 0), (.int (1) 0), (.int (0) 0), (.int (0) 0), (.int (3) 0), (.ref 59), (.bool true), (.int (181) 0), (.ref 60), .none, (.ref 61), (.ref 62), (.ref 63), (.int (264) 0), (.int (23) 0), (.str (oS "/claim/cut.py") 265)], #[]⟩ : Obj)),
  (nat_lit 65, (oF "written" "written" s_q03 "crosstable.notes" 223 64 : Obj)),
  (nat_lit 71, (⟨(.type "code"), none, .fields #[(.str (oS "number_of") 267), (.str (oS "number_of") 268), (.str (oS "/claim/cut.py") 269), (.int (33) 0), (.int (1) 0), (.int (0) 0), (.int (0) 0), (.int (3) 0), (.ref 66), (.bool true), (.int (181) 0), (.ref 67), .none, (.ref 68), (.ref 69), (.ref 70), (.int (273) 0), (.int (33) 0), (.str (oS "/claim/cut.py") 274)], #[]⟩ : Obj)),
  (nat_lit 72, (oF "number_of" "number_of" s_q04 "crosstable.notes" 223 71 : Obj)),
  (nat_lit 76, (⟨(.type "code"), none, .fields #[(.str (oS "are_figures") 276), (.str (oS "are_figures") 277), (.str (oS "/claim/cut.py") 278), (.int (41) 0), (.int (1) 0), (.int (0) 0), (.int (0) 0), (.int (3) 0), (.ref 73), (.bool true), (.int (181) 0), (.ref 74), .none, .none, .none, (.ref 75), (.int (279) 0), (.int (41) 0), (.str (oS "/claim/cut.py") 280)], #[]⟩ : Obj)),
  (nat_lit 77, (oF "are_figures" "are_figures" s_q05 "crosstable.notes" 223 76 : Obj)),
  (nat_lit 83, (⟨(.type "code"), none, .fields #[(.str (oS "size_of") 282), (.str (oS "size_of") 283), (.str (oS "/claim/cut.py") 284), (.int (43) 0), (.int (1) 0), (.int (0) 0), (.int (0) 0), (.int (3) 0), (.ref 78), (.bool true), (.int (181) 0), (.ref 79), .none, (.ref 80), (.ref 81), (.ref 82), (.int (290) 0), (.int (43) 0), (.str (oS "/claim/cut.py") 291)], #[]⟩ : Obj)),
  (nat_lit 84, (oF "size_of" "size_of" s_q06 "crosstable.notes" 223 83 : Obj)),
  (nat_lit 90, (⟨(.type "code"), none, .fields #[(.str (oS "_law_whole") 295), (.str (oS "_law_whole") 296), (.str (oS "/claim/cut.py") 297), (.int (51) 0), (.int (1) 0), (.int (0) 0), (.int (0) 0), (.int (3) 0), (.ref 85), (.bool true), (.int (181) 0), (.ref 86), .none, (.ref 87), (.ref 88), (.ref 89), (.int (299) 0), (.int (51) 0), (.str (oS "/claim/cut.py") 300)], #[]⟩ : Obj)),
  (nat_lit 91, (oF "_law_whole" "_law_whole" s_q07 "law_crosstable_k08_changes_on_lines" 293 90 : Obj)),
  (nat_lit 97, (⟨(.type "code"), none, .fields #[(.str (oS "_law_change_of") 302), (.str (oS "_law_change_of") 303), (.str (oS "/claim/cut.py") 304), (.int (53) 0), (.int (4) 0), (.int (0) 0), (.int (0) 0), (.int (3) 0), (.ref 92), (.bool true), (.int (181) 0), (.ref 93), .none, (.ref 94), (.ref 95), (.ref 96), (.int (314) 0), (.int (53) 0), (.str (oS "/claim/cut.py") 315)], #[]⟩ : Obj)),
  (nat_lit 98, (oF "_law_change_of" "_law_change_of" s_q08 "law_crosstable_k08_changes_on_lines" 293 97 : Obj)),
  (nat_lit 104, (⟨(.type "code"), none, .fields #[(.str (oS "_law_are_changes") 317), (.str (oS "_law_are_changes") 318), (.str (oS "/claim/cut.py") 319), (.int (64) 0), (.int (3) 0), (.int (0) 0), (.int (0) 0), (.int (3) 0), (.ref 99), (.bool true), (.int (181) 0), (.ref 100), .none, (.ref 101), (.ref 102), (.ref 103), (.int (327) 0), (.int (64) 0), (.str (oS "/claim/cut.py") 328)], #[]⟩ : Obj)),
  (nat_lit 105, (oF "_law_are_changes" "_law_are_changes" s_q09 "law_crosstable_k08_changes_on_lines" 293 104 : Obj)),
  (nat_lit 111, (⟨(.type "code"), none, .fields #[(.str (oS "_law_refused") 330), (.str (oS "_law_refused") 331), (.str (oS "/claim/cut.py") 332), (.int (84) 0), (.int (1) 0), (.int (0) 0), (.int (0) 0), (.int (3) 0), (.ref 106), (.bool true), (.int (181) 0), (.ref 107), .none, (.ref 108), (.ref 109), (.ref 110), (.int (335) 0), (.int (84) 0), (.str (oS "/claim/cut.py") 336)], #[]⟩ : Obj)),
  (nat_lit 112, (oF "_law_refused" "_law_refused" s_q0a "law_crosstable_k08_changes_on_lines" 293 111 : Obj)),
  (nat_lit 118, (⟨(.type "code"), none, .fields #[(.str (oS "_law_bad_line") 338), (.str (oS "_law_bad_line") 339), (.str (oS "/claim/cut.py") 340), (.int (90) 0), (.int (1) 0), (.int (0) 0), (.int (0) 0), (.int (3) 0), (.ref 113), (.bool true), (.int (181) 0), (.ref 114), .none, (.ref 115), (.ref 116), (.ref 117), (.int (343) 0), (.int (90) 0), (.str (oS "/claim/cut.py") 344)], #[]⟩ : Obj)),
  (nat_lit 119, (oF "_law_bad_line" "_law_bad_line" s_q0b "law_crosstable_k08_changes_on_lines" 293 118 : Obj)),
  (nat_lit 125, (⟨(.type "code"), none, .fields #[(.str (oS "law") 346), (.str (oS "law") 347), (.str (oS "/claim/cut.py") 348), (.int (96) 0), (.int (1) 0), (.int (0) 0), (.int (0) 0), (.int (3) 0), (.ref 120), (.bool true), (.int (181) 0), (.ref 121), .none, (.ref 122), (.ref 123), (.ref 124), (.int (358) 0), (.int (96) 0), (.str (oS "/claim/cut.py") 359)], #[]⟩ : Obj)),
  (nat_lit 126, (oF "law" "law" s_q0c "law_crosstable_k08_changes_on_lines" 293 125 : Obj))]
def asF : List Addr := [3, 23, 24, 36, 37, 40, 41, 45, 46, 50, 51, 57, 58, 64, 65, 71, 72, 76, 77, 83, 84, 90, 91, 97, 98, 104, 105, 111, 112, 118, 119, 125, 126]
theorem as_ok : ∀ P, asF = (KF P).map (·.1) := fun _ => by kernel_rfl
def HK : PySem.W.Hook := PySem.W.kHook KF asF as_ok
def qv : Program := { PySem.Challenge.pw_crosstable_k08_changes_on_lines with main := { PySem.Challenge.pw_crosstable_k08_changes_on_lines.main with body := [top 1, top 2, top 4, top 5, top 6, top 7, top 8, top 9, top 10, top 11, top 12, top 14, top 15, top 16, top 17, top 18, top 19] } }
def XtL : Shared → Bool := fun s => PySem.W.xlAt qv [] s && PySem.W.recOk (PySem.W.RowW.records (PySem.W.OpenRow.toRowW PySem.Challenge.rw_crosstable_k08_changes_on_lines.row)) s
def defPos (s : Stmt) : Pos := match s with | .FunctionDef _ _ _ _ _ _ _ _ _ p => p | _ => ⟨0, 0, 0, 0⟩
def lawRec : DefRec := ⟨"law", defArgs s_q0c, defBody s_q0c, defScope s_q0c, defPos s_q0c⟩
def NL : Nat := 1914
theorem saidL : PySem.Challenge.rw_crosstable_k08_changes_on_lines.wellSaid = true := by kernel_rfl
theorem bareL : PySem.Challenge.rw_crosstable_k08_changes_on_lines.row.prog.bare := ⟨rfl, rfl, rfl, rfl, rfl, by decide +kernel⟩
def lsF : List Str := [Str.ofString "HOW_MANY_PARTS"]
theorem seen_x {q : Program} {l M : List Str} {X : Shared → Bool} {g : Bool} {s : Shared} (h : X s = true) : PySem.W.openSeen q l M X g s = PySem.W.openSeen q l M (fun _ => true) g s := by
  simp only [PySem.W.openSeen, h]
theorem left_of {α : Type} {q : Program} {l M : List Str} {X : Shared → Bool} {g : Bool} {o : Option Shared} {Y : Shared → α} {y : α} {v1 v2 v3 v4 v5}
    (a : o.map (fun s => ((PySem.W.openSeen q l M (fun _ => true) g s).1, (PySem.W.openSeen q l M (fun _ => true) g s).2.1)) = some (v1, v2)) (b : o.map (fun s => (PySem.W.openSeen q l M (fun _ => true) g s).2.2.1) = some v3)
    (c : o.map (fun s => (PySem.W.openSeen q l M (fun _ => true) g s).2.2.2.1) = some v4) (d : o.map (fun s => (PySem.W.openSeen q l M (fun _ => true) g s).2.2.2.2) = some v5) (e : o.map (fun s => (X s, Y s)) = some (true, y)) :
    o.map (fun s => (PySem.W.openSeen q l M X g s, Y s)) = some ((v1, v2, v3, v4, v5), y) := by
  cases o with
  | none => cases a
  | some s =>
    obtain ⟨ex, ey⟩ := Prod.mk.inj (Option.some.inj e)
    obtain ⟨a1, a2⟩ := Prod.mk.inj (Option.some.inj a)
    have b := Option.some.inj b
    have c := Option.some.inj c
    have d := Option.some.inj d
    show some (PySem.W.openSeen q l M X g s, Y s) = _
    rw [seen_x ex, ey, ← a1, ← a2, ← b, ← c, ← d]
open PySem.W in
set_option maxHeartbeats 0 in
theorem leftA (w : World) (b : Bool) : (PySem.W.openEnds treeTable PySem.Challenge.rw_crosstable_k08_changes_on_lines.row.prog (w.withFollow "special-get-raises" b) NL).map (fun s => ((PySem.W.openSeen qv lsF (importedModules PySem.Challenge.rw_crosstable_k08_changes_on_lines.row.prog.main.body) (fun _ => true) true s).1, (PySem.W.openSeen qv lsF (importedModules PySem.Challenge.rw_crosstable_k08_changes_on_lines.row.prog.main.body) (fun _ => true) true s).2.1)) = some (expectedOf qv, bltViewBooted) := by cases b <;> kernel_rfl
open PySem.W in
set_option maxHeartbeats 0 in
theorem leftB (w : World) (b : Bool) : (PySem.W.openEnds treeTable PySem.Challenge.rw_crosstable_k08_changes_on_lines.row.prog (w.withFollow "special-get-raises" b) NL).map (fun s => (PySem.W.openSeen qv lsF (importedModules PySem.Challenge.rw_crosstable_k08_changes_on_lines.row.prog.main.body) (fun _ => true) true s).2.2.1) = some true := by cases b <;> kernel_rfl
open PySem.W in
set_option maxHeartbeats 0 in
theorem leftC (w : World) (b : Bool) : (PySem.W.openEnds treeTable PySem.Challenge.rw_crosstable_k08_changes_on_lines.row.prog (w.withFollow "special-get-raises" b) NL).map (fun s => (PySem.W.openSeen qv lsF (importedModules PySem.Challenge.rw_crosstable_k08_changes_on_lines.row.prog.main.body) (fun _ => true) true s).2.2.2.1) = some true := by cases b <;> kernel_rfl
open PySem.W in
set_option maxHeartbeats 0 in
theorem leftD (w : World) (b : Bool) : (PySem.W.openEnds treeTable PySem.Challenge.rw_crosstable_k08_changes_on_lines.row.prog (w.withFollow "special-get-raises" b) NL).map (fun s => (PySem.W.openSeen qv lsF (importedModules PySem.Challenge.rw_crosstable_k08_changes_on_lines.row.prog.main.body) (fun _ => true) true s).2.2.2.2) = some (pinGoodD (drecsOf qv), plainGoodE qv (looseW qv lsF), plainGoodD qv lsF, wideGood qv, clsGoodW qv lsF) := by cases b <;> kernel_rfl
open PySem.W in
set_option maxHeartbeats 0 in
theorem leftE (w : World) (b : Bool) : (PySem.W.openEnds treeTable PySem.Challenge.rw_crosstable_k08_changes_on_lines.row.prog (w.withFollow "special-get-raises" b) NL).map (fun s => (XtL s, PySem.W.Hook.obs HK s)) = some (true, PySem.W.Hook.val HK (w.withFollow "special-get-raises" b)) := by cases b <;> kernel_rfl
theorem leftL : PySem.W.LeftO PySem.Challenge.rw_crosstable_k08_changes_on_lines.row.prog qv lsF XtL (PySem.W.Hook.obs HK) (PySem.W.Hook.val HK) NL := fun w => by
  have h := left_of (leftA w (w.params.followText "special-get-raises")) (leftB w _) (leftC w _) (leftD w _) (leftE w _)
  rw [World.withFollow_self] at h
  exact h
end X1
set_option Elab.async false
set_option linter.all false
set_option maxRecDepth 100000
namespace L2
open PySem PySem.Spec PyProof.Rows
abbrev Key := Sum Int Str
def keyIs : Key → Value → Bool
  | .inl k, v => Value.isInt k v
  | .inr x, v => Value.isStrOf x v
def keyH (w : World) : Key → Int
  | .inl k => hashInt k
  | .inr x => hashStr w x
theorem keyIs_shape : ∀ {k : Key} {v : Value}, keyIs k v = true → (∃ i t, k = Sum.inl i ∧ v = Value.int i t) ∨ (∃ x t, k = Sum.inr x ∧ v = Value.str x t)
  | .inl i, v, h => by
    obtain ⟨t, e⟩ := Value.isInt_shape (k := i) (v := v) h
    exact .inl ⟨i, t, rfl, e⟩
  | .inr x, v, h => by
    obtain ⟨t, e⟩ := Value.isStrOf_shape (x := x) (v := v) h
    exact .inr ⟨x, t, rfl, e⟩
theorem key_ll (a b : Int) : decide ((Sum.inl a : Key) = Sum.inl b) = (a == b) := by
  by_cases e : a = b
  · subst e; simp
  · have h : ¬ (Sum.inl a : Key) = Sum.inl b := fun q => e (Sum.inl.inj q)
    rw [decide_eq_false h]
    exact (beq_eq_false_iff_ne.mpr e).symm
theorem key_rr (a b : Str) : decide ((Sum.inr a : Key) = Sum.inr b) = decide (a = b) := by
  by_cases e : a = b
  · subst e; simp
  · have h : ¬ (Sum.inr a : Key) = Sum.inr b := fun q => e (Sum.inr.inj q)
    rw [decide_eq_false h, decide_eq_false e]
theorem key_lr (a : Int) (b : Str) : decide ((Sum.inl a : Key) = Sum.inr b) = false := decide_eq_false (fun q => nomatch q)
theorem key_rl (a : Str) (b : Int) : decide ((Sum.inr a : Key) = Sum.inl b) = false := decide_eq_false (fun q => nomatch q)
def mixKind (prog : Program) (w : World) : PySem.KeyKind prog w Key where
  is := keyIs
  hash := keyH w
  inj := fun v a b ha hb => by
    rcases keyIs_shape ha with ⟨i, t, rfl, rfl⟩ | ⟨x, t, rfl, rfl⟩
    · rcases keyIs_shape hb with ⟨j, u, rfl, e⟩ | ⟨y, u, rfl, e⟩
      · injection e with e1 _; rw [e1]
      · exact nomatch e
    · rcases keyIs_shape hb with ⟨j, u, rfl, e⟩ | ⟨y, u, rfl, e⟩
      · exact nomatch e
      · injection e with e1 _; rw [e1]
  byValue := fun k v h => by
    rcases keyIs_shape h with ⟨i, t, rfl, rfl⟩ | ⟨x, t, rfl, rfl⟩ <;> rfl
  pyHash := fun hv h => by
    rcases keyIs_shape hv with ⟨i, t, rfl, rfl⟩ | ⟨x, t, rfl, rfl⟩
    · exact wpAny_pyHash_int h
    · exact wpAny_pyHash_str h
  eqBool := fun hu hv h => by
    rcases keyIs_shape hu with ⟨i, t, rfl, rfl⟩ | ⟨x, t, rfl, rfl⟩
    · rcases keyIs_shape hv with ⟨j, u, rfl, rfl⟩ | ⟨y, u, rfl, rfl⟩
      · rw [key_ll] at h; exact wpAny_eqBool_int h
      · rw [key_lr] at h; exact SeqAt.EqAt.int_str i t y u _ _ _ _ h
    · rcases keyIs_shape hv with ⟨j, u, rfl, rfl⟩ | ⟨y, u, rfl, rfl⟩
      · rw [key_rl] at h; exact SeqAt.EqAt.str_int x t j u _ _ _ _ h
      · rw [key_rr] at h; exact wpAny_eqBool_str h
  «strs» := fun k x t v h => by
    rcases keyIs_shape h with ⟨i, u, rfl, e⟩ | ⟨y, u, rfl, e⟩
    · exact nomatch e
    · injection e with e1 _
      subst e1
      cases v <;> rfl
end L2
namespace L2
open PySem PySem.Spec PyProof.Rows
inductive V where
  | non | bl (b : Bool) | int (i : Int) | str (x : Str) | byt (b : Array UInt8) | flt (b : UInt64) | ref (a : Addr) | ty (n : String)
  deriving DecidableEq
def RelV : V → Value → Prop
  | .non, u => u = Value.none
  | .bl b, u => u = Value.bool b
  | .int i, u => ∃ t, u = Value.int i t
  | .str x, u => ∃ t, u = Value.str x t
  | .byt b, u => ∃ t, u = Value.bytes b t
  | .flt b, u => ∃ t, u = Value.float b t
  | .ref a, u => u = Value.ref a
  | .ty n, u => u = Value.type n
abbrev Vals : List V → List Value → Prop := Paired RelV
theorem Vals.length {xs : List V} {us : List Value} (r : Vals xs us) : xs.length = us.length := Paired.length r
theorem Vals.get : ∀ {xs : List V} {us : List Value} {i : Nat} {x : V}, Vals xs us → xs[i]? = some x → ∃ u, us[i]? = some u ∧ RelV x u
  | _, _, _, _, .nil, e => by simp at e
  | _, _, 0, _, .cons r _, e => by simp at e; subst e; exact ⟨_, rfl, r⟩
  | _, _, i + 1, x, .cons _ t, e => by
    obtain ⟨u, h1, h2⟩ := Vals.get (i := i) (x := x) t (by simpa using e)
    exact ⟨u, by simpa using h1, h2⟩
theorem Vals.set {x : V} {u : Value} (r : RelV x u) : ∀ {xs : List V} {us : List Value} (i : Nat), Vals xs us → Vals (xs.set i x) (us.set i u)
  | _, _, _, .nil => .nil
  | _, _, 0, .cons _ t => .cons r t
  | _, _, i + 1, .cons q t => .cons q (Vals.set r i t)
theorem Vals.append : ∀ {xs ys : List V} {us ws : List Value}, Vals xs us → Vals ys ws → Vals (xs ++ ys) (us ++ ws)
  | _, _, _, _, .nil, s => s
  | _, _, _, _, .cons r t, s => .cons r (Vals.append t s)
theorem Vals.take : ∀ {xs : List V} {us : List Value} (n : Nat), Vals xs us → Vals (xs.take n) (us.take n)
  | _, _, 0, _ => .nil
  | _, _, _ + 1, .nil => .nil
  | _, _, n + 1, .cons r t => .cons r (Vals.take n t)
theorem Vals.drop : ∀ {xs : List V} {us : List Value} (n : Nat), Vals xs us → Vals (xs.drop n) (us.drop n)
  | _, _, 0, r => r
  | _, _, _ + 1, .nil => .nil
  | _, _, n + 1, .cons _ t => Vals.drop n t
def RelO : Option V → Option Value → Prop
  | some v, some u => RelV v u
  | none, none => True
  | _, _ => False
def KV {κ : Type} : List (κ × V) → List (κ × Value) → Prop := Paired fun (p : κ × V) (q : κ × Value) => p.1 = q.1 ∧ RelV p.2 q.2
def kV : Key → V
  | .inl i => .int i
  | .inr x => .str x
inductive HO where
  | lst (xs : List V)
  | tup (xs : List V)
  | dK (kvs : List (Key × V)) | dT (kvs : List (List Key × V))
  | set (S : Int → Bool) (n : Nat)
  | ins (C dx : Addr) (fs : List (Str × V))
  | own (x : Addr)
  | xd (fs : List (Str × V))
  | met (f x : Addr)
  | rng (lo hi : Int)
  | frz (o : Obj) (u : HO)
  | tbl (ps : Array Value)
  | ext (φ : Heap → Prop)
abbrev Hp := Addr → Option HO
def upd (H : Hp) (a : Addr) (o : HO) : Hp := fun b => if b = a then some o else H b
theorem upd_same {H : Hp} {a : Addr} {o : HO} : upd H a o a = some o := by unfold upd; rw [if_pos rfl]
theorem upd_ne {H : Hp} {a b : Addr} {o : HO} (h : b ≠ a) : upd H a o b = H b := by unfold upd; rw [if_neg h]
theorem upd_upd {H : Hp} {a : Addr} {o u : HO} : upd (upd H a o) a u = upd H a u := by
  funext b; unfold upd; split <;> rfl
theorem ne_of_none {H : Hp} {a b : Addr} {o : HO} (h : H a = some o) (h' : H b = none) : a ≠ b := by
  intro e; subst e; rw [h] at h'; cases h'
section
variable (P : Program) (w : World)
def ObjOk (H : Hp) (h : Heap) (a : Addr) : HO → Prop
  | .lst xs => xs.length ≤ sizeLine ∧ ∃ (its : List Value) (n : Nat), Vals xs its ∧ h.get? a = some { cls := .type "list", data := .seq its.toArray n }
  | .tup xs => xs.length ≤ sizeLine ∧ ∃ its : List Value, Vals xs its ∧ IsTup h a its.toArray
  | .dK kvs => kvs.length ≤ sizeLine ∧ (a == sysModules) = false ∧ ∃ vs, KV kvs vs ∧ h.DictOf (mixKind P w) a vs
  | .dT kvs => kvs.length ≤ sizeLine ∧ (a == sysModules) = false ∧ ∃ xs : List (List Key × Addr × Value),
      Paired (fun (p : List Key × V) (q : List Key × Addr × Value) => p.1 = q.1 ∧ H q.2.1 = some (.tup (p.1.map kV)) ∧ RelV p.2 q.2.2) kvs xs ∧
      ∃ o es ep, h.get? a = some o ∧ o.ExactDict ∧ o.data = .dict es ep ∧ es.toList = xs.map (entryOfKey (tupleKind (mixKind P w))) ∧ (xs.map (·.1)).Nodup
  | .set S n => h.SetOf (intKind P w) a S n
  | .ins C dx fs => H dx = some (.own a) ∧ fs.length ≤ 1000 ∧ dx ≠ a ∧ h.get? a = some (PySem.W.instObj C dx) ∧
      ∃ mA, h.Ns1 dx mA ∧ (∀ f, RelO (fs.lookup f) (mA f)) ∧ PySem.Within mA (fs.map (·.1))
  | .own _ => ∃ o, h.get? a = some o
  | .xd fs => ∃ mA, h.Ns1 a mA ∧ ∀ f, RelO (fs.lookup f) (mA f)
  | .rng lo hi => ∃ t u v, h.get? a = some { cls := .type "range", data := .fields #[.int lo t, .int hi u, .int 1 v] }
  | .frz o u => h.get? a = some o ∧ ObjOk H h a u
  | .tbl ps => h.get? a = some { cls := .none, data := .fields ps }
  | .met f x => h.get? a = some (PySem.W.methodObj (.ref f) (.ref x))
  | .ext φ => φ h ∧ (∃ o, h.get? a = some o) ∧ ∀ h1 h2 : Heap, φ h1 → (∀ o, h1.get? a = some o → h2.get? a = some o) → φ h2
def HOk (H : Hp) (h : Heap) : Prop := ∀ a o, H a = some o → ObjOk P w H h a o
end
section
variable {P : Program} {w : World} {H H' : Hp} {h h' : Heap} {a : Addr} {o : HO}
theorem ObjOk.lt (x : ObjOk P w H h a o) : a < h.objs.size := by
  cases o with
  | lst xs => obtain ⟨_, _, _, _, e⟩ := x; exact Heap.lt_size e
  | tup xs => obtain ⟨_, _, _, p⟩ := x; exact p.lt
  | dK kvs => obtain ⟨_, _, _, _, o, _, _, e, _⟩ := x; exact Heap.lt_size e
  | dT kvs => obtain ⟨_, _, _, _, o, _, _, e, _⟩ := x; exact Heap.lt_size e
  | set S n => obtain ⟨o, _, _, _, e, _⟩ := x; exact Heap.lt_size e
  | ins C dx fs => obtain ⟨_, _, _, e, _⟩ := x; exact Heap.lt_size e
  | own y => obtain ⟨_, e⟩ := x; exact Heap.lt_size e
  | xd fs => obtain ⟨_, ⟨_, _, _, e, _⟩, _⟩ := x; exact Heap.lt_size e
  | rng lo hi => obtain ⟨_, _, _, e⟩ := x; exact Heap.lt_size e
  | frz ob u => obtain ⟨e, _⟩ := x; exact Heap.lt_size e
  | tbl ps => exact Heap.lt_size (show h.get? a = some _ from x)
  | met f y => exact Heap.lt_size (show h.get? a = some _ from x)
  | ext φ => obtain ⟨_, ⟨_, e⟩, _⟩ := x; exact Heap.lt_size e
theorem Paired.mapP {α β : Type} {F G : α → β → Prop} : ∀ {l₁ : List α} {l₂ : List β}, Paired F l₁ l₂ → (∀ a b, F a b → G a b) → Paired G l₁ l₂
  | _, _, .nil, _ => .nil
  | _, _, .cons r t, f => .cons (f _ _ r) (Paired.mapP t f)
theorem ObjOk.stay (x : ObjOk P w H h a o) (k : ∀ b u, (b = a ∨ H b = some (.own a)) → h.get? b = some u → h'.get? b = some u)
    (ho : ∀ b, H b = some (.own a) → H' b = some (.own a)) (ht : ∀ b xs, H b = some (.tup xs) → H' b = some (.tup xs)) : ObjOk P w H' h' a o := by
  induction o with
  | lst xs => obtain ⟨z, its, n, r, e⟩ := x; exact ⟨z, its, n, r, k _ _ (.inl rfl) e⟩
  | tup xs => obtain ⟨z, its, r, ob, e, c⟩ := x; exact ⟨z, its, r, ob, k _ _ (.inl rfl) e, c⟩
  | dK kvs => obtain ⟨z, y, vs, r, ob, es, ep, e, c⟩ := x; exact ⟨z, y, vs, r, ob, es, ep, k _ _ (.inl rfl) e, c⟩
  | dT kvs =>
    obtain ⟨z, y, xs, r, ob, es, ep, e, c⟩ := x
    exact ⟨z, y, xs, Paired.mapP r fun p q z => ⟨z.1, ht _ _ z.2.1, z.2.2⟩, ob, es, ep, k _ _ (.inl rfl) e, c⟩
  | set S n => obtain ⟨ob, es, ep, t, e, c⟩ := x; exact ⟨ob, es, ep, t, k _ _ (.inl rfl) e, c⟩
  | ins C dx fs =>
    obtain ⟨d, z, ne, e, mA, ⟨od, es, ep, e2, c⟩, r⟩ := x
    exact ⟨ho _ d, z, ne, k _ _ (.inl rfl) e, mA, ⟨od, es, ep, k _ _ (.inr d) e2, c⟩, r⟩
  | own y => obtain ⟨ob, e⟩ := x; exact ⟨ob, k _ _ (.inl rfl) e⟩
  | xd fs => obtain ⟨mA, ⟨od, es, ep, e, c⟩, r⟩ := x; exact ⟨mA, ⟨od, es, ep, k _ _ (.inl rfl) e, c⟩, r⟩
  | rng lo hi => obtain ⟨t, u, v, e⟩ := x; exact ⟨t, u, v, k _ _ (.inl rfl) e⟩
  | frz ob u ih => obtain ⟨e, q⟩ := x; exact ⟨k _ _ (.inl rfl) e, ih q⟩
  | tbl ps =>
    have e : h.get? a = some { cls := .none, data := .fields ps } := x
    show h'.get? a = some { cls := .none, data := .fields ps }
    exact k a _ (.inl rfl) e
  | met f y =>
    have e : h.get? a = some (PySem.W.methodObj (.ref f) (.ref y)) := x
    show h'.get? a = some (PySem.W.methodObj (.ref f) (.ref y))
    exact k a _ (.inl rfl) e
  | ext φ => obtain ⟨p, ⟨o, e⟩, st⟩ := x; exact ⟨st _ _ p fun o q => k _ _ (.inl rfl) q, ⟨o, k _ _ (.inl rfl) e⟩, st⟩
theorem HOk.lt (x : HOk P w H h) (e : H a = some o) : a < h.objs.size := (x a o e).lt
theorem HOk.fresh (x : HOk P w H h) (e : h.objs.size ≤ a) : H a = none := by
  cases q : H a with
  | none => rfl
  | some u => exact absurd (Nat.lt_of_lt_of_le (x.lt q) e) (Nat.lt_irrefl _)
theorem HOk.kept (x : HOk P w H h) (k : ∀ b u, h.get? b = some u → h'.get? b = some u) : HOk P w H h' := fun a o e =>
  (x a o e).stay (fun b u _ q => k b u q) (fun _ q => q) fun _ _ q => q
theorem HOk.laid (x : HOk P w H h) (k : ∀ b u, h.get? b = some u → h'.get? b = some u) (hp : h.objs.size ≤ a) (new : ObjOk P w (upd H a o) h' a o) : HOk P w (upd H a o) h' := fun b u e => by
  have hn := x.fresh hp
  by_cases hb : b = a
  · subst hb; rw [upd_same] at e; cases e; exact new
  · rw [upd_ne hb] at e
    exact (x b u e).stay (fun c v _ q => k c v q) (fun c q => by rw [upd_ne (ne_of_none q hn)]; exact q) fun c xs q => by rw [upd_ne (ne_of_none q hn)]; exact q
end
def Rd (H : Hp) (a : Addr) (u : HO) : Prop := H a = some u ∨ ∃ o, H a = some (.frz o u)
theorem Rd.of {H : Hp} {a : Addr} {u : HO} (h : H a = some u) : Rd H a u := .inl h
theorem Rd.ok {P : Program} {w : World} {H : Hp} {h : Heap} {a : Addr} {u : HO} (r : Rd H a u) (x : HOk P w H h) : ObjOk P w H h a u := by
  rcases r with r | ⟨o, r⟩
  · exact x a u r
  · obtain ⟨_, q⟩ := x a _ r
    exact q
def Mut : Option HO → Prop
  | some (.lst _) => True
  | some (.dK _) => True
  | some (.dT _) => True
  | some (.set _ _) => True
  | some (.ins _ _ _) => True
  | some (.ext _) => True
  | _ => False
section
variable {P : Program} {w : World} {H : Hp} {h h' : Heap} {x e : Addr} {o' : HO}
theorem HOk.write (ok : HOk P w H h) (mu : Mut (H x)) (he : e = x ∨ H e = some (.own x)) (k : ∀ b u, b ≠ e → h.get? b = some u → h'.get? b = some u) (heo : ∃ u, h'.get? e = some u)
    (new : ObjOk P w (upd H x o') h' x o') : HOk P w (upd H x o') h' := fun b u q => by
  have nown : ∀ c y, H c = some (.own y) → c ≠ x := fun c y r z => by subst z; rw [r] at mu; exact mu
  have ntup : ∀ c xs, H c = some (.tup xs) → c ≠ x := fun c xs r z => by subst z; rw [r] at mu; exact mu
  by_cases hb : b = x
  · subst hb; rw [upd_same] at q; cases q; exact new
  · rw [upd_ne hb] at q
    by_cases hbe : b = e
    · have q' : H b = some (.own x) := by
        rcases he with z | z
        · exact absurd (hbe.trans z) hb
        · rw [hbe]; exact z
      rw [q] at q'; cases q'
      obtain ⟨v, hv⟩ := heo
      exact ⟨v, by rw [hbe]; exact hv⟩
    · refine (ok b u q).stay (fun c v hc r => k c v ?_ r) (fun c r => by rw [upd_ne (nown c b r)]; exact r) fun c xs r => by rw [upd_ne (ntup c xs r)]; exact r
      rcases hc with rfl | hc
      · exact hbe
      · rintro rfl
        rcases he with z | z
        · exact nown c b hc z
        · rw [hc] at z; cases z; exact hb rfl
end
structure Un (fs ex : List Addr) (H H' : Hp) (h h' : Heap) : Prop where
  keep : ∀ b o, h.get? b = some o → H b = none → b ∉ fs → b ∉ ex → h'.get? b = some o
  slot : ∀ b o, h.get? b = some o → H b = none → b ∈ fs → b ∉ ex → ∃ sl, h'.get? b = some { o with slots := sl }
  free : ∀ b o, h.get? b = some o → H b = none → b ∉ ex → H' b = none
  there : ∀ b o, h.get? b = some o → b ∉ ex → ∃ o', h'.get? b = some o'
  tups : ∀ b xs, H b = some (.tup xs) → H' b = some (.tup xs)
  frzs : ∀ b o u, H b = some (.frz o u) → H' b = some (.frz o u)
  tbls : ∀ b ps, H b = some (.tbl ps) → ∃ more, H' b = some (.tbl (ps ++ more))
section
variable {fs fs' ex ex' : List Addr} {H H1 H2 : Hp} {h h1 h2 h' : Heap} {a x e : Addr} {o : HO}
theorem Un.any (u : Un fs ex H H1 h h1) {b : Addr} {ob : Obj} (q : h.get? b = some ob) (n : H b = none) (hx : b ∉ ex) : ∃ sl, h1.get? b = some { ob with slots := sl } := by
  by_cases hb : b ∈ fs
  · exact u.slot b ob q n hb hx
  · exact ⟨ob.slots, u.keep b ob q n hb hx⟩
theorem Un.trans (a : Un fs ex H H1 h h1) (b : Un fs ex H1 H2 h1 h2) : Un fs ex H H2 h h2 where
  keep := fun c ob q n hc hx => b.keep c ob (a.keep c ob q n hc hx) (a.free c ob q n hx) hc hx
  slot := fun c ob q n hc hx => by
    obtain ⟨sl, e1⟩ := a.slot c ob q n hc hx
    obtain ⟨sl', e2⟩ := b.slot c _ e1 (a.free c ob q n hx) hc hx
    exact ⟨sl', e2⟩
  free := fun c ob q n hx => by
    obtain ⟨o', e1⟩ := a.there c ob q hx
    exact b.free c o' e1 (a.free c ob q n hx) hx
  there := fun c ob q hx => by
    obtain ⟨o', e1⟩ := a.there c ob q hx
    exact b.there c o' e1 hx
  tups := fun c xs q => b.tups c xs (a.tups c xs q)
  frzs := fun c ob xs q => b.frzs c ob xs (a.frzs c ob xs q)
  tbls := fun c ps q => by
    obtain ⟨m1, e1⟩ := a.tbls c ps q
    obtain ⟨m2, e2⟩ := b.tbls c _ e1
    exact ⟨m1 ++ m2, by rw [e2, Array.append_assoc]⟩
theorem Un.kept (k : ∀ b u, h.get? b = some u → h'.get? b = some u) : Un fs ex H H h h' :=
  ⟨fun b ob q _ _ _ => k b ob q, fun b ob q _ _ _ => ⟨ob.slots, k b ob q⟩, fun _ _ _ n _ => n, fun b ob q _ => ⟨ob, k b ob q⟩, fun _ _ q => q, fun _ _ _ q => q, fun _ ps q => ⟨#[], by rw [q]; simp⟩⟩
theorem Un.refl : Un fs ex H H h h := Un.kept fun _ _ q => q
theorem Un.laid (k : ∀ b u, h.get? b = some u → h'.get? b = some u) (hp : h.objs.size ≤ a) (hn : H a = none) : Un fs ex H (upd H a o) h h' where
  keep := fun b u q _ _ _ => k b u q
  slot := fun b u q _ _ _ => ⟨u.slots, k b u q⟩
  free := fun b u q n _ => by rw [upd_ne (Nat.ne_of_lt (Nat.lt_of_lt_of_le (Heap.lt_size q) hp))]; exact n
  there := fun b u q _ => ⟨u, k b u q⟩
  tups := fun b xs q => by rw [upd_ne (ne_of_none q hn)]; exact q
  frzs := fun b u xs q => by rw [upd_ne (ne_of_none q hn)]; exact q
  tbls := fun b ps q => ⟨#[], by rw [upd_ne (ne_of_none q hn), q]; simp⟩
theorem Un.write (mu : Mut (H x)) (he : e = x ∨ H e = some (.own x)) (k : ∀ b u, b ≠ e → h.get? b = some u → h'.get? b = some u) (heo : ∃ u, h'.get? e = some u) : Un fs ex H (upd H x o) h h' := by
  have hx : ∀ b, H b = none → b ≠ x := fun b n z => by subst z; rw [n] at mu; exact mu
  have hb : ∀ b, H b = none → b ≠ e := fun b n z => by
    subst z
    rcases he with r | r
    · exact hx b n r
    · rw [n] at r; cases r
  have hm : ∀ b u, H b = some u → ¬ Mut (some u) → b ≠ x := fun b u q nm z => by subst z; rw [q] at mu; exact nm mu
  refine ⟨fun b u q n _ _ => k b u (hb b n) q, fun b u q n _ _ => ⟨u.slots, k b u (hb b n) q⟩, fun b u q n _ => by rw [upd_ne (hx b n)]; exact n, fun b u q _ => ?_,
    fun b xs q => by rw [upd_ne (hm b _ q fun z => z)]; exact q, fun b u xs q => by rw [upd_ne (hm b _ q fun z => z)]; exact q, fun b ps q => ⟨#[], by rw [upd_ne (hm b _ q fun z => z), q]; simp⟩⟩
  by_cases hbe : b = e
  · subst hbe; exact heo
  · exact ⟨u, k b u hbe q⟩
theorem Un.mono (u : Un fs ex H H1 h h1) (hs : ∀ b ∈ fs, b ∈ fs') (hx : ∀ b ∈ ex, b ∈ ex') : Un fs' ex' H H1 h h1 :=
  ⟨fun b ob q n hb he => u.keep b ob q n (fun z => hb (hs b z)) fun z => he (hx b z), fun _ _ q n _ he => u.any q n fun z => he (hx _ z), fun b ob q n he => u.free b ob q n fun z => he (hx b z), fun b ob q he => u.there b ob q fun z => he (hx b z), u.tups, u.frzs, u.tbls⟩
end
def trk (h : Heap) (H : Hp) : List Addr := (List.range h.objs.size).filter fun a => (H a).isSome
def hidT (h : Heap) (H : Hp) : Heap := PySem.W.hideAll h (trk h H)
theorem hidT_size (h : Heap) (H : Hp) : (hidT h H).objs.size = h.objs.size := PySem.W.hideAll_size _ _
theorem hidT_get {h : Heap} {H : Hp} {b : Addr} {o : Obj} (e : h.get? b = some o) (n : H b = none) : (hidT h H).get? b = some o :=
  PySem.W.hideAll_get _ e fun hm => by
    have q : (H b).isSome = true := (List.mem_filter.mp hm).2
    rw [n] at q; simp at q
theorem of_hidT {h : Heap} {H : Hp} {b : Addr} {o : Obj} (e : (hidT h H).get? b = some o) : h.get? b = some o ∧ H b = none := by
  have e' : h.get? b = some o := PySem.W.of_hideAll (trk h H) e
  refine ⟨e', ?_⟩
  cases q : H b with
  | none => rfl
  | some x =>
    have hm : b ∈ trk h H := List.mem_filter.mpr ⟨List.mem_range.mpr (Heap.lt_size e'), by simp [q]⟩
    have z : (hidT h H).get? b = none := PySem.W.hideAll_none (trk h H) hm
    rw [z] at e; cases e
def allNews (g h : Heap) (L : Addr) : List (Addr × Obj) := (List.range h.objs.size).filterMap fun a => if a = L ∨ (g.get? a).isSome = true then none else (h.get? a).map fun o => (a, o)
def rest (g h : Heap) (L d : Addr) : List (Addr × Obj) := (allNews g h L).filter fun p => decide (p.1 ≠ d)
end L2
namespace L2
open PySem PySem.Spec PyProof.Rows
structure Mod (K : PySem.W.Frag) (mg : Str → Option Value) (base : Heap) : Prop where
  kin : K.In base
  glob : base.Ns mainGlobals mg
  blt : ∃ mb, base.Ns builtinsNs mb ∧ ∀ x : Str, x ≠ "__name__" → mb x = bootBuiltins x
  nolimit : base.NoLimit
structure Cx where
  prog : Program
  w : World
  K : PySem.W.Frag
  mg : Str → Option Value
  base : Heap
  A : Around
  N : List Str
  s₀ : Shared
  H₀ : Hp
  env : Env
  outer : List Env
  stack : List Env
  ex : List Addr
  fn : Str → Bool
  calm : Bool
  pn : List (Addr × Obj)
  xe : Value → Shared → Prop
def frs (l : List Env) : List Addr := l.filterMap (·.frame)
abbrev Cx.fs (X : Cx) : List Addr := frs X.outer
def Vis (sc : Scope) (x : Str) : Prop := sc.names.lookup x = some .local ∨ sc.names.lookup x = some .cell ∨ sc.names.lookup x = some .free
def Loc (sc : Scope) (x : Str) : Prop := sc.names.lookup x = some .local ∨ sc.names.lookup x = some .cell
def Look (env : Env) (h : Heap) (m : Str → Option Value) (x : Str) (u : Value) : Prop :=
  (env.kindOf x = some .local ∧ m x = some u) ∨ ((env.kindOf x = some .cell ∨ env.kindOf x = some .free) ∧ ∃ c, env.cells.lookup x = some c ∧ h.IsCell c (some u))
structure Cx.Ok (X : Cx) : Prop where
  mod : Mod X.K X.mg X.base
  kind : X.env.scope.kind = .function
  glob : X.env.globals = mainGlobals
  blt : X.env.builtins = builtinsNs
  above : X.s₀.heap.objs.size ≤ X.env.locals
  inj : ∀ x y c, X.env.cells.lookup x = some c → X.env.cells.lookup y = some c → x = y
  has : ∀ x, (X.env.kindOf x = some .cell ∨ X.env.kindOf x = some .free) → ∃ c, X.env.cells.lookup x = some c
  cab : ∀ x c, X.fn x = true → X.env.cells.lookup x = some c → X.s₀.heap.objs.size ≤ c
  hd : X.calm = true → X.A.handled = none
  frames : X.A.frames = some X.stack
  stk : X.stack = X.outer ∨ (X.stack = X.env :: X.outer ∧ X.env.frame = some X.env.locals)
  exf : ∀ b ∈ X.ex, b ≠ X.env.locals ∧ ∀ x c, X.env.cells.lookup x = some c → c ≠ b
  bs : ∀ b o, X.base.get? b = some o → X.s₀.heap.get? b = some o ∧ X.H₀ b = none
  bsz : X.base.objs.size ≤ X.s₀.heap.objs.size
  noex : ∀ b o, X.base.get? b = some o → b ∉ X.ex
  exfs : ∀ b ∈ X.ex, b ∉ X.fs
  funs : X.s₀.heap.FunFrames X.base X.outer
  frf : ∀ b ∈ X.fs, X.H₀ b = none
structure Inv (X : Cx) (pins : List (Addr × Obj)) (σ : List (Option V)) (H : Hp) (s : Shared) : Prop where
  ok : X.Ok
  os : s.os = X.s₀.os
  bare : AllBare s.gens
  base : Un X.fs X.ex X.H₀ H X.s₀.heap s.heap
  loc : ∃ m, s.heap.Ns X.env.locals m ∧ ∀ (i : Nat) (x : Str) (v : V), X.N[i]? = some x → σ[i]? = some (some v) → Vis X.env.scope x → ∃ u, RelV v u ∧ Look X.env s.heap m x u
  cell : ∀ x c, X.env.cells.lookup x = some c → ∃ v, s.heap.IsCell c v
  free : H X.env.locals = none
  freeC : ∀ x c, X.env.cells.lookup x = some c → H c = none
  pin : ∀ p ∈ X.pn ++ pins, s.heap.get? p.1 = some p.2 ∧ H p.1 = none ∧ p.1 ≠ X.env.locals ∧ p.1 ∉ X.fs ∧ ∀ v, p.2.data ≠ .cell v
  hok : HOk X.prog X.w H s.heap
  len : σ.length = X.N.length
section
variable {X : Cx} {pins : List (Addr × Obj)} {σ : List (Option V)} {H H' : Hp} {s : Shared} {h' : Heap}
theorem Cx.Ok.nofr (ok : X.Ok) {b : Addr} {o : Obj} (e : X.base.get? b = some o) : b ∉ X.fs := fun hb => by
  have := (ok.funs.mem hb).1
  rw [e] at this; cases this
theorem Inv.bs (I : Inv X pins σ H s) : ∀ b o, X.base.get? b = some o → s.heap.get? b = some o ∧ H b = none := fun b o e =>
  ⟨I.base.keep b o (I.ok.bs b o e).1 (I.ok.bs b o e).2 (I.ok.nofr e) (I.ok.noex b o e), I.base.free b o (I.ok.bs b o e).1 (I.ok.bs b o e).2 (I.ok.noex b o e)⟩
theorem Inv.bk (I : Inv X pins σ H s) : ∀ b o, X.base.get? b = some o → s.heap.get? b = some o := fun b o e => (I.bs b o e).1
theorem Inv.mod (I : Inv X pins σ H s) : Mod X.K X.mg X.base := I.ok.mod
theorem Inv.kIn (I : Inv X pins σ H s) : X.K.In s.heap := I.ok.mod.kin.keeps I.bk
theorem Inv.nolimit (I : Inv X pins σ H s) : s.heap.NoLimit := I.ok.mod.nolimit.keeps I.bk
theorem Inv.fr (I : Inv X pins σ H s) : ∃ m, Fr X.base X.env.locals s.heap m :=
  let ⟨m, hn, _⟩ := I.loc
  ⟨m, hn, I.bk, Nat.le_trans I.ok.bsz I.ok.above⟩
theorem Inv.lt (I : Inv X pins σ H s) : X.env.locals < s.heap.objs.size := let ⟨_, hn, _⟩ := I.loc; hn.lt
theorem Inv.sz (I : Inv X pins σ H s) : X.s₀.heap.objs.size ≤ s.heap.objs.size := Nat.le_trans I.ok.above (Nat.le_of_lt I.lt)
theorem Inv.nofs (I : Inv X pins σ H s) {a : Addr} (h : s.heap.objs.size ≤ a) : a ∉ X.fs := fun hb => by
  obtain ⟨_, o, ho, _⟩ := I.ok.funs.mem hb
  exact absurd (Nat.lt_of_lt_of_le (Heap.lt_size ho) (Nat.le_trans I.sz h)) (Nat.lt_irrefl _)
theorem Inv.cne (I : Inv X pins σ H s) : ∀ x c, X.env.cells.lookup x = some c → c ≠ X.env.locals := fun x c e z => by
  obtain ⟨v, o, ho, hd⟩ := I.cell x c e
  obtain ⟨m, ⟨o', es, ep, ho', hd', _⟩, _⟩ := I.loc
  rw [z, ho'] at ho; cases ho; rw [hd'] at hd; cases hd
theorem Inv.funs (I : Inv X pins σ H s) : s.heap.FunFrames X.base X.outer := by
  have all : ∀ (l : List Env), (∀ b ∈ frs l, b ∈ X.fs) → X.s₀.heap.FunFrames X.base l → s.heap.FunFrames X.base l := by
    intro l
    induction l with
    | nil => intro _ _; trivial
    | cons env r ih =>
      intro hs hl
      obtain ⟨hk, ⟨L, o, hf, hn, ho, hd⟩, hr⟩ := hl
      have hL : L ∈ X.fs := hs L (by unfold frs; rw [List.filterMap_cons, hf]; exact List.mem_cons_self)
      obtain ⟨sl, e⟩ := I.base.slot L o ho (I.ok.frf L hL) hL fun z => I.ok.exfs L z hL
      exact ⟨hk, ⟨L, _, hf, hn, e, hd⟩, ih (fun b hb => hs b (by unfold frs; rw [List.filterMap_cons, hf]; exact List.mem_cons_of_mem _ hb)) hr⟩
  exact all X.outer (fun _ hb => hb) I.ok.funs
theorem Inv.stack (I : Inv X pins σ H s) : s.heap.FunFrames X.base X.stack := by
  rcases I.ok.stk with e | ⟨e, hf⟩
  · rw [e]; exact I.funs
  · rw [e]
    obtain ⟨m, hn, _⟩ := I.loc
    refine .cons (by rw [I.ok.kind]; decide) hf hn ?_ I.funs
    exact Heap.get?_none_of_le (Nat.le_trans I.ok.bsz I.ok.above)
theorem Inv.stkSub (I : Inv X pins σ H s) : ∀ b ∈ frs X.stack, b ∈ X.env.locals :: X.fs := fun b hb => by
  rcases I.ok.stk with e | ⟨e, hf⟩
  · rw [e] at hb; exact List.mem_cons_of_mem _ hb
  · rw [e] at hb
    unfold frs at hb
    rw [List.filterMap_cons, hf] at hb
    exact hb
theorem Inv.stkFree (I : Inv X pins σ H s) : ∀ b ∈ frs X.stack, H b = none := fun b hb => by
  rcases List.mem_cons.mp (I.stkSub b hb) with e | hb
  · rw [e]; exact I.free
  · obtain ⟨_, o, ho, _⟩ := I.ok.funs.mem hb
    exact I.base.free b o ho (I.ok.frf b hb) fun z => I.ok.exfs b z hb
theorem Inv.step {g' : Array GenState} {t' : Nat} {d' : Drawn} {ch : List Addr} (I : Inv X pins σ H s)
    (hch : ∀ b ∈ ch, (b ∈ X.ex ∨ X.s₀.heap.objs.size ≤ b) ∧ b ≠ X.env.locals ∧ (∀ x c, X.env.cells.lookup x = some c → c ≠ b) ∧ ∀ p ∈ X.pn ++ pins, p.1 ≠ b)
    (keep : ∀ b o, b ≠ X.env.locals → b ∉ X.fs → b ∉ ch → s.heap.get? b = some o → H b = none → h'.get? b = some o)
    (slot : ∀ b o, b ≠ X.env.locals → b ∈ X.fs → b ∉ ch → s.heap.get? b = some o → H b = none → ∃ sl, h'.get? b = some { o with slots := sl }) (free : ∀ b o, b ∉ ch → s.heap.get? b = some o → H b = none → H' b = none)
    (there : ∀ b o, b ∉ ch → s.heap.get? b = some o → ∃ o', h'.get? b = some o')
    (tups : ∀ b xs, H b = some (.tup xs) → H' b = some (.tup xs)) (frzs : ∀ b o u, H b = some (.frz o u) → H' b = some (.frz o u)) (tbls : ∀ b ps, H b = some (.tbl ps) → ∃ more, H' b = some (.tbl (ps ++ more)))
    (ns : ∀ m, s.heap.Ns X.env.locals m → h'.Ns X.env.locals m) (hok : HOk X.prog X.w H' h') (hg : AllBare g') :
    Inv X pins σ H' { s with heap := h', gens := g', drawn := d', toks := t' } := by
  have neL : ∀ b o, X.s₀.heap.get? b = some o → b ≠ X.env.locals := fun b o e => Nat.ne_of_lt (Nat.lt_of_lt_of_le (Heap.lt_size e) I.ok.above)
  have neC : ∀ b o, X.s₀.heap.get? b = some o → b ∉ X.ex → b ∉ ch := fun b o e hx hb => by
    rcases (hch b hb).1 with z | z
    · exact hx z
    · exact absurd (Nat.lt_of_lt_of_le (Heap.lt_size e) z) (Nat.lt_irrefl _)
  have cellK : ∀ x c, X.env.cells.lookup x = some c → ∀ v, s.heap.IsCell c v → h'.IsCell c v := fun x c e v ⟨o, ho, hd⟩ => by
    have nch : c ∉ ch := fun z => (hch c z).2.2.1 x c e rfl
    by_cases hc : c ∈ X.fs
    · obtain ⟨sl, q⟩ := slot c o (I.cne x c e) hc nch ho (I.freeC x c e)
      exact ⟨_, q, hd⟩
    · exact ⟨o, keep c o (I.cne x c e) hc nch ho (I.freeC x c e), hd⟩
  refine ⟨I.ok, I.os, hg, ⟨fun b o e n hb hx => ?_, fun b o e n hb hx => ?_, fun b o e n hx => ?_, fun b o e hx => ?_, fun b xs e => tups b xs (I.base.tups b xs e), fun b o xs e => frzs b o xs (I.base.frzs b o xs e), fun b ps e => ?_⟩, ?_, fun x c e => ?_, ?_, fun x c e => ?_, fun p hp => ?_, hok, I.len⟩
  · exact keep b o (neL b o e) hb (neC b o e hx) (I.base.keep b o e n hb hx) (I.base.free b o e n hx)
  · obtain ⟨sl, e1⟩ := I.base.slot b o e n hb hx
    obtain ⟨sl', e2⟩ := slot b _ (neL b o e) hb (neC b o e hx) e1 (I.base.free b o e n hx)
    exact ⟨sl', e2⟩
  · obtain ⟨o', e1⟩ := I.base.there b o e hx
    exact free b o' (neC b o e hx) e1 (I.base.free b o e n hx)
  · obtain ⟨o', e1⟩ := I.base.there b o e hx
    exact there b o' (neC b o e hx) e1
  · obtain ⟨m1, e1⟩ := I.base.tbls b ps e
    obtain ⟨m2, e2⟩ := tbls b _ e1
    exact ⟨m1 ++ m2, by rw [e2, Array.append_assoc]⟩
  · obtain ⟨m, hn, hl⟩ := I.loc
    refine ⟨m, ns m hn, fun i x v e1 e2 e3 => ?_⟩
    obtain ⟨u, r, l⟩ := hl i x v e1 e2 e3
    refine ⟨u, r, ?_⟩
    rcases l with l | ⟨k, c, e, z⟩
    · exact .inl l
    · exact .inr ⟨k, c, e, cellK x c e _ z⟩
  · obtain ⟨v, z⟩ := I.cell x c e
    exact ⟨v, cellK x c e v z⟩
  · obtain ⟨m, ⟨o, _, _, ho, _⟩, _⟩ := I.loc
    exact free _ o (fun z => (hch _ z).2.1 rfl) ho I.free
  · obtain ⟨v, o, ho, hd⟩ := I.cell x c e
    exact free c o (fun z => (hch c z).2.2.1 x c e rfl) ho (I.freeC x c e)
  · obtain ⟨e, n, ne, nf, d⟩ := I.pin p hp
    have nch : p.1 ∉ ch := fun z => (hch p.1 z).2.2.2 p hp rfl
    exact ⟨keep p.1 p.2 ne nf nch e n, free p.1 p.2 nch e n, ne, nf, d⟩
theorem Inv.un {t' : Nat} (I : Inv X pins σ H s) (u : Un X.fs [] H H' s.heap h') (hok : HOk X.prog X.w H' h') : Inv X pins σ H' { s with heap := h', toks := t' } := by
  obtain ⟨m, ⟨o, es, ep, ho, r⟩, _⟩ := id I.loc
  obtain ⟨sl, hL⟩ := u.any ho I.free (by simp)
  exact I.step (g' := s.gens) (d' := s.drawn) (ch := []) (fun _ z => nomatch z) (fun b o _ hb _ e n => u.keep b o e n hb (by simp)) (fun b o _ hb _ e n => u.slot b o e n hb (by simp)) (fun b o _ e n => u.free b o e n (by simp)) (fun b o _ e => u.there b o e (by simp)) u.tups u.frzs u.tbls (fun m' hm => by
    obtain ⟨o', es', ep', ho', r'⟩ := hm
    rw [ho] at ho'; cases ho'
    exact ⟨_, es', ep', hL, r'⟩) hok I.bare
theorem Inv.call {g' : Array GenState} {t' : Nat} {d' : Drawn} {ch : List Addr} (I : Inv X pins σ H s) (u : Un (frs X.stack) ch H H' s.heap h') (hok : HOk X.prog X.w H' h') (hg : AllBare g')
    (hch : ∀ b ∈ ch, (b ∈ X.ex ∨ X.s₀.heap.objs.size ≤ b) ∧ b ≠ X.env.locals ∧ (∀ x c, X.env.cells.lookup x = some c → c ≠ b) ∧ ∀ p ∈ X.pn ++ pins, p.1 ≠ b) :
    Inv X pins σ H' { s with heap := h', gens := g', drawn := d', toks := t' } := by
  obtain ⟨m, ⟨o, es, ep, ho, r⟩, _⟩ := id I.loc
  obtain ⟨sl, hL⟩ := u.any ho I.free fun z => (hch _ z).2.1 rfl
  exact I.step (ch := ch) hch (fun b o hL hb hc e n => u.keep b o e n (fun z => (List.mem_cons.mp (I.stkSub b z)).elim hL hb) hc) (fun b o _ _ hc e n => u.any e n hc) (fun b o hc e n => u.free b o e n hc) (fun b o hc e => u.there b o e hc) u.tups u.frzs u.tbls (fun m' hm => by
    obtain ⟨o', es', ep', ho', r'⟩ := hm
    rw [ho] at ho'; cases ho'
    exact ⟨_, es', ep', hL, r'⟩) hok hg
theorem Inv.turned {t' : Nat} {it : Addr} (I : Inv X pins σ H s) (k : ∀ b o, b ≠ it → s.heap.get? b = some o → h'.get? b = some o) (hn : H it = none) (hL : it ≠ X.env.locals)
    (h1 : it ∈ X.ex ∨ X.s₀.heap.objs.size ≤ it) (h2 : ∀ x c, X.env.cells.lookup x = some c → c ≠ it) (h3 : ∀ p ∈ X.pn ++ pins, p.1 ≠ it) : Inv X pins σ H { s with heap := h', toks := t' } := by
  have nit : ∀ b u, H b = some u → b ≠ it := fun b u e z => by rw [z, hn] at e; cases e
  refine I.step (g' := s.gens) (d' := s.drawn) (ch := [it]) (fun b hb => ?_) (fun b o _ _ hc e _ => k b o (fun z => hc (by simp [z])) e) (fun b o _ _ hc e _ => ⟨o.slots, k b o (fun z => hc (by simp [z])) e⟩) (fun _ _ _ _ n => n)
    (fun b o hc e => ⟨o, k b o (fun z => hc (by simp [z])) e⟩) (fun _ _ e => e) (fun _ _ _ e => e) (fun b ps e => ⟨#[], by rw [e]; simp⟩) (fun m hm => ?_) (fun b u e => ?_) I.bare
  · have e : b = it := by simpa using hb
    subst e
    exact ⟨h1, hL, h2, h3⟩
  · obtain ⟨o, es, ep, ho, r⟩ := hm
    exact ⟨o, es, ep, k _ o (Ne.symm hL) ho, r⟩
  · refine (I.hok b u e).stay (fun c v hc q => k c v ?_ q) (fun _ q => q) fun _ _ q => q
    rcases hc with z | z
    · rw [z]; exact nit b u e
    · exact nit c _ z
theorem Inv.tok (I : Inv X pins σ H s) (t : Nat) : Inv X pins σ H { s with toks := t } := I.un (h' := s.heap) (t' := t) Un.refl I.hok
theorem Inv.kept {t' : Nat} (I : Inv X pins σ H s) (k : ∀ b u, s.heap.get? b = some u → h'.get? b = some u) : Inv X pins σ H { s with heap := h', toks := t' } := I.un (Un.kept k) (I.hok.kept k)
theorem Inv.laid {a : Addr} {o : HO} {t' : Nat} (I : Inv X pins σ H s) (k : ∀ b u, s.heap.get? b = some u → h'.get? b = some u) (hp : s.heap.objs.size ≤ a) (new : ObjOk X.prog X.w (upd H a o) h' a o) :
    Inv X pins σ (upd H a o) { s with heap := h', toks := t' } := I.un (Un.laid k hp (I.hok.fresh hp)) (I.hok.laid k hp new)
theorem Inv.write {x e : Addr} {o : HO} {t' : Nat} (I : Inv X pins σ H s) (mu : Mut (H x)) (he : e = x ∨ H e = some (.own x)) (k : ∀ b u, b ≠ e → s.heap.get? b = some u → h'.get? b = some u) (heo : ∃ u, h'.get? e = some u)
    (new : ObjOk X.prog X.w (upd H x o) h' x o) : Inv X pins σ (upd H x o) { s with heap := h', toks := t' } := I.un (Un.write mu he k heo) (I.hok.write mu he k heo new)
theorem Inv.weak {σ' : List (Option V)} (I : Inv X pins σ H s) (hl : σ'.length = σ.length) (w : ∀ (i : Nat) v, σ'[i]? = some (some v) → σ[i]? = some (some v)) : Inv X pins σ' H s :=
  ⟨I.ok, I.os, I.bare, I.base, let ⟨m, hn, hl'⟩ := I.loc; ⟨m, hn, fun i x v e1 e2 e3 => hl' i x v e1 (w i v e2) e3⟩, I.cell, I.free, I.freeC, I.pin, I.hok, hl.trans I.len⟩
theorem Inv.pins_of {pins' : List (Addr × Obj)} (I : Inv X pins σ H s) (h : ∀ p ∈ pins', s.heap.get? p.1 = some p.2 ∧ H p.1 = none ∧ p.1 ≠ X.env.locals ∧ p.1 ∉ X.fs ∧ ∀ v, p.2.data ≠ .cell v) : Inv X pins' σ H s :=
  ⟨I.ok, I.os, I.bare, I.base, I.loc, I.cell, I.free, I.freeC, fun p hp => (List.mem_append.mp hp).elim (fun z => I.pin p (List.mem_append_left _ z)) (h p), I.hok, I.len⟩
theorem nodup_ix {N : List Str} (hN : N.Nodup) {i j : Nat} {x : Str} (a : N[i]? = some x) (b : N[j]? = some x) : i = j := by
  obtain ⟨h1, e1⟩ := List.getElem?_eq_some_iff.mp a
  obtain ⟨h2, e2⟩ := List.getElem?_eq_some_iff.mp b
  exact (List.getElem_inj hN).mp (e1.trans e2.symm)
theorem store_ok2 {M : Model} {A : Around} {E : Value → Shared → Prop} {i : Nat} {x : Str} {v : V} {u : Value} {Q : Unit → Shared → Prop} (I : Inv X pins σ H s) (hN : X.N.Nodup) (hi : X.N[i]? = some x) (hx : Loc X.env.scope x) (r : RelV v u)
    (h : ∀ s', Inv X pins (σ.set i (some v)) H s' → (∃ a, Heap.SameBut a s.heap s'.heap ∧ (a = X.env.locals ∨ X.env.cells.lookup x = some a)) → Q () s') (hf : X.fn x = true ∨ X.env.scope.names.lookup x = some .local := by first | exact .inl rfl | exact .inr rfl | assumption) : wpAny M A (storeName X.env x u) Q E s := by
  obtain ⟨m, hn, hl⟩ := id I.loc
  have hcls : (X.env.scope.kind == .class || (X.env.scope.kind == .module && X.env.locals != X.env.globals)) = false := by rw [I.ok.kind]; rfl
  have hiσ : i < σ.length := by rw [I.len]; exact (List.getElem?_eq_some_iff.mp hi).1
  have cne := I.cne
  have tracked : ∀ {a : Addr} {h' : Heap}, (∃ o, s.heap.get? a = some o ∧ H a = none) → Heap.SameBut a s.heap h' → HOk X.prog X.w H h' := fun {a h'} ha hs b ob e => by
    obtain ⟨_, _, hfree⟩ := ha
    refine (I.hok b ob e).stay (fun c w' hc q => (hs.2 c ?_).trans q) (fun _ q => q) fun _ _ q => q
    rintro rfl
    rcases hc with rfl | hc
    · rw [hfree] at e; cases e
    · rw [hfree] at hc; cases hc
  rcases hx with hk | hk
  · refine wpAny_storeName_local hk hn (fun h' hn' hs => ?_) hcls
    obtain ⟨oL, _, _, hoL, _⟩ := id hn
    refine h _ ⟨I.ok, I.os, I.bare, ⟨fun b o e n hb hx => ?_, fun b o e n hb hx => ?_, I.base.free, fun b o e hx => ?_, I.base.tups, I.base.frzs, I.base.tbls⟩, ⟨_, hn', fun j y v' e1 e2 e3 => ?_⟩, fun y c e => ?_, I.free, I.freeC, fun p hp => ?_, tracked ⟨oL, hoL, I.free⟩ hs, by simpa using I.len⟩ ⟨_, hs, .inl rfl⟩
    · exact (hs.2 b (Nat.ne_of_lt (Nat.lt_of_lt_of_le (Heap.lt_size e) I.ok.above))).trans (I.base.keep b o e n hb hx)
    · obtain ⟨sl, e1⟩ := I.base.slot b o e n hb hx
      exact ⟨sl, (hs.2 b (Nat.ne_of_lt (Nat.lt_of_lt_of_le (Heap.lt_size e) I.ok.above))).trans e1⟩
    · obtain ⟨o', e1⟩ := I.base.there b o e hx
      exact ⟨o', (hs.2 b (Nat.ne_of_lt (Nat.lt_of_lt_of_le (Heap.lt_size e) I.ok.above))).trans e1⟩
    · by_cases hj : j = i
      · subst hj
        rw [hi] at e1; cases e1
        rw [List.getElem?_set_self hiσ] at e2
        cases e2
        exact ⟨u, r, .inl ⟨hk, by simp⟩⟩
      · rw [List.getElem?_set_ne (Ne.symm hj)] at e2
        obtain ⟨u', r', q⟩ := hl j y v' e1 e2 e3
        refine ⟨u', r', ?_⟩
        rcases q with ⟨k, e⟩ | ⟨k, c, e, z⟩
        · refine .inl ⟨k, ?_⟩
          have : y ≠ x := fun e => hj (nodup_ix hN e1 (e ▸ hi))
          simp [this, e]
        · exact .inr ⟨k, c, e, z.sameBut hs (cne y c e)⟩
    · obtain ⟨w', z⟩ := I.cell y c e
      exact ⟨w', z.sameBut hs (cne y c e)⟩
    · obtain ⟨e, n, ne, nf, d⟩ := I.pin p hp
      exact ⟨(hs.2 p.1 ne).trans e, n, ne, nf, d⟩
  · have hfn : X.fn x = true := by
      rcases hf with z | z
      · exact z
      · rw [z] at hk; cases hk
    obtain ⟨c, hc⟩ := I.ok.has x (.inl hk)
    obtain ⟨w', z⟩ := I.cell x c hc
    refine wpAny_storeName_cell I.ok.kind hk hc z (fun h' hc' hs => ?_)
    obtain ⟨oc, hoc, hocd⟩ := id z
    refine h { s with heap := h' } ⟨I.ok, I.os, I.bare, ⟨fun b o e n hb hx => ?_, fun b o e n hb hx => ?_, I.base.free, fun b o e hx => ?_, I.base.tups, I.base.frzs, I.base.tbls⟩, ⟨m, hn.sameBut hs (Ne.symm (cne x c hc)), fun j y v' e1 e2 e3 => ?_⟩, fun y c' e => ?_, I.free, I.freeC, fun p hp => ?_, tracked ⟨oc, hoc, I.freeC x c hc⟩ hs, by simpa using I.len⟩ ⟨c, hs, .inr hc⟩
    · exact (hs.2 b (Nat.ne_of_lt (Nat.lt_of_lt_of_le (Heap.lt_size e) (I.ok.cab x c hfn hc)))).trans (I.base.keep b o e n hb hx)
    · obtain ⟨sl, e1⟩ := I.base.slot b o e n hb hx
      exact ⟨sl, (hs.2 b (Nat.ne_of_lt (Nat.lt_of_lt_of_le (Heap.lt_size e) (I.ok.cab x c hfn hc)))).trans e1⟩
    · obtain ⟨o', e1⟩ := I.base.there b o e hx
      exact ⟨o', (hs.2 b (Nat.ne_of_lt (Nat.lt_of_lt_of_le (Heap.lt_size e) (I.ok.cab x c hfn hc)))).trans e1⟩
    · by_cases hj : j = i
      · subst hj
        rw [hi] at e1; cases e1
        rw [List.getElem?_set_self hiσ] at e2
        cases e2
        exact ⟨u, r, .inr ⟨.inl hk, c, hc, hc'⟩⟩
      · rw [List.getElem?_set_ne (Ne.symm hj)] at e2
        obtain ⟨u', r', q⟩ := hl j y v' e1 e2 e3
        refine ⟨u', r', ?_⟩
        rcases q with q | ⟨k, c', e, z'⟩
        · exact .inl q
        · refine .inr ⟨k, c', e, z'.sameBut hs ?_⟩
          rintro rfl
          exact hj (nodup_ix hN e1 (I.ok.inj _ _ _ e hc ▸ hi))
    · by_cases hcc : c' = c
      · subst hcc; exact ⟨_, hc'⟩
      · obtain ⟨w2, z2⟩ := I.cell y c' e
        exact ⟨w2, z2.sameBut hs hcc⟩
    · obtain ⟨e, n, ne, nf, d⟩ := I.pin p hp
      refine ⟨(hs.2 p.1 ?_).trans e, n, ne, nf, d⟩
      intro q
      rw [q, hoc] at e
      have q' : oc = p.2 := Option.some.inj e
      exact d w' (by rw [← q']; exact hocd)
theorem store_ok {M : Model} {A : Around} {E : Value → Shared → Prop} {i : Nat} {x : Str} {v : V} {u : Value} {Q : Unit → Shared → Prop} (I : Inv X pins σ H s) (hN : X.N.Nodup) (hi : X.N[i]? = some x) (hx : Loc X.env.scope x) (r : RelV v u)
    (h : ∀ s', Inv X pins (σ.set i (some v)) H s' → Q () s') (hf : X.fn x = true ∨ X.env.scope.names.lookup x = some .local := by first | exact .inl rfl | exact .inr rfl | assumption) : wpAny M A (storeName X.env x u) Q E s :=
  store_ok2 I hN hi hx r (fun s' I' _ => h s' I') hf
theorem Inv.call' {s' : Shared} {ch : List Addr} (I : Inv X pins σ H s) (ho : s'.os = s.os) (u : Un (frs X.stack) ch H H' s.heap s'.heap) (hok : HOk X.prog X.w H' s'.heap) (hg : AllBare s'.gens)
    (hch : ∀ b ∈ ch, (b ∈ X.ex ∨ X.s₀.heap.objs.size ≤ b) ∧ b ≠ X.env.locals ∧ (∀ x c, X.env.cells.lookup x = some c → c ≠ b) ∧ ∀ p ∈ X.pn ++ pins, p.1 ≠ b) : Inv X pins σ H' s' := by
  obtain ⟨h', g', d', t', o'⟩ := s'
  have e : o' = s.os := ho
  subst e
  exact I.call (g' := g') (t' := t') (d' := d') u hok hg hch
end
abbrev XK := Value → Option Addr → Hp → Prop
abbrev St := List (Option V)
abbrev VK := V → Hp → Prop
abbrev TE := St → Hp → VK → Prop
abbrev TT := St → Hp → (Bool → Hp → Prop) → Prop
abbrev TA := St → Hp → (List V → Hp → Prop) → Prop
structure Ends where
  nx : St → Hp → Prop
  rt : VK
  bk : St → Hp → Prop := fun _ _ => False
  ct : St → Hp → Prop := fun _ _ => False
abbrev TS := Ends → St → Hp → Prop
def EP (X : Cx) (pins : List (Addr × Obj)) (σ : St) (Q : VK) (u : Value) (s' : Shared) : Prop := ∃ v H', Inv X pins σ H' s' ∧ RelV v u ∧ Q v H'
def TP (X : Cx) (pins : List (Addr × Obj)) (σ : St) (Q : Bool → Hp → Prop) (b : Bool) (s' : Shared) : Prop := ∃ H', Inv X pins σ H' s' ∧ Q b H'
def AP (X : Cx) (pins : List (Addr × Obj)) (σ : St) (Q : List V → Hp → Prop) (us : List Value) (s' : Shared) : Prop := ∃ vs H', Inv X pins σ H' s' ∧ Vals vs us ∧ Q vs H'
def SP (X : Cx) (pins : List (Addr × Obj)) (D : Ends) (f : Flow) (s' : Shared) : Prop :=
  match f with
  | .next => ∃ σ' H', Inv X pins σ' H' s' ∧ D.nx σ' H'
  | .brk => ∃ σ' H', Inv X pins σ' H' s' ∧ D.bk σ' H'
  | .cont => ∃ σ' H', Inv X pins σ' H' s' ∧ D.ct σ' H'
  | .ret u => ∃ v σ' H', Inv X pins σ' H' s' ∧ RelV v u ∧ D.rt v H'
def PE (X : Cx) (e : Expr) (t : TE) : Prop :=
  ∀ (pins : List (Addr × Obj)) (s : Shared) (σ : St) (H : Hp) (Q : VK), Inv X pins σ H s → t σ H Q → wpAny (model X.prog X.w) X.A (eval e X.env) (EP X pins σ Q) X.xe s
def PT (X : Cx) (e : Expr) (t : TT) : Prop :=
  ∀ (pins : List (Addr × Obj)) (s : Shared) (σ : St) (H : Hp) (Q : Bool → Hp → Prop), Inv X pins σ H s → t σ H Q → wpAny (model X.prog X.w) X.A (isTrue e X.env (eval e X.env)) (TP X pins σ Q) X.xe s
def PW (X : Cx) (e : Expr) (t : TT) : Prop :=
  ∀ (whole : Sem Value) (pins : List (Addr × Obj)) (s : Shared) (σ : St) (H : Hp) (Q : Bool → Hp → Prop), Inv X pins σ H s → t σ H Q → wpAny (model X.prog X.w) X.A (isTrue e X.env whole) (TP X pins σ Q) X.xe s
theorem PW.pt {X : Cx} {e : Expr} {t : TT} (h : PW X e t) : PT X e t := h _
def PA (X : Cx) (es : List Expr) (t : TA) : Prop :=
  ∀ (pos : Pos) (pins : List (Addr × Obj)) (s : Shared) (σ : St) (H : Hp) (Q : List V → Hp → Prop), Inv X pins σ H s → t σ H Q → wpAny (model X.prog X.w) X.A (spliced (backTo pos (starEach es X.env))) (AP X pins σ Q) X.xe s
def PS (X : Cx) (st : Stmt) (t : TS) : Prop :=
  ∀ (pins : List (Addr × Obj)) (s : Shared) (σ : St) (H : Hp) (D : Ends), Inv X pins σ H s → t D σ H → wpAny (model X.prog X.w) X.A (exec st X.env) (SP X pins D) X.xe s
def PSs (X : Cx) (st : List Stmt) (t : TS) : Prop :=
  ∀ (pins : List (Addr × Obj)) (s : Shared) (σ : St) (H : Hp) (D : Ends), Inv X pins σ H s → t D σ H → wpAny (model X.prog X.w) X.A (execs st X.env) (SP X pins D) X.xe s
theorem thn {α : Type} {t : Sem α} {Q Q' : α → Shared → Prop} {M : Model} {A : Around} {E : Value → Shared → Prop} {s : Shared} (h : wpAny M A t Q E s) (hQ : ∀ a s, Q a s → Q' a s) : wpAny M A t Q' E s := wpAny_mono h hQ fun _ _ x => x
end L2
namespace L2
open PySem PySem.Spec PyProof.Rows
section
variable {X : Cx}
theorem bin {a b : Expr} {ta tb : TE} (ha : PE X a ta) (hb : PE X b tb) {pins : List (Addr × Obj)} {s : Shared} {σ : St} {H : Hp} {R : V → V → Hp → Prop} (I : Inv X pins σ H s) (h : ta σ H fun x H1 => tb σ H1 fun y H2 => R x y H2)
    {α : Type} {Q : α → Shared → Prop} {f : Value → Value → Sem α}
    (hf : ∀ v u s2 x y H2, Inv X pins σ H2 s2 → RelV x v → RelV y u → R x y H2 → wpAny (model X.prog X.w) X.A (f v u) Q X.xe s2) :
    wpAny (model X.prog X.w) X.A (eval a X.env) (fun v s₁ => wpAny (model X.prog X.w) X.A (eval b X.env) (fun u s₂ => wpAny (model X.prog X.w) X.A (f v u) Q X.xe s₂) X.xe s₁) X.xe s := by
  refine thn (ha pins s σ H _ I h) fun v s1 ⟨x, H1, I1, r1, q1⟩ => ?_
  refine thn (hb pins s1 σ H1 _ I1 q1) fun u s2 ⟨y, H2, I2, r2, q2⟩ => ?_
  exact hf v u s2 x y H2 I2 r1 r2 q2
def tVar (i : Nat) : TE := fun σ H Q => ∃ v, σ[i]? = some (some v) ∧ Q v H
def tC (v : V) : TE := fun _ H Q => Q v H
theorem pe_var {i : Nat} {x : Str} {pos : Pos} (hN : X.N[i]? = some x) (hv : Vis X.env.scope x) (hd : (x == ("__debug__" : Str)) = false := by decide) (hcd : (x == ("__classdict__" : Str)) = false := by decide) : PE X (.Name x pos) (tVar i) := by
  intro pins s σ H Q I h
  obtain ⟨v, e, h⟩ := h
  obtain ⟨m, hn, hl⟩ := I.loc
  obtain ⟨u, r, l⟩ := hl i x v hN e hv
  have fin : EP X pins σ Q u s := ⟨v, H, I, r, h⟩
  rcases l with ⟨hk, hm⟩ | ⟨hk, c, hc, hcell⟩
  · exact wpAny_Name (wpAny_loadName_local I.ok.kind hk hn hm fin) hd
  · rcases hk with hk | hk
    · exact wpAny_Name (wpAny_loadName_cell I.ok.kind hk hc hcell fin) hd
    · exact wpAny_Name (wpAny_loadName_free I.ok.kind hk hc hcell fin hcd) hd
theorem pe_int {i j pos} : PE X (.Constant (.int i) j pos) (tC (.int i)) := fun _ _ _ H _ I h => wpAny_Constant_int ⟨.int i, H, I.tok _, ⟨_, rfl⟩, h⟩
theorem pe_bl {b j pos} : PE X (.Constant (.bool b) j pos) (tC (.bl b)) := fun _ _ _ H _ I h => Constant_bool ⟨.bl b, H, I, rfl, h⟩
theorem pe_str {x j pos} : PE X (.Constant (.str x) j pos) (tC (.str x)) := fun _ _ _ H _ I h => Calls.Constant_str ⟨.str x, H, I.tok _, ⟨_, rfl⟩, h⟩
def Gl (X : Cx) (x : Str) : Prop := X.env.kindOf x = some .globalImplicit
theorem ld_glob {E : Value → Shared → Prop} {pins : List (Addr × Obj)} {s : Shared} {σ : St} {H : Hp} {x : Str} {u : Value} {pos : Pos} {Q : Value → Shared → Prop} (I : Inv X pins σ H s) (hg : Gl X x) (hm : X.mg x = some u) (h : Q u s)
    (hd : (x == ("__debug__" : Str)) = false := by decide) : wpAny (model X.prog X.w) X.A (eval (.Name x pos) X.env) Q E s :=
  Calls.Name_function_global I.ok.kind hg (Calls.loadGlobal_global (by rw [I.ok.glob]; exact I.mod.glob.keeps I.bk) hm h) hd
theorem ld_blt {E : Value → Shared → Prop} {pins : List (Addr × Obj)} {s : Shared} {σ : St} {H : Hp} {x : Str} {u : Value} {pos : Pos} {Q : Value → Shared → Prop} (I : Inv X pins σ H s) (hg : Gl X x) (hm : X.mg x = none) (hv : bootBuiltins x = some u) (h : Q u s)
    (hn : x ≠ "__name__" := by decide) (hd : (x == ("__debug__" : Str)) = false := by decide) : wpAny (model X.prog X.w) X.A (eval (.Name x pos) X.env) Q E s := by
  obtain ⟨mb, h1, h2⟩ := I.mod.blt
  exact Calls.Name_function_global I.ok.kind hg (Calls.loadGlobal_builtin (by rw [I.ok.glob]; exact I.mod.glob.keeps I.bk) hm (by rw [I.ok.blt]; exact h1.keeps I.bk) ((h2 x hn).trans hv) h) hd
theorem pe_bltn {x : Str} {v : V} {u : Value} {pos : Pos} (hg : Gl X x) (hm : X.mg x = none) (hv : bootBuiltins x = some u) (r : RelV v u) (hn : x ≠ "__name__" := by decide) (hd : (x == ("__debug__" : Str)) = false := by decide) : PE X (.Name x pos) (tC v) :=
  fun _ _ _ H _ I h => ld_blt I hg hm hv ⟨v, H, I, r, h⟩ hn hd
variable {a b : Expr} {ta tb : TE} {pos : Pos}
def PC (X : Cx) (op : CmpOp) (a b : Expr) (t : TE) : Prop :=
  ∀ (pins : List (Addr × Obj)) (s : Shared) (σ : St) (H : Hp) (Q : VK), Inv X pins σ H s → t σ H Q →
    wpAny (model X.prog X.w) X.A (eval a X.env) (fun v s₁ => wpAny (model X.prog X.w) X.A (eval b X.env) (fun u s₂ => wpAny (model X.prog X.w) X.A (compareOp op v u) (EP X pins σ Q) X.xe s₂) X.xe s₁) X.xe s
theorem nobehind (b : Expr) {op : CmpOp} (h : op ≠ .In) (h2 : op ≠ .NotIn) : behindInMarks op b = false := by
  have e1 : (op == CmpOp.In) = false := by cases op <;> first | rfl | exact absurd rfl h
  have e2 : (op == CmpOp.NotIn) = false := by cases op <;> first | rfl | exact absurd rfl h2
  cases b <;> simp [behindInMarks, e1, e2]
def tB (t : TE) : TT := fun σ H Q => t σ H fun x H1 => ∃ c, x = .bl c ∧ Q c H1
theorem pt_cmp {op : CmpOp} {t : TE} (h : PC X op a b t) (h1 : behindInMarks op b = false := by first | exact nobehind _ (by decide) (by decide) | rfl) : PT X (.Compare a [op] [b] pos) (tB t) := by
  intro pins s σ H Q I hw
  refine wpAny_isTrue_Compare1 (thn (h pins s σ H _ I hw) fun v s1 h1 => thn h1 fun u s2 h2 => thn h2 fun c s3 ⟨x, H1, I1, r1, q1⟩ => ?_) h1
  obtain ⟨d, rfl, q⟩ := q1
  cases r1
  exact wpAny_truthy_bool ⟨H1, I1, q⟩
theorem pt_val {e : Expr} {t : TE} (h : PE X e t) (he : ∀ whole, isTrue e X.env whole = (do let v ← whole; standAt e.pos; holding [v] (truthy v)) := by intro _; rfl) : PT X e (tB t) := by
  intro pins s σ H Q I hw
  refine isTrue_plain (thn (h pins s σ H _ I hw) fun v s1 ⟨x, H1, I1, r1, q1⟩ => ?_) (he _)
  obtain ⟨d, rfl, q⟩ := q1
  cases r1
  exact wpAny_truthy_bool ⟨H1, I1, q⟩
variable {tA tB' : TT} {rest : List Expr}
def tAnd (t u : TT) : TT := fun σ H Q => t σ H fun c H1 => if c = true then u σ H1 Q else Q false H1
def tOr (t u : TT) : TT := fun σ H Q => t σ H fun c H1 => if c = true then Q true H1 else u σ H1 Q
def tNot (t : TT) : TT := fun σ H Q => t σ H fun c H1 => Q (!c) H1
theorem pw_and1 (ha : PT X a tA) : PW X (.BoolOp .And [a] pos) tA := by
  intro wh pins s σ H Q I h
  refine isTrue_and (thn (ha pins s σ H Q I h) fun c s1 e => ?_)
  cases c with
  | true => exact isTrue_and_nil e
  | false => exact e
theorem pw_or1 (ha : PT X a tA) : PW X (.BoolOp .Or [a] pos) tA := by
  intro wh pins s σ H Q I h
  refine isTrue_or (thn (ha pins s σ H Q I h) fun c s1 e => ?_)
  cases c with
  | false => exact isTrue_or_nil e
  | true => exact e
theorem pw_and (ha : PT X a tA) (hb : PW X (.BoolOp .And (b :: rest) pos) tB') : PW X (.BoolOp .And (a :: b :: rest) pos) (tAnd tA tB') := by
  intro wh pins s σ H Q I h
  refine isTrue_and (thn (ha pins s σ H _ I h) fun c s1 ⟨H1, I1, q1⟩ => ?_)
  cases c with
  | true => exact hb wh pins s1 σ H1 Q I1 q1
  | false => exact ⟨H1, I1, q1⟩
theorem pw_or (ha : PT X a tA) (hb : PW X (.BoolOp .Or (b :: rest) pos) tB') : PW X (.BoolOp .Or (a :: b :: rest) pos) (tOr tA tB') := by
  intro wh pins s σ H Q I h
  refine isTrue_or (thn (ha pins s σ H _ I h) fun c s1 ⟨H1, I1, q1⟩ => ?_)
  cases c with
  | true => exact ⟨H1, I1, q1⟩
  | false => exact hb wh pins s1 σ H1 Q I1 q1
theorem pt_not (ha : PT X a tA) : PT X (.UnaryOp .Not a pos) (tNot tA) := by
  intro pins s σ H Q I h
  exact isTrue_not (ha pins s σ H (fun c H1 => Q (!c) H1) I h)
def tAndV (ta tb : TE) : TE := fun σ H Q => ta σ H fun x H1 => ∃ c, x = .bl c ∧ if c = true then tb σ H1 Q else Q (.bl false) H1
def tNotV (ta : TE) : TE := fun σ H Q => ta σ H fun x H1 => ∃ c, x = .bl c ∧ Q (.bl (!c)) H1
theorem pe_one {op} {t : TE} (h : PE X a t) : PE X (.BoolOp op [a] pos) t := fun pins s σ H Q I hw => BoolOp_one (h pins s σ H Q I hw)
theorem pe_and (ha : PE X a ta) (hb : PE X (.BoolOp .And (b :: rest) pos) tb) : PE X (.BoolOp .And (a :: b :: rest) pos) (tAndV ta tb) := by
  intro pins s σ H Q I h
  refine BoolOp_and (thn (ha pins s σ H _ I h) fun v s1 ⟨x, H1, I1, r1, q1⟩ => ?_)
  obtain ⟨c, rfl, q1⟩ := q1
  cases r1
  refine wpAny_truthy_bool ?_
  cases c with
  | true => exact hb pins s1 σ H1 Q I1 q1
  | false => exact ⟨.bl false, H1, I1, rfl, q1⟩
theorem pe_not (ha : PE X a ta) : PE X (.UnaryOp .Not a pos) (tNotV ta) := by
  intro pins s σ H Q I h
  refine UnaryOp_ (thn (ha pins s σ H _ I h) fun v s1 ⟨x, H1, I1, r1, q1⟩ => ?_)
  obtain ⟨c, rfl, q1⟩ := q1
  cases r1
  exact not_of (wpAny_truthy_bool ⟨.bl (!c), H1, I1, rfl, q1⟩)
def tIf (t : TT) (ta tb : TE) : TE := fun σ H Q => t σ H fun c H1 => if c = true then ta σ H1 Q else tb σ H1 Q
theorem pe_ifExp {c : Expr} (hc : PT X c tA) (ha : PE X a ta) (hb : PE X b tb) : PE X (.IfExp c a b pos) (tIf tA ta tb) := by
  intro pins s σ H Q I h
  refine wpAny_IfExp (thn (hc pins s σ H _ I h) fun d s1 ⟨H1, I1, q1⟩ => ?_)
  cases d with
  | true => exact ha pins s1 σ H1 Q I1 q1
  | false => exact hb pins s1 σ H1 Q I1 q1
end
end L2
namespace L2
open PySem PySem.Spec PyProof.Rows
def SqL (K : PySem.W.Frag) (H : Hp) (a : Addr) (xs : List V) : Prop :=
  Rd H a (.lst xs) ∨
    ∃ (o : Obj) (its : Array Value) (n : Nat), K.lookup a = some o ∧ o.cls = .type "list" ∧ o.dict = none ∧ o.data = .seq its n ∧ its.size ≤ sizeLine ∧ Vals xs its.toList
def SqT (K : PySem.W.Frag) (H : Hp) (a : Addr) (xs : List V) : Prop :=
  Rd H a (.tup xs) ∨
    ∃ (o : Obj) (its : Array Value) (n : Nat), K.lookup a = some o ∧ o.cls = .type "tuple" ∧ o.data = .seq its n ∧ its.size ≤ sizeLine ∧ Vals xs its.toList
def absV : Value → Option V
  | .none => some .non
  | .bool b => some (.bl b)
  | .int i _ => some (.int i)
  | .str x _ => some (.str x)
  | .bytes b _ => some (.byt b)
  | .float b _ => some (.flt b)
  | .ref a => some (.ref a)
  | .type n => some (.ty n)
  | _ => none
theorem RelV.abs {x : V} {u : Value} (r : RelV x u) : absV u = some x := by
  cases x with
  | non => cases r; rfl
  | bl _ => cases r; rfl
  | int _ => obtain ⟨t, rfl⟩ := r; rfl
  | str _ => obtain ⟨t, rfl⟩ := r; rfl
  | byt _ => obtain ⟨t, rfl⟩ := r; rfl
  | flt _ => obtain ⟨t, rfl⟩ := r; rfl
  | ref _ => cases r; rfl
  | ty _ => cases r; rfl
theorem RelV.inj {x y : V} {u : Value} (r : RelV x u) (q : RelV y u) : x = y := Option.some.inj (r.abs.symm.trans q.abs)
theorem Vals.inj : ∀ {xs ys : List V} {us : List Value}, Vals xs us → Vals ys us → xs = ys
  | _, _, _, .nil, .nil => rfl
  | _, _, _, .cons r t, .cons r' t' => by rw [r.inj r', Vals.inj t t']
section
variable {X : Cx} {pins : List (Addr × Obj)} {σ : St} {H : Hp} {s : Shared} {a : Addr} {xs ys : List V}
theorem SqL.of {K : PySem.W.Frag} (h : H a = some (.lst xs)) : SqL K H a xs := .inl (.inl h)
theorem SqT.of {K : PySem.W.Frag} (h : H a = some (.tup xs)) : SqT K H a xs := .inl (.inl h)
theorem Inv.list (I : Inv X pins σ H s) (h : SqL X.K H a xs) : ∃ its : List Value, Vals xs its ∧ PlainL s.heap a its.toArray ∧ xs.length ≤ sizeLine := by
  rcases h with h | ⟨o, its, n, hk, hc, hd, hs, hz, r⟩
  · obtain ⟨z, its, n, r, e⟩ := h.ok I.hok
    exact ⟨its, r, ⟨_, n, e, rfl, rfl, rfl⟩, z⟩
  · refine ⟨its.toList, r, ⟨o, n, I.kIn a o hk, hc, hd, by simpa using hs⟩, ?_⟩
    have e := r.length
    simp only [Array.length_toList] at e
    omega
theorem Inv.tuple (I : Inv X pins σ H s) (h : SqT X.K H a xs) : ∃ its : List Value, Vals xs its ∧ IsTup s.heap a its.toArray ∧ xs.length ≤ sizeLine := by
  rcases h with h | ⟨o, its, n, hk, hc, hs, hz, r⟩
  · obtain ⟨z, its, r, p⟩ := h.ok I.hok
    exact ⟨its, r, p, z⟩
  · refine ⟨its.toList, r, ⟨o, I.kIn a o hk, hc, n, by simpa using hs⟩, ?_⟩
    have e := r.length
    simp only [Array.length_toList] at e
    omega
theorem Inv.list_inj (I : Inv X pins σ H s) (h : SqL X.K H a xs) (h' : SqL X.K H a ys) : xs = ys := by
  obtain ⟨its, r, ⟨o, n, e, _, _, d⟩, _⟩ := I.list h
  obtain ⟨its', r', ⟨o', n', e', _, _, d'⟩, _⟩ := I.list h'
  rw [e] at e'; cases e'
  rw [d] at d'
  injection d' with d1 _
  have : its = its' := by simpa using congrArg Array.toList d1
  subst this
  exact r.inj r'
theorem Inv.tuple_inj (I : Inv X pins σ H s) (h : SqT X.K H a xs) (h' : SqT X.K H a ys) : xs = ys := by
  obtain ⟨its, r, ⟨o, e, _, n, d⟩, _⟩ := I.tuple h
  obtain ⟨its', r', ⟨o', e', _, n', d'⟩, _⟩ := I.tuple h'
  rw [e] at e'; cases e'
  rw [d] at d'
  injection d' with d1 _
  have : its = its' := by simpa using congrArg Array.toList d1
  subst this
  exact r.inj r'
end
abbrev Cx.wish (X : Cx) (E : Value → Shared → Prop) : Cx := { X with xe := E }
abbrev Cx.nox (X : Cx) : Cx := X.wish fun _ _ => False
theorem Cx.Ok.wish {X : Cx} (ok : X.Ok) (E : Value → Shared → Prop) : (X.wish E).Ok :=
  ⟨ok.mod, ok.kind, ok.glob, ok.blt, ok.above, ok.inj, ok.has, ok.cab, ok.hd, ok.frames, ok.stk, ok.exf, ok.bs, ok.bsz, ok.noex, ok.exfs, ok.funs, ok.frf⟩
theorem Cx.Ok.unwish {X : Cx} {E : Value → Shared → Prop} (ok : (X.wish E).Ok) : X.Ok :=
  ⟨ok.mod, ok.kind, ok.glob, ok.blt, ok.above, ok.inj, ok.has, ok.cab, ok.hd, ok.frames, ok.stk, ok.exf, ok.bs, ok.bsz, ok.noex, ok.exfs, ok.funs, ok.frf⟩
section
variable {X : Cx} {pins : List (Addr × Obj)} {σ : St} {H : Hp} {s : Shared} {E : Value → Shared → Prop}
theorem Inv.wish (I : Inv X pins σ H s) (E : Value → Shared → Prop) : Inv (X.wish E) pins σ H s := ⟨I.ok.wish E, I.os, I.bare, I.base, I.loc, I.cell, I.free, I.freeC, I.pin, I.hok, I.len⟩
theorem Inv.unwish (I : Inv (X.wish E) pins σ H s) : Inv X pins σ H s := ⟨I.ok.unwish, I.os, I.bare, I.base, I.loc, I.cell, I.free, I.freeC, I.pin, I.hok, I.len⟩
theorem SP.unwish {D : Ends} {f : Flow} {s' : Shared} (h : SP (X.wish E) pins D f s') : SP X pins D f s' := by
  cases f with
  | next => obtain ⟨σ', H', I, q⟩ := h; exact ⟨σ', H', I.unwish, q⟩
  | brk => obtain ⟨σ', H', I, q⟩ := h; exact ⟨σ', H', I.unwish, q⟩
  | cont => obtain ⟨σ', H', I, q⟩ := h; exact ⟨σ', H', I.unwish, q⟩
  | ret u => obtain ⟨v, σ', H', I, r, q⟩ := h; exact ⟨v, σ', H', I.unwish, r, q⟩
theorem PE.nox {e : Expr} {t : TE} (h : PE X.nox e t) : PE X e t := fun pins s σ H Q I hw =>
  wpAny_mono (h pins s σ H Q (I.wish _) hw) (fun _ _ ⟨v, H', I', r, q⟩ => ⟨v, H', I'.unwish, r, q⟩) fun _ _ z => False.elim z
theorem PT.nox {e : Expr} {t : TT} (h : PT X.nox e t) : PT X e t := fun pins s σ H Q I hw =>
  wpAny_mono (h pins s σ H Q (I.wish _) hw) (fun _ _ ⟨H', I', q⟩ => ⟨H', I'.unwish, q⟩) fun _ _ z => False.elim z
theorem PSs.nox {st : List Stmt} {t : TS} (h : PSs X.nox st t) : PSs X st t := fun pins s σ H D I hw =>
  wpAny_mono (h pins s σ H D (I.wish _) hw) (fun _ _ q => q.unwish) fun _ _ z => False.elim z
end
section
variable {X : Cx} {st : Stmt} {rest : List Stmt} {t u : TS} {e : Expr} {te : TE} {pos : Pos}
def tNext : TS := fun D σ H => D.nx σ H
def tSeq (t u : TS) : TS := fun D σ H => t { D with nx := u D } σ H
theorem pss_nil : PSs X [] tNext := fun _ _ σ H _ I h => wpAny_execs_nil ⟨σ, H, I, h⟩
theorem pss_cons (h1 : PS X st t) (h2 : PSs X rest u) : PSs X (st :: rest) (tSeq t u) := by
  intro pins s σ H D I h
  refine wpAny_execs_cons (thn (h1 pins s σ H { D with nx := u D } I h) fun f s1 q => ?_)
  cases f with
  | next =>
    obtain ⟨σ', H', I', q⟩ := q
    exact h2 pins s1 σ' H' D I' q
  | ret v => exact q
  | brk => exact q
  | cont => exact q
theorem pss_one (h1 : PS X st t) : PSs X [st] t := by
  intro pins s σ H D I h
  refine wpAny_execs_cons (thn (h1 pins s σ H D I h) fun f s1 q => ?_)
  cases f with
  | next => exact wpAny_execs_nil q
  | ret v => exact q
  | brk => exact q
  | cont => exact q
theorem Inv.quiet {pins : List (Addr × Obj)} {σ : St} {H : Hp} {s : Shared} (I : Inv X pins σ H s) : interactive X.env = false := by simp [interactive, I.ok.kind]
def tDrop (te : TE) : TS := fun D σ H => te σ H fun _ H1 => D.nx σ H1
theorem ps_expr (he : PE X e te) (hs : swapsWith e none pos.line X.env = pure false := by rfl) : PS X (.Expr e pos) (tDrop te) := by
  intro pins s σ H D I h
  exact wpAny_Expr_any (thn (he pins s σ H _ I h) fun v s1 ⟨x, H1, I1, r1, q1⟩ => ⟨σ, H1, I1, q1⟩) I.quiet hs
def tRet (te : TE) : TS := fun D σ H => te σ H D.rt
theorem ps_ret (he : PE X e te) : PS X (.Return (some e) pos) (tRet te) := by
  intro pins s σ H D I h
  exact wpAny_Return_some (thn (he pins s σ H _ I h) fun v s1 ⟨x, H1, I1, r1, q1⟩ => ⟨x, σ, H1, I1, r1, q1⟩)
def tIfS (c : TT) (t u : TS) : TS := fun D σ H => c σ H fun b H1 => if b = true then t D σ H1 else u D σ H1
theorem ps_if {c : Expr} {a b : List Stmt} {tc : TT} (hc : PT X c tc) (ha : PSs X a t) (hb : PSs X b u) : PS X (.If c a b pos) (tIfS tc t u) := by
  intro pins s σ H D I h
  refine wpAny_If (thn (hc pins s σ H _ I h) fun d s1 ⟨H1, I1, q1⟩ => ?_)
  cases d with
  | true => exact ha pins s1 σ H1 D I1 q1
  | false => exact hb pins s1 σ H1 D I1 q1
def tNever : TS := fun _ _ _ => False
theorem pss_never {sts : List Stmt} : PSs X sts tNever := fun _ _ _ _ _ _ h => h.elim
end
abbrev TG := V → St → Hp → (St → Hp → Prop) → Prop
def PG (X : Cx) (target : Expr) (t : TG) : Prop :=
  ∀ (pins : List (Addr × Obj)) (s : Shared) (σ : St) (H : Hp) (v : V) (u : Value) (Q : St → Hp → Prop), Inv X pins σ H s → RelV v u → t v σ H Q →
    wpAny (model X.prog X.w) X.A (assign target X.env u) (fun _ s' => ∃ σ' H', Inv X pins σ' H' s' ∧ Q σ' H') X.xe s
section
variable {X : Cx} {pos : Pos}
def gName (i : Nat) : TG := fun v σ H Q => Q (σ.set i (some v)) H
theorem pg_name {i : Nat} {x : Str} (hN : X.N.Nodup) (hi : X.N[i]? = some x) (hx : Loc X.env.scope x) (hf : X.fn x = true ∨ X.env.scope.names.lookup x = some .local := by first | exact .inl rfl | exact .inr rfl | assumption) : PG X (.Name x pos) (gName i) := by
  intro pins s σ H v u Q I r h
  exact wpAny_assign_Name (store_ok I hN hi hx r (fun s' I' => ⟨_, H, I', h⟩) hf)
def tAsg (te : TE) (g : TG) : TS := fun D σ H => te σ H fun x H1 => g x σ H1 D.nx
theorem ps_set {i : Nat} {x : Str} {e : Expr} {te : TE} {pos' : Pos} (hN : X.N.Nodup) (hi : X.N[i]? = some x) (hx : Loc X.env.scope x) (he : PE X e te) (hs : swapsWith e (some (.Name x pos')) pos.line X.env = pure false := by rfl) (hf : X.fn x = true ∨ X.env.scope.names.lookup x = some .local := by first | exact .inl rfl | exact .inr rfl | assumption) :
    PS X (.Assign [.Name x pos'] e pos) (tAsg te (gName i)) := by
  intro pins s σ H D I h
  refine wpAny_Assign_Name (thn (he pins s σ H _ I h) fun v s1 ⟨y, H1, I1, r1, q1⟩ => ?_) hs
  exact store_ok I1 hN hi hx r1 (fun s2 I2 => ⟨_, H1, I2, q1⟩) hf
end
section
variable {X : Cx} {pos : Pos}
def tWhile (c : TT) (tb : TS) : TS := fun D σ H => ∃ W : Nat → St → Hp → Prop, (∃ m, W m σ H) ∧ ∀ m σ H, W m σ H →
  c σ H fun b H1 => if b = true then ∃ N : St → Hp → Prop, (∀ σ' H', N σ' H' → ∃ m', m' < m ∧ W m' σ' H') ∧ tb { D with nx := N, ct := N, bk := D.nx } σ H1 else D.nx σ H1
theorem ps_while {c : Expr} {body : List Stmt} {tc : TT} {tb : TS} (hp : PassesOwn (model X.prog X.w) X.A X.env X.xe) (hc : PT X c tc) (hb : PSs X body tb) : PS X (.While c body [] pos) (tWhile tc tb) := by
  intro pins s σ H D I h
  obtain ⟨W, ⟨m0, w0⟩, turn⟩ := h
  refine wpAny_While (codeAny_whileLoop (fun n s' => ∃ σ' H', Inv X pins σ' H' s' ∧ W n σ' H') ?_ m0 ⟨σ, H, I, w0⟩)
  rintro n s1 ⟨σ1, H1, I1, w1⟩
  refine wpAny_passesOwn hp (thn (hc pins s1 σ1 H1 _ I1 (turn n σ1 H1 w1)) fun b s2 ⟨H2, I2, q2⟩ => ?_)
  cases b with
  | true =>
    obtain ⟨N, hN, q2⟩ := q2
    rw [if_pos rfl]
    refine wpAny_passesOwn hp (thn (hb pins s2 σ1 H2 _ I2 q2) fun f s3 q3 => ?_)
    cases f with
    | next =>
      obtain ⟨σ3, H3, I3, n3⟩ := q3
      obtain ⟨m', hm, w3⟩ := hN σ3 H3 n3
      exact ⟨m', hm, σ3, H3, I3, w3⟩
    | cont =>
      obtain ⟨σ3, H3, I3, n3⟩ := q3
      obtain ⟨m', hm, w3⟩ := hN σ3 H3 n3
      exact ⟨m', hm, σ3, H3, I3, w3⟩
    | brk => exact q3
    | ret v => exact q3
  | false =>
    rw [if_neg Bool.false_ne_true]
    exact wpAny_execs_nil ⟨σ1, H2, I2, q2⟩
end
structure It where
  go : Nat → Hp → Prop
  yld : Nat → Hp → V → Hp → Prop
  stop : Nat → Hp → Prop
def FpOk (X : Cx) (pins : List (Addr × Obj)) (H : Hp) (b : Addr) : Prop :=
  H b = none ∧ b ≠ X.env.locals ∧ b ∉ X.fs ∧ (b ∈ X.ex ∨ X.s₀.heap.objs.size ≤ b) ∧ (∀ x c, X.env.cells.lookup x = some c → c ≠ b) ∧ ∀ p ∈ X.pn ++ pins, p.1 ≠ b
theorem Inv.fpOk {X : Cx} {pins : List (Addr × Obj)} {σ : St} {H H' : Hp} {s : Shared} {b : Addr} (I : Inv X pins σ H s) (hb : s.heap.objs.size ≤ b) (hn : H' b = none) : FpOk X pins H' b := by
  refine ⟨hn, Nat.ne_of_gt (Nat.lt_of_lt_of_le I.lt hb), I.nofs hb, .inr (Nat.le_trans I.sz hb), fun x c e z => ?_, fun p hp z => ?_⟩
  · obtain ⟨v, q⟩ := I.cell x c e
    exact absurd (Nat.lt_of_lt_of_le q.lt (by rw [z]; exact hb)) (Nat.lt_irrefl _)
  · exact absurd (Nat.lt_of_lt_of_le (Heap.lt_size (I.pin p hp).1) (by rw [z]; exact hb)) (Nat.lt_irrefl _)
structure Turn (P : Program) (w : World) (K : PySem.W.Frag) (tg : Expr) (J : It) (fp : List Addr) (it : Addr) (tn : Nat → Heap → Prop) : Prop where
  mem : it ∈ fp
  obj : ∀ i h, tn i h → ∀ b ∈ fp, ∃ o, h.get? b = some o ∧ ∀ v, o.data ≠ .cell v
  keep : ∀ i h h', tn i h → (∀ b ∈ fp, ∀ o, h.get? b = some o → h'.get? b = some o) → tn i h'
  item : ∀ (X : Cx), X.prog = P → X.w = w → X.K = K → X.calm = true → ∀ (i : Nat) (pins : List (Addr × Obj)) (s : Shared) (σ : St) (H : Hp) (E : Value → Shared → Prop), Inv X pins σ H s → (∀ b ∈ fp, FpOk X pins H b) → tn i s.heap → J.go i H →
    wpAny (model P w) X.A (pyNext (.ref it)) (fun r s1 => ∃ u, r = some u ∧
      wpAny (model P w) X.A (letOwnedTupleGo tg (.ref it) u) (fun _ s2 => ∃ x H', Inv X pins σ H' s2 ∧ RelV x u ∧ J.yld i H x H' ∧ tn (i + 1) s2.heap ∧ ∀ b ∈ fp, H' b = none) E s1) E s
  done : ∀ (X : Cx), X.prog = P → X.w = w → X.K = K → X.calm = true → ∀ (i : Nat) (pins : List (Addr × Obj)) (s : Shared) (σ : St) (H : Hp) (E : Value → Shared → Prop), Inv X pins σ H s → (∀ b ∈ fp, FpOk X pins H b) → tn i s.heap → J.stop i H →
    wpAny (model P w) X.A (pyNext (.ref it)) (fun r s1 => r = none ∧ Inv X pins σ H s1) E s
  self : ∀ (A : Around) (i : Nat) (s : Shared) (Q : Value → Shared → Prop) (E : Value → Shared → Prop), tn i s.heap → Q (.ref it) s → wpAny (model P w) A (pyIter (.ref it)) Q E s
abbrev TI := St → Hp → (It → Hp → Prop) → Prop
def PIE (X : Cx) (pins : List (Addr × Obj)) (σ : St) (tg : Expr) (R : It → Hp → Prop) (itv : Value) (s2 : Shared) : Prop :=
  ∃ (it : Addr) (fp : List Addr) (tn : Nat → Heap → Prop) (J : It) (H' : Hp), itv = .ref it ∧ Inv X pins σ H' s2 ∧ Turn X.prog X.w X.K tg J fp it tn ∧ tn 0 s2.heap ∧ (∀ b ∈ fp, FpOk X pins H' b) ∧ R J H'
def PI (X : Cx) (tg iter : Expr) (wi : TI) : Prop :=
  ∀ (pins : List (Addr × Obj)) (s : Shared) (σ : St) (H : Hp) (R : It → Hp → Prop), Inv X pins σ H s → wi σ H R →
    wpAny (model X.prog X.w) X.A (eval iter X.env) (fun v s1 => wpAny (model X.prog X.w) X.A (pyIter v) (PIE X pins σ tg R) X.xe s1) X.xe s
theorem go_of {M : Model} {A : Around} {E : Value → Shared → Prop} {s : Shared} {tg : Expr} {it : Addr} {u : Value} {o : Obj} {n : String} {vs : Array Value} {Q : Unit → Shared → Prop} (ho : s.heap.get? it = some o) (hc : o.cls = .type n) (hd : o.data = .fields vs)
    (hn : ["enumerate", "zip", "dict_itemiterator", "dict_reverseitemiterator", "odict_iterator", "itertools.zip_longest", "itertools.pairwise"].contains n = false) (hQ : Q () s) : wpAny M A (letOwnedTupleGo tg (.ref it) u) Q E s := by
  unfold letOwnedTupleGo
  cases tg <;> first
    | exact wpAny_pure hQ
    | (cases u <;> first
        | exact wpAny_pure hQ
        | (refine wpAny_bind (wpAny_load ho ?_)
           rw [hc, hd]
           show wpAny M A (if (["enumerate", "zip", "dict_itemiterator", "dict_reverseitemiterator", "odict_iterator", "itertools.zip_longest", "itertools.pairwise"].contains n && vs[0]? == some (rawInt _)) = true then _ else _) Q E s
           rw [if_neg (by intro h; rw [hn, Bool.false_and] at h; cases h)]
           exact wpAny_pure hQ))
def Itl (K : PySem.W.Frag) (a : Addr) : It :=
  ⟨fun i H => ∃ xs x, SqL K H a xs ∧ xs[i]? = some x, fun i H x H' => H' = H ∧ ∀ xs, SqL K H a xs → xs[i]? = some x, fun i H => ∃ xs, SqL K H a xs ∧ xs.length ≤ i⟩
def Itt (K : PySem.W.Frag) (a : Addr) : It :=
  ⟨fun i H => ∃ xs x, SqT K H a xs ∧ xs[i]? = some x, fun i H x H' => H' = H ∧ ∀ xs, SqT K H a xs → xs[i]? = some x, fun i H => ∃ xs, SqT K H a xs ∧ xs.length ≤ i⟩
def Itr (lo : Int) (n : Nat) : It := ⟨fun i _ => i < n, fun i H x H' => H' = H ∧ x = .int (lo + i), fun i _ => n ≤ i⟩
theorem turn_list {P : Program} {w : World} {K : PySem.W.Frag} {tg : Expr} (a it : Addr) : Turn P w K tg (Itl K a) [it] it (fun i h => h.IsListIter it a i) where
  mem := by simp
  obj := fun i h st b hb => by
    have e : b = it := by simpa using hb
    subst e
    obtain ⟨o, e, c, d⟩ := st
    exact ⟨o, e, fun v z => by rw [d] at z; cases z⟩
  keep := fun i h h' st k => st.at fun o e => k it (by simp) o e
  item := by
    intro X hP hw hK hc i pins s σ H E I hf st hg
    subst hP hw hK
    obtain ⟨xs, x, hq, hx⟩ := hg
    obtain ⟨its, rv, p, hz⟩ := I.list hq
    obtain ⟨u, hu, ru⟩ := rv.get hx
    obtain ⟨f0, f1, f2, f3, f4, f5⟩ := hf it (by simp)
    refine wpAny_pyNext_list_item st p.isList (x := u) (by simpa using hu) fun h' st' sb => ?_
    have I1 : Inv X pins σ H { s with heap := h' } := I.turned (t' := s.toks) (fun b o hb e => (sb.2 b hb).trans e) f0 f1 f3 f4 f5
    obtain ⟨o, e, c, d⟩ := id st'
    exact ⟨u, rfl, go_of (s := { s with heap := h' }) e c d (by decide) ⟨x, H, I1, ru, ⟨rfl, fun ys hy => by rw [I.list_inj hy hq]; exact hx⟩, st', fun b hb => (hf b hb).1⟩⟩
  done := by
    intro X hP hw hK hc i pins s σ H E I hf st hg
    subst hP hw hK
    obtain ⟨xs, hq, hx⟩ := hg
    obtain ⟨its, rv, p, hz⟩ := I.list hq
    obtain ⟨f0, f1, f2, f3, f4, f5⟩ := hf it (by simp)
    have hl := rv.length
    exact wpAny_pyNext_list_end (I.ok.hd hc) st p.isList (by simp; omega) fun h' eb => ⟨rfl, I.turned (t' := s.toks) (fun b o hb e => eb b o hb e) f0 f1 f3 f4 f5⟩
  self := fun _ _ _ _ _ st h => wpAny_pyIter_listiter st h
theorem turn_tuple {P : Program} {w : World} {K : PySem.W.Frag} {tg : Expr} (a it : Addr) : Turn P w K tg (Itt K a) [it] it (fun i h => h.IsTupleIter it a i) where
  mem := by simp
  obj := fun i h st b hb => by
    have e : b = it := by simpa using hb
    subst e
    obtain ⟨o, e, c, d⟩ := st
    exact ⟨o, e, fun v z => by rw [d] at z; cases z⟩
  keep := fun i h h' st k => st.at fun o e => k it (by simp) o e
  item := by
    intro X hP hw hK hc i pins s σ H E I hf st hg
    subst hP hw hK
    obtain ⟨xs, x, hq, hx⟩ := hg
    obtain ⟨its, rv, p, hz⟩ := I.tuple hq
    obtain ⟨u, hu, ru⟩ := rv.get hx
    obtain ⟨f0, f1, f2, f3, f4, f5⟩ := hf it (by simp)
    refine wpAny_pyNext_tuple_item st (show s.heap.IsTuple a its.toArray from p) (x := u) (by simpa using hu) fun h' st' sb => ?_
    have I1 : Inv X pins σ H { s with heap := h' } := I.turned (t' := s.toks) (fun b o hb e => (sb.2 b hb).trans e) f0 f1 f3 f4 f5
    obtain ⟨o, e, c, d⟩ := id st'
    exact ⟨u, rfl, go_of (s := { s with heap := h' }) e c d (by decide) ⟨x, H, I1, ru, ⟨rfl, fun ys hy => by rw [I.tuple_inj hy hq]; exact hx⟩, st', fun b hb => (hf b hb).1⟩⟩
  done := by
    intro X hP hw hK hc i pins s σ H E I hf st hg
    subst hP hw hK
    obtain ⟨xs, hq, hx⟩ := hg
    obtain ⟨its, rv, p, hz⟩ := I.tuple hq
    obtain ⟨f0, f1, f2, f3, f4, f5⟩ := hf it (by simp)
    have hl := rv.length
    exact wpAny_pyNext_tuple_end (I.ok.hd hc) st (show s.heap.IsTuple a its.toArray from p) (by simp; omega) fun h' eb => ⟨rfl, I.turned (t' := s.toks) (fun b o hb e => eb b o hb e) f0 f1 f3 f4 f5⟩
  self := fun _ _ _ _ _ st h => wpAny_pyIter_tupleiter st h
theorem turn_range {P : Program} {w : World} {K : PySem.W.Frag} {tg : Expr} (it : Addr) (lo : Int) (n : Nat) : Turn P w K tg (Itr lo n) [it] it (fun i h => IsRangeIter h it (lo + (i : Nat) * 1) ((n : Int) - (i : Nat)) 1) where
  mem := by simp
  obj := fun i h st b hb => by
    have e : b = it := by simpa using hb
    subst e
    exact ⟨_, st, fun v z => by
      have z' : Data.fields _ = Data.cell v := z
      cases z'⟩
  keep := fun i h h' st k => k it (by simp) _ st
  item := by
    intro X hP hw hK hc i pins s σ H E I hf st hg
    subst hP hw hK
    obtain ⟨f0, f1, f2, f3, f4, f5⟩ := hf it (by simp)
    have W := Walks.range (prog := X.prog) (w := X.w) (I.ok.hd hc) it lo 1 n
    refine W.item i s _ _ hg st fun v h' tk hv st' kk => ?_
    obtain ⟨t, rfl⟩ := hv
    have I1 : Inv X pins σ H { s with heap := h', toks := tk } := I.turned (fun b o hb e => kk b o (by simpa using hb) e) f0 f1 f3 f4 f5
    refine ⟨_, rfl, go_of (s := { s with heap := h', toks := tk }) (n := "range_iterator") st' rfl rfl (by decide) ⟨.int (lo + i), H, I1, ⟨t, ?_⟩, ⟨rfl, rfl⟩, st', fun b hb => (hf b hb).1⟩⟩
    rw [Int.mul_one]
  done := by
    intro X hP hw hK hc i pins s σ H E I hf st hg
    subst hP hw hK
    obtain ⟨f0, f1, f2, f3, f4, f5⟩ := hf it (by simp)
    exact wpAny_pyNext_range_end (I.ok.hd hc) st (by have : n ≤ i := hg; omega) fun h' eb => ⟨rfl, I.turned (t' := s.toks) (fun b o hb e => eb b o hb e) f0 f1 f3 f4 f5⟩
  self := fun _ _ _ _ _ st h => wpAny_pyIter_rangeiter st h
end L2
namespace L2
open PySem PySem.Spec PyProof.Rows
section
variable {X : Cx} {tg : Expr}
def iList (K : PySem.W.Frag) (tl : TE) : TI := fun σ H R => tl σ H fun x H1 => ∃ a, x = .ref a ∧ (∃ xs, SqL K H1 a xs) ∧ R (Itl K a) H1
def iTup (K : PySem.W.Frag) (tl : TE) : TI := fun σ H R => tl σ H fun x H1 => ∃ a, x = .ref a ∧ (∃ xs, SqT K H1 a xs) ∧ R (Itt K a) H1
theorem pi_list {l : Expr} {tl : TE} (hl : PE X l tl) : PI X tg l (iList X.K tl) := by
  intro pins s σ H R I h
  refine thn (hl pins s σ H _ I h) fun v s1 ⟨x, H1, I1, r1, q1⟩ => ?_
  obtain ⟨a, e, ⟨xs, hq⟩, q⟩ := q1
  subst e
  cases r1
  obtain ⟨its, rv, p, hz⟩ := I1.list hq
  refine wpAny_pyIter_list p.isList ?_
  refine ⟨s1.heap.objs.size, [s1.heap.objs.size], _, _, H1, rfl, I1.kept (t' := s1.toks) fun b o e => Heap.get?_push_of_some _ e, turn_list a _, ⟨_, Heap.get?_push_size _ rfl, rfl, rfl⟩, fun b hb => ?_, q⟩
  have e : b = s1.heap.objs.size := by simpa using hb
  subst e
  exact I1.fpOk (Nat.le_refl _) (I1.hok.fresh (Nat.le_refl _))
theorem pi_tup {l : Expr} {tl : TE} (hl : PE X l tl) : PI X tg l (iTup X.K tl) := by
  intro pins s σ H R I h
  refine thn (hl pins s σ H _ I h) fun v s1 ⟨x, H1, I1, r1, q1⟩ => ?_
  obtain ⟨a, e, ⟨xs, hq⟩, q⟩ := q1
  subst e
  cases r1
  obtain ⟨its, rv, p, hz⟩ := I1.tuple hq
  refine wpAny_pyIter_tuple (show s1.heap.IsTuple a its.toArray from p) ?_
  refine ⟨s1.heap.objs.size, [s1.heap.objs.size], _, _, H1, rfl, I1.kept (t' := s1.toks) fun b o e => Heap.get?_push_of_some _ e, turn_tuple a _, ⟨_, Heap.get?_push_size _ rfl, rfl, rfl⟩, fun b hb => ?_, q⟩
  have e : b = s1.heap.objs.size := by simpa using hb
  subst e
  exact I1.fpOk (Nat.le_refl _) (I1.hok.fresh (Nat.le_refl _))
theorem range_it {pins : List (Addr × Obj)} {σ : St} {H : Hp} {s : Shared} {R : It → Hp → Prop} {E : Value → Shared → Prop} {lo hi : Int} {t u v : Tok} {tk : Nat} (I : Inv X pins σ H s) (h1 : -(2 ^ 62) ≤ lo) (h2 : lo < 2 ^ 62) (h3 : -(2 ^ 62) ≤ hi) (h4 : hi < 2 ^ 62)
    (q : R (Itr lo (hi - lo).toNat) H) : wpAny (model X.prog X.w) X.A (pyIter (.ref s.heap.objs.size)) (PIE X pins σ tg R) E { s with heap := s.heap.push { cls := .type "range", data := .fields #[.int lo t, .int hi u, .int 1 v] }, toks := tk } := by
  refine wpAny_pyIter_range (IsRange.new ..) (small_one h1 h2 h3 h4) ?_
  have I1 : Inv X pins σ H { s with heap := s.heap.push { cls := .type "range", data := .fields #[.int lo t, .int hi u, .int 1 v] }, toks := tk } := I.kept fun b o e => Heap.get?_push_of_some _ e
  refine ⟨(s.heap.push { cls := .type "range", data := .fields #[.int lo t, .int hi u, .int 1 v] }).objs.size, [(s.heap.push { cls := .type "range", data := .fields #[.int lo t, .int hi u, .int 1 v] }).objs.size], _, _, H, rfl,
    I1.kept (t' := tk) fun b o e => Heap.get?_push_of_some _ e, turn_range _ lo (hi - lo).toNat, ?_, fun b hb => ?_, q⟩
  · have e1 : lo + ((0 : Nat) : Int) * 1 = lo := by simp
    have e2 : (((hi - lo).toNat : Nat) : Int) - ((0 : Nat) : Int) = Builtin.Range.rangeSize lo hi 1 := by rw [rangeSize_one]; split <;> omega
    show IsRangeIter _ _ (lo + ((0 : Nat) : Int) * 1) ((((hi - lo).toNat : Nat) : Int) - ((0 : Nat) : Int)) 1
    rw [e1, e2]
    exact Heap.get?_push_size _ rfl
  · have e : b = (s.heap.push { cls := .type "range", data := .fields #[.int lo t, .int hi u, .int 1 v] }).objs.size := by simpa using hb
    subst e
    exact I1.fpOk (Nat.le_refl _) (I1.hok.fresh (Nat.le_refl _))
def iRng1 (ta : TA) : TI := fun σ H R => ta σ H fun vs H1 => ∃ j : Int, vs = [.int j] ∧ -(2 ^ 62) ≤ j ∧ j < 2 ^ 62 ∧ R (Itr 0 j.toNat) H1
theorem pi_range1 {a : Expr} {ta : TA} {p pos : Pos} (hg : Gl X "range") (hm : X.mg "range" = none) (ha : PA X [a] ta) (hs : starEach [a] X.env = [(false, eval a X.env)] := by rfl) : PI X tg (.Call (.Name "range" p) [a] [] pos) (iRng1 ta) := by
  intro pins s σ H R I h
  refine Call_ (ld_blt I hg hm boot_range (PyProof.Rows.callWith_type1 (thn (ha pos pins s σ H _ I h) fun us s1 ⟨vs, H1, I1, r1, q1⟩ => ?_) hs rfl))
  obtain ⟨j, e, q1, q2, q⟩ := q1
  subst e
  cases r1 with
  | cons r rr =>
    cases rr
    obtain ⟨t, rfl⟩ := r
    exact call_range_1 (range_it I1 (by omega) (by omega) q1 q2 (by simpa using q))
def tFor (wi : TI) (g : TG) (tb : TS) : TS := fun D σ H => wi σ H fun J H1 => ∃ W : Nat → Nat → St → Hp → Prop, (∃ m, W 0 m σ H1) ∧ ∀ i m σ H, W i m σ H →
  (J.stop i H ∧ D.nx σ H) ∨ (J.go i H ∧ ∃ N : St → Hp → Prop, (∀ σ' H', N σ' H' → ∃ m', m' < m ∧ W (i + 1) m' σ' H') ∧ ∀ x H', J.yld i H x H' → g x σ H' fun σ2 H2 => tb { D with nx := N, ct := N, bk := D.nx } σ2 H2)
def pinsAt (fp : List Addr) (h : Heap) : List (Addr × Obj) := fp.filterMap fun b => (h.get? b).map fun o => (b, o)
theorem mem_pinsAt {fp : List Addr} {h : Heap} {b : Addr} {o : Obj} (hb : b ∈ fp) (e : h.get? b = some o) : (b, o) ∈ pinsAt fp h := List.mem_filterMap.mpr ⟨b, hb, by rw [e]; rfl⟩
theorem of_pinsAt {fp : List Addr} {h : Heap} {p : Addr × Obj} (hp : p ∈ pinsAt fp h) : p.1 ∈ fp ∧ h.get? p.1 = some p.2 := by
  obtain ⟨b, hb, e⟩ := List.mem_filterMap.mp hp
  cases q : h.get? b with
  | none => rw [q] at e; cases e
  | some o =>
    rw [q] at e
    have e' : (b, o) = p := Option.some.inj e
    subst e'
    exact ⟨hb, q⟩
theorem Inv.pinned {pins : List (Addr × Obj)} {σ : St} {H : Hp} {s : Shared} {fp : List Addr} (I : Inv X pins σ H s) (hf : ∀ b ∈ fp, FpOk X pins H b) (ho : ∀ b ∈ fp, ∃ o, s.heap.get? b = some o ∧ ∀ v, o.data ≠ .cell v) : Inv X (pins ++ pinsAt fp s.heap) σ H s :=
  I.pins_of fun p hp => (List.mem_append.mp hp).elim (fun z => I.pin p (List.mem_append_right _ z)) fun z => by
    obtain ⟨hb, e⟩ := of_pinsAt z
    obtain ⟨f0, f1, f2, _⟩ := hf p.1 hb
    obtain ⟨o, e', d⟩ := ho p.1 hb
    rw [e] at e'; cases e'
    exact ⟨e, f0, f1, f2, d⟩
theorem Inv.unpinned {pins pl : List (Addr × Obj)} {σ : St} {H : Hp} {s : Shared} (I : Inv X (pins ++ pl) σ H s) : Inv X pins σ H s := I.pins_of fun p hp => I.pin p (List.mem_append_right _ (List.mem_append_left _ hp))
theorem ps_for {iter : Expr} {body : List Stmt} {wi : TI} {g : TG} {tb : TS} {pos : Pos} (hp : PassesOwn (model X.prog X.w) X.A X.env X.xe) (hc : X.calm = true) (hi : PI X tg iter wi) (hg : PG X tg g) (hb : PSs X body tb)
    (hs : ∀ x, foldedSetIterable iter X.env x = pure x := by intro _; rfl) : PS X (.For tg iter body [] pos) (tFor wi g tb) := by
  intro pins s σ H D I h
  refine wpAny_For (thn (hi pins s σ H _ I h) fun v s1 h1 => thn h1 fun itv s2 h2 => ?_) hs
  obtain ⟨it, fp, tn, J, H2, e, I2, T, st2, f2, W, ⟨m0, w0⟩, turn⟩ := h2
  subst e
  -- what stays true of the iterator's objects through the loop
  have stat : ∀ {H' : Hp}, (∀ b ∈ fp, H' b = none) → ∀ b ∈ fp, FpOk X pins H' b := fun hn b hb => ⟨hn b hb, (f2 b hb).2⟩
  refine codeAny_forLoop_any (fun n s' => ∃ i σ' H', Inv X pins σ' H' s' ∧ tn i s'.heap ∧ (∀ b ∈ fp, H' b = none) ∧ W i n σ' H') ?_ m0 ⟨0, σ, H2, I2, st2, fun b hb => (f2 b hb).1, w0⟩
  rintro n s3 ⟨i, σ3, H3, I3, st3, fr3, w3⟩
  rcases turn i n σ3 H3 w3 with ⟨stop, qn⟩ | ⟨go, N, hN, step⟩
  · refine wpAny_passesOwn hp (thn (T.done X rfl rfl rfl hc i pins s3 σ3 H3 X.xe I3 (stat fr3) st3 stop) fun r s4 ⟨hr, I4⟩ => ?_)
    subst hr
    exact wpAny_execs_nil ⟨σ3, H3, I4, qn⟩
  · refine wpAny_passesOwn hp (thn (T.item X rfl rfl rfl hc i pins s3 σ3 H3 X.xe I3 (stat fr3) st3 go) fun r s4 ⟨u, hr, h4⟩ => ?_)
    subst hr
    refine wpAny_passesOwn hp (thn h4 fun _ s5 ⟨x, H5, I5, r5, y5, st5, fr5⟩ => ?_)
    have I5' := I5.pinned (stat fr5) (T.obj _ _ st5)
    refine wpAny_passesOwn hp (thn (hg _ s5 σ3 H5 x u _ I5' r5 (step x H5 y5)) fun _ s6 ⟨σ6, H6, I6, q6⟩ => ?_)
    refine wpAny_passesOwn hp (thn (hb _ s6 σ6 H6 _ I6 q6) fun f s7 q7 => ?_)
    have again : ∀ {σ7 : St} {H7 : Hp}, Inv X (pins ++ pinsAt fp s5.heap) σ7 H7 s7 → N σ7 H7 → ∃ m, m < n ∧ ∃ i σ' H', Inv X pins σ' H' s7 ∧ tn i s7.heap ∧ (∀ b ∈ fp, H' b = none) ∧ W i m σ' H' := fun {σ7 H7} I7 n7 => by
      obtain ⟨m', hm, w7⟩ := hN σ7 H7 n7
      refine ⟨m', hm, i + 1, σ7, H7, I7.unpinned, T.keep _ _ _ st5 fun b hb o e => (I7.pin (b, o) (List.mem_append_right _ (List.mem_append_right _ (mem_pinsAt hb e)))).1, fun b hb => ?_, w7⟩
      obtain ⟨o, e, d⟩ := T.obj _ _ st5 b hb
      exact (I7.pin (b, o) (List.mem_append_right _ (List.mem_append_right _ (mem_pinsAt hb e)))).2.1
    cases f with
    | next => obtain ⟨σ7, H7, I7, n7⟩ := q7; exact again I7 n7
    | cont => obtain ⟨σ7, H7, I7, n7⟩ := q7; exact again I7 n7
    | brk => obtain ⟨σ7, H7, I7, q7⟩ := q7; exact ⟨σ7, H7, I7.unpinned, q7⟩
    | ret v => obtain ⟨x7, σ7, H7, I7, r7, q7⟩ := q7; exact ⟨x7, σ7, H7, I7.unpinned, r7, q7⟩
end
theorem for_list {K : PySem.W.Frag} {a : Addr} {xs : List V} {g : TG} {tb : TS} {D : Ends} {σ : St} {H : Hp} (Pv : Nat → St → Hp → Prop) (h0 : Pv 0 σ H) (hl : ∀ i σ H, i ≤ xs.length → Pv i σ H → SqL K H a xs)
    (hs : ∀ i x σ H, xs[i]? = some x → Pv i σ H → g x σ H fun σ2 H2 => tb { D with nx := Pv (i + 1), ct := Pv (i + 1), bk := D.nx } σ2 H2) (hd : ∀ σ H, Pv xs.length σ H → D.nx σ H) :
    ∃ W : Nat → Nat → St → Hp → Prop, (∃ m, W 0 m σ H) ∧ ∀ i m σ H, W i m σ H →
      ((Itl K a).stop i H ∧ D.nx σ H) ∨ ((Itl K a).go i H ∧ ∃ N : St → Hp → Prop, (∀ σ' H', N σ' H' → ∃ m', m' < m ∧ W (i + 1) m' σ' H') ∧ ∀ x H', (Itl K a).yld i H x H' → g x σ H' fun σ2 H2 => tb { D with nx := N, ct := N, bk := D.nx } σ2 H2) := by
  refine ⟨fun i m σ H => m = xs.length - i ∧ i ≤ xs.length ∧ Pv i σ H, ⟨xs.length, by simp, Nat.zero_le _, h0⟩, ?_⟩
  rintro i m σ H ⟨rfl, hi, p⟩
  have q := hl i σ H hi p
  by_cases hlt : i < xs.length
  · refine .inr ⟨⟨xs, xs[i], q, by simp [hlt]⟩, Pv (i + 1), fun σ' H' p' => ⟨xs.length - (i + 1), by omega, rfl, hlt, p'⟩, fun x H' y => ?_⟩
    obtain ⟨e, y⟩ := y
    subst e
    exact hs i x σ _ (y xs q) p
  · have e : i = xs.length := by omega
    subst e
    exact .inl ⟨⟨xs, q, Nat.le_refl _⟩, hd σ H p⟩
theorem for_tup {K : PySem.W.Frag} {a : Addr} {xs : List V} {g : TG} {tb : TS} {D : Ends} {σ : St} {H : Hp} (Pv : Nat → St → Hp → Prop) (h0 : Pv 0 σ H) (hl : ∀ i σ H, i ≤ xs.length → Pv i σ H → SqT K H a xs)
    (hs : ∀ i x σ H, xs[i]? = some x → Pv i σ H → g x σ H fun σ2 H2 => tb { D with nx := Pv (i + 1), ct := Pv (i + 1), bk := D.nx } σ2 H2) (hd : ∀ σ H, Pv xs.length σ H → D.nx σ H) :
    ∃ W : Nat → Nat → St → Hp → Prop, (∃ m, W 0 m σ H) ∧ ∀ i m σ H, W i m σ H →
      ((Itt K a).stop i H ∧ D.nx σ H) ∨ ((Itt K a).go i H ∧ ∃ N : St → Hp → Prop, (∀ σ' H', N σ' H' → ∃ m', m' < m ∧ W (i + 1) m' σ' H') ∧ ∀ x H', (Itt K a).yld i H x H' → g x σ H' fun σ2 H2 => tb { D with nx := N, ct := N, bk := D.nx } σ2 H2) := by
  refine ⟨fun i m σ H => m = xs.length - i ∧ i ≤ xs.length ∧ Pv i σ H, ⟨xs.length, by simp, Nat.zero_le _, h0⟩, ?_⟩
  rintro i m σ H ⟨rfl, hi, p⟩
  have q := hl i σ H hi p
  by_cases hlt : i < xs.length
  · refine .inr ⟨⟨xs, xs[i], q, by simp [hlt]⟩, Pv (i + 1), fun σ' H' p' => ⟨xs.length - (i + 1), by omega, rfl, hlt, p'⟩, fun x H' y => ?_⟩
    obtain ⟨e, y⟩ := y
    subst e
    exact hs i x σ _ (y xs q) p
  · have e : i = xs.length := by omega
    subst e
    exact .inl ⟨⟨xs, q, Nat.le_refl _⟩, hd σ H p⟩
end L2
namespace L2
open PySem PySem.Spec PyProof.Rows
abbrev R2 := V → V → Hp → VK → Prop
def OpR (X : Cx) (f : Value → Value → Sem Value) (r : R2) : Prop :=
  ∀ (pins : List (Addr × Obj)) (s : Shared) (σ : St) (H : Hp) (x y : V) (v u : Value) (Q : VK), Inv X pins σ H s → RelV x v → RelV y u → r x y H Q →
    wpAny (model X.prog X.w) X.A (f v u) (EP X pins σ Q) X.xe s
def UnR (X : Cx) (f : Value → Sem Value) (r : V → Hp → VK → Prop) : Prop :=
  ∀ (pins : List (Addr × Obj)) (s : Shared) (σ : St) (H : Hp) (x : V) (v : Value) (Q : VK), Inv X pins σ H s → RelV x v → r x H Q →
    wpAny (model X.prog X.w) X.A (f v) (EP X pins σ Q) X.xe s
def CallR (X : Cx) (f : Value) (r : List V → Hp → VK → Prop) : Prop :=
  ∀ (pins : List (Addr × Obj)) (s : Shared) (σ : St) (H : Hp) (xs : List V) (us : List Value) (Q : VK), Inv X pins σ H s → Vals xs us → r xs H Q →
    wpAny (model X.prog X.w) X.A (call f us) (EP X pins σ Q) X.xe s
def tOp (r : R2) (ta tb : TE) : TE := fun σ H Q => ta σ H fun x H1 => tb σ H1 fun y H2 => r x y H2 Q
def tUn (r : V → Hp → VK → Prop) (ta : TE) : TE := fun σ H Q => ta σ H fun x H1 => r x H1 Q
def rI (C : Int → Int → Prop) (g : Int → Int → V) : R2 := fun x y H Q => ∃ i j, x = .int i ∧ y = .int j ∧ C i j ∧ Q (g i j) H
def rI0 (g : Int → Int → V) : R2 := fun x y H Q => ∃ i j, x = .int i ∧ y = .int j ∧ Q (g i j) H
def rU (g : Int → V) : V → Hp → VK → Prop := fun x H Q => ∃ i, x = .int i ∧ Q (g i) H
section
variable {X : Cx} {a b c : Expr} {ta tb tc : TE} {pos : Pos}
theorem binT (ha : PE X a ta) (hb : PE X b tb) {pins : List (Addr × Obj)} {s : Shared} {σ : St} {H : Hp} {R : V → V → Hp → Prop} (I : Inv X pins σ H s)
    (h : ta σ H fun x H1 => tb σ H1 fun y H2 => R x y H2) {Q : Value → Shared → Prop} {f : Value → Value → Sem Value}
    (hf : ∀ v u s2 x y H2, Inv X pins σ H2 s2 → RelV x v → RelV y u → R x y H2 → wpAny (model X.prog X.w) X.A (f v u) Q X.xe s2) :
    wpAny (model X.prog X.w) X.A (eval a X.env) (fun v s₁ => wpAny (model X.prog X.w) X.A (eval b X.env) (fun u s₂ => wpAny (model X.prog X.w) X.A (f v u) Q X.xe s₂) X.xe s₁) X.xe s := by
  refine thn (ha pins s σ H _ I h) fun v s1 ⟨x, H1, I1, r1, q1⟩ => ?_
  refine thn (hb pins s1 σ H1 _ I1 q1) fun u s2 ⟨y, H2, I2, r2, q2⟩ => ?_
  exact hf v u s2 x y H2 I2 r1 r2 q2
theorem pe_op {op : Operator} {r : R2} (ho : OpR X (binaryOp op) r) (ha : PE X a ta) (hb : PE X b tb) : PE X (.BinOp a op b pos) (tOp r ta tb) := by
  intro pins s σ H Q I h
  exact wpAny_BinOp (binT ha hb I h fun v u s2 x y H2 I2 rx ry q => ho pins s2 σ H2 x y v u Q I2 rx ry q)
theorem pe_un {op : UnaryOp} {r : V → Hp → VK → Prop} (ho : UnR X (unaryOp op) r) (ha : PE X a ta) : PE X (.UnaryOp op a pos) (tUn r ta) := by
  intro pins s σ H Q I h
  exact UnaryOp_ (thn (ha pins s σ H _ I h) fun v s1 ⟨x, H1, I1, r1, q1⟩ => ho pins s1 σ H1 x v Q I1 r1 q1)
theorem opI {f : Value → Value → Sem Value} {C : Int → Int → Prop} {g : Int → Int → Int}
    (rule : ∀ (i j : Int) (t u : Tok) (s : Shared) (Q : Value → Shared → Prop) (E : Value → Shared → Prop), C i j → Q (.int (g i j) s.toks) { s with toks := s.toks + 1 } → wpAny (model X.prog X.w) X.A (f (.int i t) (.int j u)) Q E s) :
    OpR X f (rI C fun i j => .int (g i j)) := by
  intro pins s σ H x y v u Q I rx ry h
  obtain ⟨i, j, rfl, rfl, hc, q⟩ := h
  obtain ⟨t, rfl⟩ := rx
  obtain ⟨t', rfl⟩ := ry
  exact rule i j t t' s _ _ hc ⟨.int (g i j), H, I.tok _, ⟨_, rfl⟩, q⟩
theorem opI0 {f : Value → Value → Sem Value} {g : Int → Int → Int}
    (rule : ∀ (i j : Int) (t u : Tok) (s : Shared) (Q : Value → Shared → Prop) (E : Value → Shared → Prop), Q (.int (g i j) s.toks) { s with toks := s.toks + 1 } → wpAny (model X.prog X.w) X.A (f (.int i t) (.int j u)) Q E s) :
    OpR X f (rI0 fun i j => .int (g i j)) := by
  intro pins s σ H x y v u Q I rx ry h
  obtain ⟨i, j, rfl, rfl, q⟩ := h
  obtain ⟨t, rfl⟩ := rx
  obtain ⟨t', rfl⟩ := ry
  exact rule i j t t' s _ _ ⟨.int (g i j), H, I.tok _, ⟨_, rfl⟩, q⟩
theorem opB0 {f : Value → Value → Sem Value} {g : Int → Int → Bool}
    (rule : ∀ (i j : Int) (t u : Tok) (s : Shared) (Q : Value → Shared → Prop) (E : Value → Shared → Prop), Q (.bool (g i j)) s → wpAny (model X.prog X.w) X.A (f (.int i t) (.int j u)) Q E s) :
    OpR X f (rI0 fun i j => .bl (g i j)) := by
  intro pins s σ H x y v u Q I rx ry h
  obtain ⟨i, j, rfl, rfl, q⟩ := h
  obtain ⟨t, rfl⟩ := rx
  obtain ⟨t', rfl⟩ := ry
  exact rule i j t t' s _ _ ⟨.bl (g i j), H, I, rfl, q⟩
def CDiv (i j : Int) : Prop := 0 < j ∧ j < 1073741824
def CPow (i j : Int) : Prop := 0 ≤ j ∧ j ≤ 1000000 ∧ i.natAbs < 2 ^ 64
def CMul (i j : Int) : Prop := (-(2 ^ 64) < i ∧ i < 2 ^ 64) ∨ (-(2 ^ 64) < j ∧ j < 2 ^ 64)
theorem CMul.ok {i j : Int} (h : CMul i j) : IntMulOk i j := by
  rcases h with ⟨h1, h2⟩ | ⟨h1, h2⟩
  · exact .of_left (intBits_le_64 h1 h2)
  · exact .of_right (intBits_le_64 h1 h2)
theorem op_add : OpR X (binaryOp .Add) (rI0 fun i j => .int (i + j)) := opI0 fun _ _ _ _ _ _ _ q => add_int q
theorem op_sub : OpR X (binaryOp .Sub) (rI0 fun i j => .int (i - j)) := opI0 fun _ _ _ _ _ _ _ q => sub_int q
theorem op_mul : OpR X (binaryOp .Mult) (rI CMul fun i j => .int (i * j)) := opI fun _ _ _ _ _ _ _ hc q => mul_int q hc.ok
theorem op_fdiv : OpR X (binaryOp .FloorDiv) (rI CDiv fun i j => .int (i / j)) := opI fun i j _ _ _ _ _ hc q => by
  have h1 : (0 : Int) < j := hc.1
  have h2 : j < 1073741824 := hc.2
  exact floordiv_int (by omega) (by rw [Int.fdiv_eq_ediv_of_nonneg i (by omega)]; exact q) (.inl (PyProof.noPylong_small (by omega)))
theorem op_mod : OpR X (binaryOp .Mod) (rI (fun _ j => 0 < j) fun i j => .int (i % j)) := opI fun i j _ _ _ _ _ hc q => by
  have h1 : (0 : Int) < j := hc
  exact mod_int' (by omega) (by rw [Int.fmod_eq_emod_of_nonneg i (by omega)]; exact q)
theorem op_pow : OpR X (binaryOp .Pow) (rI CPow fun i j => .int (i ^ j.toNat)) := opI fun _ _ _ _ _ _ _ hc q => pow_int_small hc.1 hc.2.1 hc.2.2 q
theorem unI {f : Value → Sem Value} {g : Int → Int}
    (rule : ∀ (i : Int) (t : Tok) (s : Shared) (Q : Value → Shared → Prop) (E : Value → Shared → Prop), Q (.int (g i) s.toks) { s with toks := s.toks + 1 } → wpAny (model X.prog X.w) X.A (f (.int i t)) Q E s) :
    UnR X f (rU fun i => .int (g i)) := by
  intro pins s σ H x v Q I rx h
  obtain ⟨i, rfl, q⟩ := h
  obtain ⟨t, rfl⟩ := rx
  exact rule i t s _ _ ⟨.int (g i), H, I.tok _, ⟨_, rfl⟩, q⟩
theorem un_neg : UnR X (unaryOp .USub) (rU fun i => .int (-i)) := unI fun _ _ _ _ _ q => neg_int q
end
def scal : V → V → Bool
  | .non, .non => true | .non, .int _ => true | .int _, .non => true | .non, .bl _ => true | .bl _, .non => true | .non, .str _ => true | .str _, .non => true
  | .int _, .int _ => true | .bl _, .bl _ => true | .str _, .str _ => true | .byt _, .byt _ => true
  | .int _, .str _ => true | .str _, .int _ => true | .bl _, .str _ => true | .str _, .bl _ => true
  | _, _ => false
def rEq : R2 := fun x y H Q => scal x y = true ∧ Q (.bl (decide (x = y))) H
def rNe : R2 := fun x y H Q => scal x y = true ∧ Q (.bl (!decide (x = y))) H
theorem dec_int {i j : Int} : decide (V.int i = V.int j) = (i == j) := by
  rw [Bool.eq_iff_iff]
  simp
theorem dec_bl {i j : Bool} : decide (V.bl i = V.bl j) = (i == j) := by
  rw [Bool.eq_iff_iff]
  simp
theorem dec_str {i j : Str} : decide (V.str i = V.str j) = (i == j) := by
  rw [Bool.eq_iff_iff]
  simp
theorem dec_byt {i j : Array UInt8} : decide (V.byt i = V.byt j) = (i.toList == j.toList) := by
  rw [Bool.eq_iff_iff]
  cases i
  cases j
  simp
section
variable {X : Cx} {a b c : Expr} {ta tb tc : TE} {pos : Pos}
theorem fin_bl {pins : List (Addr × Obj)} {σ : St} {H : Hp} {s : Shared} {Q : VK} {k k' : Bool} (I : Inv X pins σ H s) (q : Q (.bl k) H) (e : k = k') : EP X pins σ Q (.bool k') s := by
  subst e
  exact ⟨.bl k, H, I, rfl, q⟩
theorem op_eq : OpR X (compareOp .Eq) rEq := by
  intro pins s σ H x y v u Q I rx ry h
  obtain ⟨hs, q⟩ := h
  cases x with
  | non =>
    cases rx
    cases y with
    | non => cases ry; exact PySem.EqNone.eq_none_none (fin_bl I q (by simp))
    | bl j => cases ry; exact PySem.EqNone.eq_none_bool (fin_bl I q (by simp))
    | int j => obtain ⟨t', rfl⟩ := ry; exact PySem.EqNone.eq_none_int (fin_bl I q (by simp))
    | str j => obtain ⟨t', rfl⟩ := ry; exact PySem.EqNone.eq_none_str (fin_bl I q (by simp))
    | _ => exact absurd (show false = true from hs) Bool.false_ne_true
  | bl i =>
    cases rx
    cases y with
    | non => cases ry; exact PySem.EqNone.eq_bool_none (fin_bl I q (by simp))
    | bl j => cases ry; exact eq_bool (fin_bl I q dec_bl)
    | str j => obtain ⟨t', rfl⟩ := ry; exact PySem.EqMixed.eq_bool_str (fin_bl I q (by simp))
    | _ => exact absurd (show false = true from hs) Bool.false_ne_true
  | int i =>
    obtain ⟨t, rfl⟩ := rx
    cases y with
    | non => cases ry; exact PySem.EqNone.eq_int_none (fin_bl I q (by simp))
    | int j => obtain ⟨t', rfl⟩ := ry; exact eq_int (fin_bl I q dec_int)
    | str j => obtain ⟨t', rfl⟩ := ry; exact PySem.EqMixed.eq_int_str (fin_bl I q (by simp))
    | _ => exact absurd (show false = true from hs) Bool.false_ne_true
  | str i =>
    obtain ⟨t, rfl⟩ := rx
    cases y with
    | non => cases ry; exact PySem.EqNone.eq_str_none (fin_bl I q (by simp))
    | bl j => cases ry; exact PySem.EqMixed.eq_str_bool (fin_bl I q (by simp))
    | int j => obtain ⟨t', rfl⟩ := ry; exact PySem.EqMixed.eq_str_int (fin_bl I q (by simp))
    | str j => obtain ⟨t', rfl⟩ := ry; exact eq_str (fin_bl I q dec_str)
    | _ => exact absurd (show false = true from hs) Bool.false_ne_true
  | byt i =>
    obtain ⟨t, rfl⟩ := rx
    cases y with
    | byt j => obtain ⟨t', rfl⟩ := ry; exact PySem.W.eq_bytes (fin_bl I q dec_byt)
    | _ => exact absurd (show false = true from hs) Bool.false_ne_true
  | _ => cases y <;> exact absurd (show false = true from hs) Bool.false_ne_true
theorem op_ne : OpR X (compareOp .NotEq) rNe := by
  intro pins s σ H x y v u Q I rx ry h
  obtain ⟨hs, q⟩ := h
  cases x with
  | non =>
    cases rx
    cases y with
    | non => cases ry; exact PySem.EqNone.ne_none_none (fin_bl I q (by simp))
    | bl j => cases ry; exact PySem.EqNone.ne_none_bool (fin_bl I q (by simp))
    | int j => obtain ⟨t', rfl⟩ := ry; exact PySem.EqNone.ne_none_int (fin_bl I q (by simp))
    | str j => obtain ⟨t', rfl⟩ := ry; exact PySem.EqNone.ne_none_str (fin_bl I q (by simp))
    | _ => exact absurd (show false = true from hs) Bool.false_ne_true
  | bl i =>
    cases rx
    cases y with
    | non => cases ry; exact PySem.EqNone.ne_bool_none (fin_bl I q (by simp))
    | bl j => cases ry; exact ne_bool (fin_bl I q (congrArg not dec_bl))
    | str j => obtain ⟨t', rfl⟩ := ry; exact PySem.EqMixed.ne_bool_str (fin_bl I q (by simp))
    | _ => exact absurd (show false = true from hs) Bool.false_ne_true
  | int i =>
    obtain ⟨t, rfl⟩ := rx
    cases y with
    | non => cases ry; exact PySem.EqNone.ne_int_none (fin_bl I q (by simp))
    | int j => obtain ⟨t', rfl⟩ := ry; exact ne_int (fin_bl I q (congrArg not dec_int))
    | str j => obtain ⟨t', rfl⟩ := ry; exact PySem.EqMixed.ne_int_str (fin_bl I q (by simp))
    | _ => exact absurd (show false = true from hs) Bool.false_ne_true
  | str i =>
    obtain ⟨t, rfl⟩ := rx
    cases y with
    | non => cases ry; exact PySem.EqNone.ne_str_none (fin_bl I q (by simp))
    | bl j => cases ry; exact PySem.EqMixed.ne_str_bool (fin_bl I q (by simp))
    | int j => obtain ⟨t', rfl⟩ := ry; exact PySem.EqMixed.ne_str_int (fin_bl I q (by simp))
    | str j => obtain ⟨t', rfl⟩ := ry; exact ne_str (fin_bl I q (congrArg not dec_str))
    | _ => exact absurd (show false = true from hs) Bool.false_ne_true
  | byt i =>
    obtain ⟨t, rfl⟩ := rx
    cases y with
    | byt j => obtain ⟨t', rfl⟩ := ry; exact PySem.W.ne_bytes (fin_bl I q (congrArg not dec_byt))
    | _ => exact absurd (show false = true from hs) Bool.false_ne_true
  | _ => cases y <;> exact absurd (show false = true from hs) Bool.false_ne_true
theorem op_lt : OpR X (compareOp .Lt) (rI0 fun i j => .bl (decide (i < j))) := opB0 fun _ _ _ _ _ _ _ q => lt_int q
theorem op_gt : OpR X (compareOp .Gt) (rI0 fun i j => .bl (decide (j < i))) := opB0 fun _ _ _ _ _ _ _ q => gt_int q
theorem op_ge : OpR X (compareOp .GtE) (rI0 fun i j => .bl (decide (j ≤ i))) := opB0 fun _ _ _ _ _ _ _ q => ge_int q
theorem op_in_str : OpR X (compareOp .In) (fun x y H Q => ∃ i j, x = .str i ∧ y = .str j ∧ Q (.bl (!(Builtin.Str.occurrences j i 0 j.length 1).isEmpty)) H) := by
  intro pins s σ H x y v u Q I rx ry h
  obtain ⟨i, j, rfl, rfl, q⟩ := h
  obtain ⟨t, rfl⟩ := rx
  obtain ⟨t', rfl⟩ := ry
  exact in_str (fin_bl I q rfl)
theorem nomark (b : Expr) {op : CmpOp} (h : op ≠ .In := by decide) (h2 : op ≠ .NotIn := by decide) : behindInMarks op b = false := by
  have e1 : (op == CmpOp.In) = false := by cases op <;> first | rfl | exact absurd rfl h
  have e2 : (op == CmpOp.NotIn) = false := by cases op <;> first | rfl | exact absurd rfl h2
  cases b <;> simp [behindInMarks, e1, e2]
theorem pe_cmpR {op : CmpOp} {r : R2} (ho : OpR X (compareOp op) r) (ha : PE X a ta) (hb : PE X b tb) (hm : behindInMarks op b = false) : PE X (.Compare a [op] [b] pos) (tOp r ta tb) := by
  intro pins s σ H Q I h
  exact wpAny_Compare1 (binT ha hb I h fun v u s2 x y H2 I2 rx ry q => ho pins s2 σ H2 x y v u Q I2 rx ry q) hm
def tTest (t : TE) : TT := fun σ H Q => t σ H fun x H' => ∃ k, x = .bl k ∧ Q k H'
theorem pt_cmpR {op : CmpOp} {r : R2} (ho : OpR X (compareOp op) r) (ha : PE X a ta) (hb : PE X b tb) (hm : behindInMarks op b = false) : PT X (.Compare a [op] [b] pos) (tTest (tOp r ta tb)) := by
  intro pins s σ H Q I h
  refine wpAny_isTrue_Compare1 (thn (ha pins s σ H _ I h) fun v s1 ⟨x, H1, I1, r1, q1⟩ => thn (hb pins s1 σ H1 _ I1 q1) fun u s2 ⟨y, H2, I2, r2, q2⟩ =>
    thn (ho pins s2 σ H2 x y v u _ I2 r1 r2 q2) fun c s3 ⟨z, H3, I3, r3, k, e, q3⟩ => ?_) hm
  subst e
  cases r3
  exact wpAny_truthy_bool ⟨H3, I3, q3⟩
theorem line63 : (sizeLine : Nat) < 2 ^ 63 := by rw [sizeLine_eq]; decide
theorem op_add_str : OpR X (binaryOp .Add) (fun x y H Q => ∃ i j, x = .str i ∧ y = .str j ∧ i.length + j.length ≤ sizeLine ∧ Q (.str (i ++ j)) H) := by
  intro pins s σ H x y v u Q I rx ry h
  obtain ⟨i, j, rfl, rfl, hz, q⟩ := h
  obtain ⟨t, rfl⟩ := rx
  obtain ⟨t', rfl⟩ := ry
  exact add_str (fun t' tk => ⟨.str (i ++ j), H, I.tok _, ⟨_, rfl⟩, q⟩) hz
theorem vals1 {x : V} {us : List Value} (r : Vals [x] us) : ∃ u, us = [u] ∧ RelV x u := by
  cases r with
  | cons r1 r2 => cases r2; exact ⟨_, rfl, r1⟩
theorem vals2 {x y : V} {us : List Value} (r : Vals [x, y] us) : ∃ u w', us = [u, w'] ∧ RelV x u ∧ RelV y w' := by
  cases r with
  | cons r1 r2 =>
    cases r2 with
    | cons r3 r4 => cases r4; exact ⟨_, _, rfl, r1, r3⟩
theorem call_abs : CallR X (.builtin "abs") (fun xs H Q => ∃ i, xs = [.int i] ∧ Q (.int (if i < 0 then -i else i)) H) := by
  intro pins s σ H xs us Q I r h
  obtain ⟨i, rfl, q⟩ := h
  obtain ⟨u, rfl, t, rfl⟩ := vals1 r
  exact call_abs_int fun u tk => ⟨.int (if i < 0 then -i else i), H, I.tok _, ⟨_, rfl⟩, q⟩
theorem call_int1 : CallR X (.type "int") (fun xs H Q => (∃ i, xs = [.int i] ∧ Q (.int i) H) ∨ ∃ k, xs = [.bl k] ∧ Q (.int (if k then 1 else 0)) H) := by
  intro pins s σ H xs us Q I r h
  rcases h with ⟨i, rfl, q⟩ | ⟨k, rfl, q⟩
  · obtain ⟨u, rfl, t, rfl⟩ := vals1 r
    exact call_int_int ⟨.int i, H, I, ⟨_, rfl⟩, q⟩
  · obtain ⟨u, rfl, r1⟩ := vals1 r
    cases r1
    exact call_int_bool ⟨.int (if k then 1 else 0), H, I.tok _, ⟨_, rfl⟩, q⟩
theorem call_str_int : CallR X (.type "str") (fun xs H Q => ∃ i, xs = [.int i] ∧ i.natAbs.log2 < 1920 ∧ Q (.str (toString i)) H) := by
  intro pins s σ H xs us Q I r h
  obtain ⟨i, rfl, hz, q⟩ := h
  obtain ⟨u, rfl, t, rfl⟩ := vals1 r
  exact PySem.P.str_of_int hz ⟨.str _, H, I.tok _, ⟨_, rfl⟩, q⟩
end
end L2
namespace L2
open PySem PySem.Spec PyProof.Rows
structure ObjM (h : Heap) (x dx C : Addr) (mA : Str → Option Value) : Prop where
  obj : h.get? x = some (PySem.W.instObj C dx)
  ns : h.Ns1 dx mA
  ne : dx ≠ x
theorem lookIn_ns {h : Heap} {dx : Addr} {mA : Str → Option Value} (n : h.Ns1 dx mA) : ∃ od, h.get? dx = some od ∧ ∀ name, PySem.W.lookIn name od = some (mA name) := by
  obtain ⟨o, es, ep, ho, hd, hk, _, hm⟩ := n
  refine ⟨o, ho, fun name => ?_⟩
  have e := hm name
  unfold nsFind findBy at e
  rw [← Array.find?_toList] at e
  unfold PySem.W.lookIn
  rw [hd]
  dsimp only
  split
  · rename_i y q
    rw [q] at e
    exact congrArg some e
  · rename_i q
    rw [q] at e
    have a : es.toList.any (·.refKey) = false := by
      rw [List.any_eq_false]
      intro y hy
      obtain ⟨z, t, hkey⟩ := hk y (Array.mem_toList_iff.mp hy)
      simp [DictEntry.refKey, hkey]
    have a' : ¬ es.toList.any (·.refKey) = true := by rw [a]; exact Bool.false_ne_true
    rw [if_neg a']
    exact congrArg some e
theorem ObjM.look {h : Heap} {x dx C : Addr} {mA : Str → Option Value} (I : ObjM h x dx C mA) : ∃ od, PySem.W.InstAt h x (PySem.W.instObj C dx) C (some od) ∧ ∀ name, PySem.W.lookIn name od = some (mA name) :=
  let ⟨od, ho, hl⟩ := lookIn_ns I.ns
  ⟨od, ⟨I.obj, rfl, rfl, ho⟩, hl⟩
section
variable {prog : Program} {w : World} {A : Around} {E : Value → Shared → Prop} {s : Shared} {K : PySem.W.Frag} {x dx C f : Addr} {mA : Str → Option Value} {name : Str} {v : Value}
end
section
variable {P : Program} {w : World} {H H' : Hp} {h h' : Heap} {a C dx : Addr} {fs fs' : List (Str × V)}
theorem ins_get (hok : HOk P w H h) (e : H a = some (.ins C dx fs)) : ∃ mA, ObjM h a dx C mA ∧ (∀ f, RelO (fs.lookup f) (mA f)) ∧ PySem.Within mA (fs.map (·.1)) ∧ fs.length ≤ 1000 ∧ H dx = some (.own a) := by
  obtain ⟨d, z, ne, ob, mA, n, r, q⟩ := (show ObjOk P w H h a (.ins C dx fs) from hok a _ e)
  exact ⟨mA, ⟨ob, n, ne⟩, r, q, z, d⟩
end
structure Cls (K : PySem.W.Frag) (C : Addr) : Prop where
  pg : PySem.W.plainGet K C Str.empty = true
  hd : PySem.W.hasDictIn K C = true
  po : PySem.W.plainOver K C = true
  sa : PySem.W.findIn K (.ref C) "__setattr__" = some (some (.builtin "object.__setattr__"))
theorem Cls.get {K : PySem.W.Frag} {C : Addr} (c : Cls K C) (f : Str) : PySem.W.plainGet K C f = true := c.pg
structure Con (K : PySem.W.Frag) (C : Addr) (f : Str) (v : V) (u : Value) : Prop where
  at_ : PySem.W.findIn K (.ref C) f = some (some u)
  rel : RelV v u
  get : PySem.W.specialIn K u "__get__" = some none
  cp : PySem.W.copiedNames.contains f = false
structure Meth (K : PySem.W.Frag) (C : Addr) (m : Str) (f : Addr) : Prop where
  at_ : PySem.W.findIn K (.ref C) m = some (some (.ref f))
  fn : PySem.W.isFn K (.ref f) = true
  kp : PySem.W.keepIn K (.ref f) = true
section
variable {X : Cx} {pins : List (Addr × Obj)} {σ : St} {H : Hp} {s : Shared} {a C dx : Addr} {fs : List (Str × V)} {f : Str} {v : V} {A : Around} {E : Value → Shared → Prop}
theorem Inv.made (I : Inv X pins σ H s) : Inv X pins σ (upd (upd H s.heap.objs.size (.own (s.heap.objs.size + 1))) (s.heap.objs.size + 1) (.ins C s.heap.objs.size []))
    { s with heap := (s.heap.push PySem.W.emptyDict).push (PySem.W.instObj C s.heap.objs.size) } := by
  have e1 : (s.heap.push PySem.W.emptyDict).get? s.heap.objs.size = some PySem.W.emptyDict := Heap.get?_push_size s.heap rfl
  have e2 : ((s.heap.push PySem.W.emptyDict).push (PySem.W.instObj C s.heap.objs.size)).get? (s.heap.objs.size + 1) = some (PySem.W.instObj C s.heap.objs.size) := by
    have := Heap.get?_push_size (s.heap.push PySem.W.emptyDict) (o := PySem.W.instObj C s.heap.objs.size) rfl
    rwa [Heap.size_push] at this
  have e3 : (s.heap.push PySem.W.emptyDict).Ns s.heap.objs.size (fun _ => none) := ⟨PySem.W.emptyDict, #[], _, e1, rfl, (fun e he => absurd he (by simp)), fun _ => rfl⟩
  have I1 := I.laid (a := s.heap.objs.size) (o := .own (s.heap.objs.size + 1)) (h' := s.heap.push PySem.W.emptyDict) (t' := s.toks) (fun b u q => Heap.get?_push_of_some _ q) (Nat.le_refl _) ⟨_, e1⟩
  refine I1.laid (a := s.heap.objs.size + 1) (o := .ins C s.heap.objs.size []) (t' := s.toks) (fun b u q => Heap.get?_push_of_some _ q) (Nat.le_of_eq (Heap.size_push _ _)) ?_
  have ne : s.heap.objs.size ≠ s.heap.objs.size + 1 := Nat.ne_of_lt (Nat.lt_succ_self _)
  refine ⟨by rw [upd_ne ne, upd_same], Nat.zero_le _, ne, e2, fun _ => none, (Heap.Ns1.of_empty e3).at fun o q => Heap.get?_push_of_some _ q, fun _ => True.intro, fun y hy => absurd rfl hy⟩
end
section
variable {X : Cx} {o e value : Expr} {f : Str} {pos pos' tpos : Pos} {ta tv : TE}
end
section
variable {X : Cx} {pins : List (Addr × Obj)} {σ : St} {H : Hp} {s : Shared} {A : Around} {E : Value → Shared → Prop} {Q : Value → Shared → Prop} {c : Value} {b : Bool}
inductive TyOf (K : PySem.W.Frag) (H : Hp) : V → Value → Prop where
  | non : TyOf K H .non (.type "NoneType")
  | bl (x : Bool) : TyOf K H (.bl x) (.type "bool")
  | int (i : Int) : TyOf K H (.int i) (.type "int")
  | str (x : Str) : TyOf K H (.str x) (.type "str")
  | flt (x : UInt64) : TyOf K H (.flt x) (.type "float")
  | lst {a : Addr} {xs : List V} (e : H a = some (.lst xs)) : TyOf K H (.ref a) (.type "list")
  | frz {a : Addr} {o : Obj} {xs : List V} (e : H a = some (.frz o (.lst xs))) : TyOf K H (.ref a) (.type "list")
  | tup {a : Addr} {xs : List V} (e : H a = some (.tup xs)) : TyOf K H (.ref a) (.type "tuple")
  | dK {a : Addr} {kvs : List (Key × V)} (e : H a = some (.dK kvs)) : TyOf K H (.ref a) (.type "dict")
  | dT {a : Addr} {kvs : List (List Key × V)} (e : H a = some (.dT kvs)) : TyOf K H (.ref a) (.type "dict")
  | ins {a C dx : Addr} {fs : List (Str × V)} (e : H a = some (.ins C dx fs)) (cl : Cls K C) (ha : PySem.W.findIn K (.ref C) "__class__" = some (some (.builtin "object.__class__")))
      (hn : PySem.W.specialIn K (.builtin "object.__class__") "__get__" = some (some (.builtin "getset_descriptor.__get__"))) (htk : PySem.W.takesIn K (.builtin "object.__class__") = some true)
      (hm : PySem.W.mroIn K C (.type "object") = some true) : TyOf K H (.ref a) (.ref C)
theorem isinst_ok {x : V} {u t : Value} (I : Inv X pins σ H s) (rx : RelV x u) (ty : TyOf X.K H x t) (e : PySem.W.kitOne X.K t c = some b) (h : ∀ tk, Q (.bool b) { s with toks := tk }) :
    wpAny (model X.prog X.w) A (call (.builtin "isinstance") [u, c]) Q E s := by
  cases ty with
  | non => cases (show u = Value.none from rx); exact PySem.W.kia_one PySem.W.kitx_none I.kIn True.intro e (fun z => nomatch z) h
  | bl y => cases (show u = Value.bool y from rx); exact PySem.W.kia_one PySem.W.kitx_bool I.kIn True.intro e (fun z => nomatch z) h
  | int i => obtain ⟨t, q⟩ := (show ∃ t, u = Value.int i t from rx); cases q; exact PySem.W.kia_one PySem.W.kitx_int I.kIn True.intro e (fun z => nomatch z) h
  | str y => obtain ⟨t, q⟩ := (show ∃ t, u = Value.str y t from rx); cases q; exact PySem.W.kia_one PySem.W.kitx_str I.kIn True.intro e (fun z => nomatch z) h
  | flt y => obtain ⟨t, q⟩ := (show ∃ t, u = Value.float y t from rx); cases q; exact PySem.W.kia_one PySem.W.kitx_float I.kIn True.intro e (fun z => nomatch z) h
  | @lst a xs ea =>
    cases (show u = Value.ref a from rx)
    obtain ⟨_, _, n, _, h1⟩ := (show ObjOk X.prog X.w H s.heap a (.lst xs) from I.hok a _ ea)
    exact PySem.W.kia_one PySem.W.kitx_list I.kIn ⟨_, h1, rfl⟩ e (fun z => nomatch z) h
  | @frz a ob xs ea =>
    cases (show u = Value.ref a from rx)
    obtain ⟨_, _, _, n, _, h1⟩ := (show ObjOk X.prog X.w H s.heap a (.frz ob (.lst xs)) from I.hok a _ ea)
    exact PySem.W.kia_one PySem.W.kitx_list I.kIn ⟨_, h1, rfl⟩ e (fun z => nomatch z) h
  | @tup a xs ea =>
    cases (show u = Value.ref a from rx)
    obtain ⟨_, _, _, p⟩ := (show ObjOk X.prog X.w H s.heap a (.tup xs) from I.hok a _ ea)
    obtain ⟨o, h1, h2, _⟩ := p
    exact PySem.W.kia_one PySem.W.kitx_tuple I.kIn ⟨o, h1, h2⟩ e (fun z => nomatch z) h
  | @dK a kvs ea =>
    cases (show u = Value.ref a from rx)
    obtain ⟨_, _, vs, _, p⟩ := (show ObjOk X.prog X.w H s.heap a (.dK kvs) from I.hok a _ ea)
    obtain ⟨o, es, ep, h1, h2, _⟩ := p
    exact PySem.W.kia_one PySem.W.kitx_dict I.kIn ⟨o, h1, h2.1⟩ e (fun z => nomatch z) h
  | @dT a kvs ea =>
    cases (show u = Value.ref a from rx)
    obtain ⟨_, _, xs, _, o, es, ep, h1, h2, _⟩ := (show ObjOk X.prog X.w H s.heap a (.dT kvs) from I.hok a _ ea)
    exact PySem.W.kia_one PySem.W.kitx_dict I.kIn ⟨o, h1, h2.1⟩ e (fun z => nomatch z) h
  | @ins a C dx fs ea cl ha hn htk hm =>
    cases (show u = Value.ref a from rx)
    obtain ⟨mA, O, _⟩ := ins_get I.hok ea
    obtain ⟨od, J, _⟩ := O.look
    exact PySem.W.kia_one (PySem.W.kitx_own (cl.get _) cl.hd ha hn htk hm) I.kIn J e (fun z => nomatch z) h
end
end L2
namespace L2
open PySem PySem.Spec PyProof.Rows
structure Room (k : Nat) (A : Around) : Prop where
  hd : A.handled = none
  dp : A.depth + 3 * k + 5 < recursionLimit
  un : A.units + 16 * k + 200 < cLine
theorem Room.mono {j k : Nat} {A : Around} (r : Room k A) (h : j ≤ k) : Room j A := ⟨r.hd, by have := r.dp; omega, by have := r.un; omega⟩
theorem Room.deeper {k : Nat} {A : Around} (r : Room (k + 1) A) (env : Env) : Room k (A.deeper env) :=
  ⟨r.hd, by have := r.dp; show A.depth + 1 + 3 * k + 5 < _; omega, by have := r.un; show A.units + 3 + 16 * k + 200 < _; omega⟩
theorem Room.in1 {k : Nat} {A : Around} (r : Room (k + 1) A) : Room k A.in1 :=
  ⟨r.hd, by have := r.dp; show A.depth + 3 * k + 5 < _; omega, by have := r.un; show A.units + 1 + 16 * k + 200 < _; omega⟩
theorem Room.depth {k : Nat} {A : Around} (r : Room k A) : A.depth < recursionLimit := by have := r.dp; omega
theorem Room.units {k : Nat} {A : Around} (r : Room k A) : A.units + 64 < cLine := by have := r.un; omega
def tNil : TA := fun _ H Q => Q [] H
def tCons (ta : TE) (tr : TA) : TA := fun σ H Q => ta σ H fun x H1 => tr σ H1 fun xs H2 => Q (x :: xs) H2
section
variable {X : Cx} {e : Expr} {es : List Expr} {te : TE} {t : TA} {pos : Pos}
theorem pa_nil : PA X [] tNil := fun _ _ _ _ H Q I h => Calls.spliced_nil ⟨[], H, I, .nil, h⟩
theorem pa_cons (ha : PE X e te) (hr : PA X es t) (hs : starEach (e :: es) X.env = (false, eval e X.env) :: starEach es X.env := by rfl) : PA X (e :: es) (tCons te t) := by
  intro pos pins s σ H Q I h
  rw [hs]
  show wpAny _ _ (spliced ((false, eval e X.env) :: backTo pos (starEach es X.env))) _ _ s
  refine Calls.spliced_cons (thn (ha pins s σ H _ I h) fun u s1 ⟨x, H1, I1, r1, q1⟩ => ?_)
  exact thn (hr pos pins s1 σ H1 _ I1 q1) fun us s2 ⟨xs, H2, I2, r2, q2⟩ => ⟨x :: xs, H2, I2, .cons r1 r2, q2⟩
def tTup (t : TA) : TE := fun σ H Q => t σ H fun xs H1 => xs.length ≤ sizeLine ∧ ∀ p, H1 p = none → Q (.ref p) (upd H1 p (.tup xs))
def tLst (t : TA) : TE := fun σ H Q => t σ H fun xs H1 => xs.length ≤ sizeLine ∧ ∀ p, H1 p = none → Q (.ref p) (upd H1 p (.lst xs))
theorem pe_tup {x1} (h : PA X es t) : PE X (.Tuple es x1 pos) (tTup t) := by
  intro pins s σ H Q I hq
  refine wpAny_Tuple_spliced (thn (h pos pins s σ H _ I hq) fun us s1 ⟨xs, H1, I1, r, z, q⟩ => ⟨by rw [← r.length]; exact z, ?_⟩)
  have hf : H1 s1.heap.objs.size = none := I1.hok.fresh (Nat.le_refl _)
  refine ⟨.ref s1.heap.objs.size, upd H1 s1.heap.objs.size (.tup xs), I1.laid (t' := s1.toks) (fun b u e => Heap.get?_push_of_some _ e) (Nat.le_refl _) ?_, rfl, q _ hf⟩
  exact ⟨z, us, r, ⟨_, Heap.get?_push_size _ rfl, rfl, _, rfl⟩⟩
theorem pe_lst (h : PA X es t) : PE X (.List es pos) (tLst t) := by
  intro pins s σ H Q I hq
  refine wpAny_List_spliced (thn (h pos pins s σ H _ I hq) fun us s1 ⟨xs, H1, I1, r, z, q⟩ => ⟨by rw [← r.length]; exact z, ?_⟩)
  have hf : H1 s1.heap.objs.size = none := I1.hok.fresh (Nat.le_refl _)
  refine ⟨.ref s1.heap.objs.size, upd H1 s1.heap.objs.size (.lst xs), I1.laid (t' := s1.toks) (fun b u e => Heap.get?_push_of_some _ e) (Nat.le_refl _) ?_, rfl, q _ hf⟩
  exact ⟨z, us, 0, r, Heap.get?_push_size _ rfl⟩
end
abbrev Sp := List V → Hp → VK → XK → Prop
abbrev CXT := List Env → Hp → Shared → XK → Value → Shared → Prop
structure Env0 (P : Program) (w : World) (K : PySem.W.Frag) (mg : Str → Option Value) (base : Heap) (A : Around) (outer : List Env) (s : Shared) (H : Hp) : Prop where
  frames : A.frames = some outer
  mod : Mod K mg base
  bs : ∀ b o, base.get? b = some o → s.heap.get? b = some o ∧ H b = none
  bsz : base.objs.size ≤ s.heap.objs.size
  funs : s.heap.FunFrames base outer
  frf : ∀ b ∈ frs outer, H b = none
  hok : HOk P w H s.heap
  bare : AllBare s.gens
def CE (outer : List Env) (P : Program) (w : World) (H : Hp) (s : Shared) (Q : VK) (u : Value) (s' : Shared) : Prop :=
  ∃ v H', s'.os = s.os ∧ AllBare s'.gens ∧ Un (frs outer) [] H H' s.heap s'.heap ∧ HOk P w H' s'.heap ∧ RelV v u ∧ Q v H'
def CR (CX : CXT) (outer : List Env) (P : Program) (w : World) (H : Hp) (s : Shared) (Q : VK) (E : XK) (r : Result) (s' : Shared) : Prop :=
  match r with
  | .ok (.ret u) => CE outer P w H s Q u s'
  | .ok _ => False
  | .error e => CX outer H s E e s'
structure FnOk (P : Program) (w : World) (K : PySem.W.Frag) (mg : Str → Option Value) (base : Heap) (CX : CXT) (k : Nat) (f : Addr) (fd : FuncData) (ps : List Str) (sp : Sp) : Prop where
  len : ∀ vs H Q E, sp vs H Q E → vs.length = ps.length
  run : ∀ (A : Around) (outer : List Env) (s : Shared) (H : Hp) (args : Args) (us : List Value) (vs : List V) (Q : VK) (E : XK), Room k A → Env0 P w K mg base A outer s H → BindsTo s fd args (ps.zip us) → Vals vs us → sp vs H Q E →
    codeAny (model P w) A (.call (.ref f) args) (CR CX outer P w H s Q E) s
theorem FnOk.mono {P : Program} {w : World} {K : PySem.W.Frag} {mg : Str → Option Value} {base : Heap} {CX : CXT} {j k : Nat} {f : Addr} {fd : FuncData} {ps : List Str} {sp : Sp} (F : FnOk P w K mg base CX j f fd ps sp) (h : j ≤ k) :
    FnOk P w K mg base CX k f fd ps sp := ⟨F.len, fun A outer s H args us vs Q E hr => F.run A outer s H args us vs Q E (hr.mono h)⟩
theorem FnOk.imp {P : Program} {w : World} {K : PySem.W.Frag} {mg : Str → Option Value} {base : Heap} {CX : CXT} {k : Nat} {f : Addr} {fd : FuncData} {ps : List Str} {sp sp' : Sp} (F : FnOk P w K mg base CX k f fd ps sp)
    (h : ∀ vs H Q E, sp' vs H Q E → sp vs H Q E) : FnOk P w K mg base CX k f fd ps sp' :=
  ⟨fun vs H Q E q => F.len vs H Q E (h _ _ _ _ q), fun A outer s H args us vs Q E hr he hb hv hs => F.run A outer s H args us vs Q E hr he hb hv (h _ _ _ _ hs)⟩
theorem Env0.in1 {P : Program} {w : World} {K : PySem.W.Frag} {mg : Str → Option Value} {base : Heap} {A : Around} {outer : List Env} {s : Shared} {H : Hp} (e : Env0 P w K mg base A outer s H) :
    Env0 P w K mg base A.in1 outer s H := ⟨e.frames, e.mod, e.bs, e.bsz, e.funs, e.frf, e.hok, e.bare⟩
section
variable {X : Cx} {pins : List (Addr × Obj)} {σ : St} {H : Hp} {s s' : Shared}
theorem Inv.env0 (I : Inv X pins σ H s) : Env0 X.prog X.w X.K X.mg X.base X.A X.stack s H :=
  ⟨I.ok.frames, I.ok.mod, I.bs, Nat.le_trans I.ok.bsz I.sz, I.stack, I.stkFree, I.hok, I.bare⟩
theorem Inv.after {Q : VK} {u : Value} (I : Inv X pins σ H s) (h : CE X.stack X.prog X.w H s Q u s') : EP X pins σ Q u s' := by
  obtain ⟨v, H', os, bare, un, hok, r, q⟩ := h
  obtain ⟨hh, g, d, t, os'⟩ := s'
  obtain rfl : os' = s.os := os
  exact ⟨v, H', I.call (h' := hh) (g' := g) (d' := d) (t' := t) (ch := []) un hok bare (fun b z => absurd z (by simp)), r, q⟩
end
def tCall (sp : Sp) (dvs : List V) (E : XK) (t : TA) : TE := fun σ H Q => t σ H fun vs H1 => sp (vs ++ dvs) H1 Q E
def Binds (K : PySem.W.Frag) (fd : FuncData) (ps : List Str) (ds : List Value) : Prop :=
  ∀ (s : Shared) (us : List Value), K.In s.heap → (us ++ ds).length = ps.length → BindsTo s fd ⟨us, []⟩ (ps.zip (us ++ ds))
theorem Binds.all {K : PySem.W.Frag} {fd : FuncData} {ps : List Str} (h : ∀ us : List Value, us.length = ps.length → bindArgs fd ⟨us, []⟩ = pure (ps.zip us)) : Binds K fd ps [] := fun s us _ hl => by
  rw [List.append_nil] at hl ⊢
  exact .of_eq (h us hl)
def Passes (CX : CXT) (X : Cx) (E : XK) : Prop := ∀ (pins : List (Addr × Obj)) (σ : St) (H : Hp) (s : Shared) (e : Value) (s' : Shared), Inv X pins σ H s → CX X.stack H s E e s' → X.xe e s'
section
variable {X : Cx} {CX : CXT} {k : Nat} {f C : Addr} {fd : FuncData} {ps : List Str} {sp : Sp} {dvs : List V} {ds : List Value} {E : XK} {x m : Str} {p pos apos : Pos} {e o : Expr} {es : List Expr} {ta : TE} {t : TA}
theorem run_fn {pins : List (Addr × Obj)} {σ : St} {H : Hp} {s : Shared} {Q : VK} {us : List Value} {vs : List V} (F : FnOk X.prog X.w X.K X.mg X.base CX k f fd ps sp) (hr : Room k X.A) (hb : Binds X.K fd ps ds) (hd : Vals dvs ds) (hx : Passes CX X E)
    (I : Inv X pins σ H s) (r : Vals vs us) (h : sp (vs ++ dvs) H Q E) : wpAny (model X.prog X.w) X.A (call (.ref f) us) (EP X pins σ Q) X.xe s := by
  have r2 : Vals (vs ++ dvs) (us ++ ds) := r.append hd
  have hl : (us ++ ds).length = ps.length := by rw [← r2.length]; exact F.len _ _ _ _ h
  refine wpAny_call (codeAny_mono (F.run X.A X.stack s H ⟨us, []⟩ (us ++ ds) (vs ++ dvs) Q E hr I.env0 (hb s us I.kIn hl) r2 h) fun r s' hq => ?_)
  cases r with
  | error e => exact hx pins σ H s e s' I hq
  | ok fl =>
    cases fl with
    | ret u => exact I.after hq
    | next => exact False.elim hq
    | brk => exact False.elim hq
    | cont => exact False.elim hq
theorem pe_call (F : FnOk X.prog X.w X.K X.mg X.base CX k f fd ps sp) (hr : Room k X.A) (hg : Gl X x) (hm : X.mg x = some (.ref f)) (hk : PySem.W.keepIn X.K (.ref f) = true) (hb : Binds X.K fd ps ds) (hd : Vals dvs ds) (hx : Passes CX X E)
    (ha : PA X (e :: es) t) (hdb : (x == ("__debug__" : Str)) = false := by decide) (he : starEach (e :: es) X.env = (false, eval e X.env) :: starEach es X.env := by rfl) (hpl : (backTo pos (starEach es X.env)).any (·.1) = false := by rfl) :
    PE X (.Call (.Name x p) (e :: es) [] pos) (tCall sp dvs E t) := by
  intro pins s σ H Q I h
  refine wpAny_Call_Name_kw (ld_glob I hg hm ?_ hdb)
  refine PySem.W.callWith_K (h₀ := X.base) I.ok.mod.kin hk (thn (ha pos pins s σ H _ I h) fun us s1 ⟨vs, H1, I1, r, q⟩ => ⟨I1.kIn, ?_⟩) he hpl
  exact run_fn F hr hb hd hx I1 r q
structure Mk (K : PySem.W.Frag) (C f : Addr) : Prop where
  makes : PySem.W.makesIn K C = true
  init : PySem.W.findIn K (.ref C) "__init__" = some (some (.ref f))
  fn : PySem.W.isFn K (.ref f) = true
  kp : PySem.W.keepIn K (.ref C) = true
end
section
variable {X : Cx} {CX : CXT} {k : Nat} {f C : Addr} {fd : FuncData} {ps ks : List Str} {sp : Sp} {E : XK} {x m : Str} {p pos apos kpos : Pos} {e o : Expr} {es : List Expr} {kws : List Keyword} {te ta : TE} {t tk : TA} {nm : Option Str}
structure KBinds (K : PySem.W.Frag) (fd : FuncData) (ps ks : List Str) (g : List Value → List Value → List Value) (gV : List V → List V → List V) : Prop where
  to : ∀ (s : Shared) (us ws : List Value), K.In s.heap → (g us ws).length = ps.length → BindsTo s fd ⟨us, ks.zip ws⟩ (ps.zip (g us ws))
  rel : ∀ {vs : List V} {us : List Value} {zs : List V} {ws : List Value}, Vals vs us → Vals zs ws → Vals (gV vs zs) (g us ws)
variable {g : List Value → List Value → List Value} {gV : List V → List V → List V}
end
structure FnScope (N P : List Str) (sc : Scope) : Prop where
  kind : sc.kind = .function
  co : sc.isCoroutine = false
  gen : sc.isGenerator = false
  nd : N.Nodup
  pre : N.take P.length = P
  par : ∀ x ∈ P, sc.names.lookup x = some .local ∨ sc.names.lookup x = some .cell
  nofree : ∀ y ∈ sc.names, y.2 ≠ .free
theorem bindL_out {kindOf : Str → Option NameKind} {x : Str} : ∀ {binds : List (Str × Value)} {m : Str → Option Value}, (∀ v, (x, v) ∉ binds) → bindL kindOf binds m x = m x
  | [], _, _ => rfl
  | (n, v) :: r, m, h => by
    unfold bindL
    rw [bindL_out fun w hw => h w (List.mem_cons_of_mem _ hw)]
    split
    · have : x ≠ n := by rintro rfl; exact h v List.mem_cons_self
      simp [this]
    · rfl
theorem bindC_out {kindOf : Str → Option NameKind} {x : Str} : ∀ {binds : List (Str × Value)} {m : Str → Option Value}, (∀ v, (x, v) ∉ binds) → bindC kindOf binds m x = m x
  | [], _, _ => rfl
  | (n, v) :: r, m, h => by
    unfold bindC
    rw [bindC_out fun w hw => h w (List.mem_cons_of_mem _ hw)]
    split
    · rfl
    · have : x ≠ n := by rintro rfl; exact h v List.mem_cons_self
      simp [this]
theorem bindL_get {kindOf : Str → Option NameKind} {x : Str} {v : Value} : ∀ {P : List Str} {vs : List Value} {i : Nat} {m : Str → Option Value}, P.Nodup → P[i]? = some x → vs[i]? = some v → kindOf x = some .local →
    bindL kindOf (P.zip vs) m x = some v
  | [], _, _, _, _, h, _, _ => by simp at h
  | _ :: _, [], _, _, _, _, h, _ => by simp at h
  | p :: P, w :: vs, 0, m, nd, h1, h2, hk => by
    simp at h1 h2; subst h1; subst h2
    show bindL kindOf ((p, w) :: P.zip vs) m p = _
    unfold bindL
    rw [bindL_out fun v hv => (List.nodup_cons.mp nd).1 (List.of_mem_zip hv).1, if_pos hk]
    simp
  | p :: P, w :: vs, i + 1, m, nd, h1, h2, hk => by
    show bindL kindOf ((p, w) :: P.zip vs) m x = _
    unfold bindL
    exact bindL_get (i := i) (List.nodup_cons.mp nd).2 (by simpa using h1) (by simpa using h2) hk
theorem bindC_get {kindOf : Str → Option NameKind} {x : Str} {v : Value} : ∀ {P : List Str} {vs : List Value} {i : Nat} {m : Str → Option Value}, P.Nodup → P[i]? = some x → vs[i]? = some v → kindOf x ≠ some .local →
    bindC kindOf (P.zip vs) m x = some v
  | [], _, _, _, _, h, _, _ => by simp at h
  | _ :: _, [], _, _, _, _, h, _ => by simp at h
  | p :: P, w :: vs, 0, m, nd, h1, h2, hk => by
    simp at h1 h2; subst h1; subst h2
    show bindC kindOf ((p, w) :: P.zip vs) m p = _
    unfold bindC
    rw [bindC_out fun v hv => (List.nodup_cons.mp nd).1 (List.of_mem_zip hv).1, if_neg hk]
    simp
  | p :: P, w :: vs, i + 1, m, nd, h1, h2, hk => by
    show bindC kindOf ((p, w) :: P.zip vs) m x = _
    unfold bindC
    exact bindC_get (i := i) (List.nodup_cons.mp nd).2 (by simpa using h1) (by simpa using h2) hk
def start (N : List Str) (vs : List V) : St := vs.map some ++ List.replicate (N.length - vs.length) none
def cxOf (CX : CXT) (P : Program) (w : World) (K : PySem.W.Frag) (mg : Str → Option Value) (base : Heap) (N : List Str) (qual : Str) (scope : Scope) (f : Addr) (cd : Value) (A : Around) (outer : List Env) (s : Shared) (H : Hp) (E : XK) : Cx where
  prog := P
  w := w
  K := K
  mg := mg
  base := base
  A := A.deeper (envOfC qual scope s.heap.objs.size f cd)
  N := N
  s₀ := s
  H₀ := H
  env := envOfC qual scope s.heap.objs.size f cd
  outer := outer
  stack := envOfC qual scope s.heap.objs.size f cd :: outer
  ex := []
  calm := true
  fn := fun _ => true
  pn := []
  xe := fun e s' => wpAny (model P w) (A.deeper (envOfC qual scope s.heap.objs.size f cd)) (leaving (envOfC qual scope s.heap.objs.size f cd) e) (fun _ s'' => CX outer H s E e s'') (fun e' s'' => CX outer H s E e' s'') s'
theorem cell_has {sc : Scope} {n : Nat} {x : Str} (h : sc.names.lookup x = some .cell) : ∃ c, (cellsFrom n sc.names []).lookup x = some c := by
  have q := PySem.W.cellsFrom_some sc.names n [] (.inl h)
  exact Option.isSome_iff_exists.mp q
theorem inv_start {CX : CXT} {P : Program} {w : World} {K : PySem.W.Frag} {mg : Str → Option Value} {base : Heap} {N ps : List Str} {qual : Str} {scope : Scope} {f : Addr} {cd : Value} {A : Around} {outer : List Env} {s s1 : Shared} {H : Hp} {E : XK} {us : List Value} {vs : List V}
    (S : FnScope N ps scope) (hd : A.handled = none) (e0 : Env0 P w K mg base A outer s H) (hl : vs.length = ps.length) (r : Vals vs us)
    (x : InCallC s s.heap.objs.size (bindL (envOfC qual scope s.heap.objs.size f cd).kindOf (ps.zip us) fun _ => none) (cellsFrom (s.heap.objs.size + 1) scope.names []) (bindC (envOfC qual scope s.heap.objs.size f cd).kindOf (ps.zip us) fun _ => none) s1) :
    Inv (cxOf CX P w K mg base N qual scope f cd A outer s H E) [] (start N vs) H s1 := by
  have hpl : ps.length ≤ N.length := by have := congrArg List.length S.pre; rw [List.length_take] at this; omega
  obtain ⟨h1, tk, rfl, hk⟩ := x.done
  have noA : ∀ b : Addr, b ∉ (cxOf CX P w K mg base N qual scope f cd A outer s H E).ex := fun b z => absurd (show b ∈ ([] : List Addr) from z) (by simp)
  refine ⟨⟨e0.mod, S.kind, rfl, rfl, Nat.le_refl _, fun y z c h1 h2 => ?_, fun y hy => ?_, fun y c _ h => ?_, fun _ => hd, Around.frames_deeper e0.frames, .inr ⟨rfl, rfl⟩, fun b z => absurd z (noA b), e0.bs, e0.bsz, fun b _ _ => noA b, fun b z => absurd z (noA b), e0.funs, e0.frf⟩,
    rfl, e0.bare, Un.kept hk, ⟨_, x.toInCall.ns, fun i y v h1 h2 h3 => ?_⟩, fun y c h => ⟨_, x.cell y c h⟩, e0.hok.fresh (Nat.le_refl _), fun y c h => ?_, fun p hp => absurd (show p ∈ ([] : List (Addr × Obj)) from hp) (by simp), e0.hok.kept hk, ?_⟩
  · exact name_of_addr x.apart (PySem.mem_of_lookup h1) (PySem.mem_of_lookup h2)
  · have hy : scope.names.lookup y = some .cell ∨ scope.names.lookup y = some .free := hy
    rcases hy with hy | hy
    · exact cell_has hy
    · exact absurd rfl (S.nofree _ (PySem.mem_of_lookup hy))
  · exact Nat.le_of_lt (x.above y c (PySem.mem_of_lookup h))
  · have hi : i < vs.length := by
      unfold start at h2
      by_cases hi : i < vs.length
      · exact hi
      · rw [List.getElem?_append_right (by simpa using hi)] at h2
        rw [List.getElem?_replicate] at h2
        split at h2 <;> cases h2
    have ha : vs[i]? = some v := by
      unfold start at h2
      rw [List.getElem?_append_left (by simpa using hi), List.getElem?_map] at h2
      cases e : vs[i]? with
      | none => rw [e] at h2; cases h2
      | some a => rw [e] at h2; cases h2; rfl
    obtain ⟨u, hu, rv⟩ := r.get ha
    have hp : ps[i]? = some y := by
      rw [← S.pre, List.getElem?_take_of_lt (by omega)]; exact h1
    have ndP : ps.Nodup := by rw [← S.pre]; exact S.nd.sublist (List.take_sublist _ _)
    refine ⟨u, rv, ?_⟩
    rcases S.par y (List.mem_of_getElem? hp) with k | k
    · exact .inl ⟨k, bindL_get ndP hp hu k⟩
    · obtain ⟨c, e⟩ := cell_has (n := s.heap.objs.size + 1) k
      refine .inr ⟨.inl k, c, e, ?_⟩
      have q := x.cell y c e
      rw [bindC_get ndP hp hu (by show scope.names.lookup y ≠ _; rw [k]; decide)] at q
      exact q
  · exact e0.hok.fresh (Nat.le_of_lt (x.above y c (PySem.mem_of_lookup h)))
  · unfold start
    show _ = N.length
    rw [List.length_append, List.length_map, List.length_replicate]
    omega
theorem fn_of {CX : CXT} {P : Program} {w : World} {K : PySem.W.Frag} {mg : Str → Option Value} {base : Heap} {k : Nat} {f : Addr} {name qual : Str} {params : Arguments} {body : List Stmt} {scope : Scope} {dV kV doc pm cdv ct oc : Value} {an od : Option Addr}
    {osl : Array (Option Value)} {N ps : List Str} {sp : Sp} (lk : K.lookup f = some ⟨oc, od, .func (PySem.W.fnOf name qual params body scope dV kV doc pm an cdv ct), osl⟩) (hcd : PySem.W.codeIn K cdv qual = true) (S : FnScope N ps scope)
    (len : ∀ vs H Q E, sp vs H Q E → vs.length = ps.length)
    (hbody : ∀ (A : Around) (outer : List Env) (s : Shared) (H : Hp) (vs : List V) (Q : VK) (E : XK), Room k (A.deeper (envOfC qual scope s.heap.objs.size f cdv)) → sp vs H Q E →
      ∃ t, PSs (cxOf CX P w K mg base N qual scope f cdv A outer s H E) body t ∧ t { nx := fun _ H' => Q .non H', rt := Q } (start N vs) H) :
    FnOk P w K mg base CX (k + 1) f (PySem.W.fnOf name qual params body scope dV kV doc pm an cdv ct) ps sp := by
  refine ⟨len, fun A outer s H args us vs Q E hr e0 hb r hsp => ?_⟩
  have hl := len _ _ _ _ hsp
  have KX : K.In s.heap := e0.mod.kin.keeps fun b o e => (e0.bs b o e).1
  have lim : s.heap.NoLimit := e0.mod.nolimit.keeps fun b o e => (e0.bs b o e).1
  have hkind : ∀ y ∈ ps.zip us, scope.names.lookup y.1 = some .local ∨ (scope.names.lookup y.1 = some .cell ∧ ((cellsFrom (s.heap.objs.size + 1) scope.names []).lookup y.1).isSome = true) := fun ⟨n, v⟩ hy => by
    rcases S.par n (List.of_mem_zip hy).1 with q | q
    · exact .inl q
    · exact .inr ⟨q, PySem.W.cellsFrom_some _ _ _ (.inl q)⟩
  refine codeAny_call_function hr.depth (KX _ _ lk) rfl S.co S.gen rfl (PySem.W.codeRec_of KX hcd) (hb _ _ _ _ ?_)
  refine wpAny_newFunctionEnv_cells S.kind hkind fun env he s1 x => ?_
  subst he
  refine ⟨lim.keeps x.toInCall.keep, codeAny_func ?_⟩
  obtain ⟨t, ht, hq⟩ := hbody A outer s H vs Q E (hr.deeper _) hsp
  have I : Inv (cxOf CX P w K mg base N qual scope f cdv A outer s H E) [] (start N vs) H s1 := inv_start S hr.hd e0 hl r x
  refine wpAny_mono (ht [] s1 (start N vs) H _ I hq) (fun fl s' hs => ?_) fun e s' hs => hs
  have fin : ∀ {σ' : St} {H' : Hp} {v : V} {u : Value}, Inv (cxOf CX P w K mg base N qual scope f cdv A outer s H E) [] σ' H' s' → RelV v u → Q v H' → CE outer P w H s Q u s' :=
    fun {σ' H' v u} J rv q => ⟨v, H', J.os, J.bare, J.base, J.hok, rv, q⟩
  cases fl with
  | ret u =>
    obtain ⟨v, σ', H', J, rv, q⟩ := hs
    exact fin J rv q
  | next =>
    obtain ⟨σ', H', J, q⟩ := hs
    exact fin (v := V.non) (u := Value.none) J rfl q
  | brk =>
    obtain ⟨_, _, _, q⟩ := hs
    exact False.elim q
  | cont =>
    obtain ⟨_, _, _, q⟩ := hs
    exact False.elim q
end L2
namespace L2
open PySem PySem.Spec PyProof.Rows
section
variable {X : Cx} {x : Str} {p pos : Pos} {e : Expr} {es : List Expr} {t : TA} {id T : String} {r : List V → Hp → VK → Prop}
def tCB (r : List V → Hp → VK → Prop) (t : TA) : TE := fun σ H Q => t σ H fun vs H1 => r vs H1 Q
theorem pe_callB (hc : CallR X (.builtin id) r) (hg : Gl X x) (hm : X.mg x = none) (hv : bootBuiltins x = some (.builtin id)) (ha : PA X (e :: es) t) (hn : x ≠ "__name__" := by decide) (hdb : (x == ("__debug__" : Str)) = false := by decide)
    (he : starEach (e :: es) X.env = (false, eval e X.env) :: starEach es X.env := by rfl) (hpl : (backTo pos (starEach es X.env)).any (·.1) = false := by rfl) : PE X (.Call (.Name x p) (e :: es) [] pos) (tCB r t) := by
  intro pins s σ H Q I h
  refine wpAny_Call_Name_kw (ld_blt I hg hm hv ?_ hn hdb)
  exact PyProof.Rows.callWith_builtin1 (thn (ha pos pins s σ H _ I h) fun us s1 ⟨vs, H1, I1, r1, q1⟩ => hc pins s1 σ H1 vs us Q I1 r1 q1) he hpl
theorem pe_callTy (hc : CallR X (.type T) r) (hg : Gl X x) (hm : X.mg x = none) (hv : bootBuiltins x = some (.type T)) (ha : PA X (e :: es) t) (hn : x ≠ "__name__" := by decide) (hdb : (x == ("__debug__" : Str)) = false := by decide)
    (he : starEach (e :: es) X.env = (false, eval e X.env) :: starEach es X.env := by rfl) (hpl : (backTo pos (starEach es X.env)).any (·.1) = false := by rfl) : PE X (.Call (.Name x p) (e :: es) [] pos) (tCB r t) := by
  intro pins s σ H Q I h
  refine wpAny_Call_Name_kw (ld_blt I hg hm hv ?_ hn hdb)
  exact PyProof.Rows.callWith_type1 (thn (ha pos pins s σ H _ I h) fun us s1 ⟨vs, H1, I1, r1, q1⟩ => hc pins s1 σ H1 vs us Q I1 r1 q1) he hpl
end
end L2
namespace HT
open PySem PyProof.Rows
section
open PySem.SeqAt
open PySem.AutoSeq1 (wpAny_loadPart')
open PySem.MeetsSeq PySem.MeetsSeq2 PySem.MeetsSeq3
end
section
variable {prog : Program} {w : World} {A : Around} {E : Value → Shared → Prop} {s : Shared}
theorem cat_tup {t b : Addr} {vs ws : List Value} {Q : Value → Shared → Prop} (ht : IsTup s.heap t vs.toArray) (hb : IsTup s.heap b ws.toArray) (hv : vs ≠ [])
    (h1 : ws = [] → Q (.ref t) s) (h2 : ws ≠ [] → Q (.ref s.heap.objs.size) { s with heap := s.heap.push { cls := .type "tuple", data := .seq (vs ++ ws).toArray } })
    (hsz : vs.length + ws.length ≤ sizeLine) : wpAny (model prog w) A (binaryOp .Add (.ref t) (.ref b)) Q E s := by
  obtain ⟨⟨cls, dd, data, sl⟩, ho, hc, n, hd⟩ := id ht
  obtain ⟨⟨cls2, dd2, data2, sl2⟩, ho2, hc2, n2, hd2⟩ := id hb
  simp only at hc hd hc2 hd2
  subst hc hd hc2 hd2
  have e : vs.toArray ++ ws.toArray = (vs ++ ws).toArray := by simp
  by_cases hw : ws = []
  · exact concat_meets ⟨_, ho, rfl⟩ ⟨_, ho2, rfl⟩ noFill_tuple_add seq_tuple_add PySem.F.slot_tuple_add PySem.F.entry_tuple_add (PySem.F.args_tuple_add_2 _ _)
      (tuple_addW1 t b vs.toArray ws.toArray n n2 dd dd2 sl sl2 (by simpa using hv) (by simp [hw])) ⟨ho, ho2, h1 hw⟩
  · refine concat_meets ⟨_, ho, rfl⟩ ⟨_, ho2, rfl⟩ noFill_tuple_add seq_tuple_add PySem.F.slot_tuple_add PySem.F.entry_tuple_add (PySem.F.args_tuple_add_2 _ _)
      (tuple_addW2 t b vs.toArray ws.toArray n n2 dd dd2 sl sl2 (by simpa using hv) (by simpa using hw) (by rw [List.size_toArray, List.size_toArray]; exact hsz)) ⟨ho, ho2, ?_⟩
    rw [e]
    exact h2 hw
def sIx (n d : Nat) : Option Int → Nat
  | none => d
  | some v => if v < 0 then (v + (n : Int)).toNat else min v.toNat n
theorem sIx_none (n d : Nat) : sIx n d none = d := rfl
theorem sIx_nat (n d k : Nat) : sIx n d (some (k : Int)) = min k n := by
  show (if (k : Int) < 0 then ((k : Int) + (n : Int)).toNat else min (k : Int).toNat n) = min k n
  rw [if_neg (by omega), Int.toNat_natCast]
theorem sIx_le (n d : Nat) (hd : d ≤ n) (o : Option Int) : sIx n d o ≤ n := by
  cases o with
  | none => exact hd
  | some v =>
    show (if v < 0 then (v + (n : Int)).toNat else min v.toNat n) ≤ n
    by_cases hv : v < 0
    · rw [if_pos hv]; omega
    · rw [if_neg hv]; exact Nat.min_le_right _ _
theorem clip_eq (v : Int) (n d : Nat) : (if v < 0 then max (v + (n : Int)) 0 else min v (n : Int)) = ((sIx n d (some v) : Nat) : Int) := by
  show (if v < 0 then max (v + (n : Int)) 0 else min v (n : Int)) = (((if v < 0 then (v + (n : Int)).toNat else min v.toNat n) : Nat) : Int)
  by_cases hv : v < 0
  · simp only [if_pos hv]; omega
  · simp only [if_neg hv]; omega
theorem adjust_gen (lo hi : Option Int) (n : Nat) : Builtin.Slice.sliceAdjust lo hi 1 (n : Int) = (((sIx n 0 lo : Nat) : Int), ((sIx n n hi : Nat) : Int)) := by
  have h1 : ¬ ((1 : Int) < 0) := by omega
  unfold Builtin.Slice.sliceAdjust
  simp only [h1, if_false]
  refine Prod.ext ?_ ?_
  · cases lo with
    | none => rfl
    | some v => exact clip_eq v n 0
  · cases hi with
    | none => rfl
    | some v => exact clip_eq v n n
theorem places_gen (i j : Nat) : Builtin.Slice.slicePlaces (i : Int) (j : Int) 1 = j - i := by
  unfold Builtin.Slice.slicePlaces
  have h1 : (1 : Int) > 0 := by omega
  simp only [h1, if_true, Int.ediv_one]
  split <;> omega
theorem slicePart_ {v : Value} {o : Option Int} {Q : Option Int → Shared → Prop} (p : IsPart v o) (h : Q o s) : wpAny (model prog w) A (Builtin.Slice.slicePartIndex v) Q E s := by
  cases p with
  | none => exact slicePart_none h
  | int i t => exact slicePart_int h
theorem sliceApplied_gen {sl : Addr} {vl vu : Value} {lo hi : Option Int} {n : Nat} {Q : Int × Int × Nat → Shared → Prop} (hs : s.heap.IsSliceOf sl vl vu .none) (pl : IsPart vl lo) (pu : IsPart vu hi)
    (h : Q (((sIx n 0 lo : Nat) : Int), 1, sIx n n hi - sIx n 0 lo) s) : wpAny (model prog w) A (Builtin.Slice.sliceApplied (.ref sl) (pure (n : Int))) Q E s := by
  obtain ⟨os, hos, hcs, hds⟩ := id hs
  unfold Builtin.Slice.sliceApplied Builtin.Slice.sliceFields
  refine wpAny_bind (wpAny_bind (wpAny_field hos hds (x := vl) rfl (wpAny_bind (wpAny_field hos hds (x := vu) rfl (wpAny_bind (wpAny_field hos hds (x := .none) rfl (wpAny_pure ?_)))))))
  refine wpAny_bind (slicePart_none ?_)
  show wpAny _ _ (if ((1 : Int) == 0) = true then _ else _) _ _ s
  rw [if_neg (by decide)]
  refine wpAny_bind (slicePart_ pl (wpAny_bind (slicePart_ pu (wpAny_bind (wpAny_pure ?_)))))
  show wpAny _ _ (match Builtin.Slice.sliceAdjust lo hi 1 (n : Int) with | (lo, hi) => pure (lo, (1 : Int), Builtin.Slice.slicePlaces lo hi 1)) _ _ s
  rw [adjust_gen lo hi n]
  show wpAny _ _ (pure (((sIx n 0 lo : Nat) : Int), (1 : Int), Builtin.Slice.slicePlaces ((sIx n 0 lo : Nat) : Int) ((sIx n n hi : Nat) : Int) 1)) _ _ s
  rw [places_gen]
  exact wpAny_pure h
theorem pick_gen (xs : Array Value) (i k : Nat) : ((List.range k).filterMap fun (m : Nat) => xs[((i : Int) + (m : Int) * 1).toNat]?).toArray = ((xs.toList.drop i).take k).toArray := by
  have e : (fun (m : Nat) => xs[((i : Int) + (m : Int) * 1).toNat]?) = fun m => xs[i + m]? := by
    funext m
    have : ((i : Int) + (m : Int) * 1).toNat = i + m := by omega
    rw [this]
  rw [e]
  have := pick_run xs i k
  rw [List.filterMap_map] at this
  have e2 : ((fun x => xs[x]?) ∘ fun x => i + x) = fun m => xs[i + m]? := rfl
  rw [e2] at this
  rw [this]
theorem getItem_tuple_cut {t sl : Addr} {items : Array Value} {vl vu : Value} {lo hi : Option Int} {Q : Value → Shared → Prop} (ht : IsTup s.heap t items) (hs : s.heap.IsSliceOf sl vl vu .none) (pl : IsPart vl lo) (pu : IsPart vu hi)
    (hw : ¬ (sIx items.size 0 lo = 0 ∧ sIx items.size items.size hi = items.size))
    (h : Q (.ref s.heap.objs.size) { s with heap := s.heap.push { cls := .type "tuple", data := .seq ((items.toList.drop (sIx items.size 0 lo)).take (sIx items.size items.size hi - sIx items.size 0 lo)).toArray } })
    (hsz : items.size ≤ sizeLine) : wpAny (model prog w) A (getItem (.ref t) (.ref sl)) Q E s := by
  have htake : sizeOk (.seq ((items.toList.drop (sIx items.size 0 lo)).take (sIx items.size items.size hi - sIx items.size 0 lo)).toArray) := by
    show ((items.toList.drop (sIx items.size 0 lo)).take (sIx items.size items.size hi - sIx items.size 0 lo)).toArray.size ≤ sizeLine
    rw [List.size_toArray, List.length_take, List.length_drop, Array.length_toList]
    omega
  have hj : sIx items.size items.size hi ≤ items.size := sIx_le _ _ (Nat.le_refl _) hi
  obtain ⟨os, hos, hcs, hds⟩ := id hs
  have hTs : s.TypeIs (.ref sl) "slice" := ⟨os, hos, hcs⟩
  unfold getItem
  try with_reducible refine wpAny_holding ?_
  first | refine wpAny_bind (wpAny_pure ?_) | skip
  refine wpAny_bind (wpAny_sequenceKey ht.typeIs (by decide) ?_)
  refine wpAny_bind (wpAny_callSpecial?_slot (name := Str.ofString "__getitem__") ht.typeIs PyProof.Rows.slot_tuple_getitem
    (wpAny_call_entry PyProof.Rows.slot_tuple_getitem ht.typeIs entry_tuple_getitem ?_ (args_tuple_getitem _ _)))
  show wpAny _ _ (Builtin.Tuple.tupleItemsOf (.ref t) >>= _) _ _ s
  refine wpAny_bind (tupleItemsOf_ ht ?_)
  refine wpAny_bind (wpAny_typeOf hTs ?_)
  rw [if_pos (by decide)]
  refine wpAny_bind (sliceApplied_gen hs pl pu ?_)
  have hno : ¬ ((((sIx items.size 0 lo : Nat) : Int) == 0 && (1 : Int) == 1 && (sIx items.size items.size hi - sIx items.size 0 lo) == items.size) = true) := by
    intro q
    rw [Bool.and_eq_true, Bool.and_eq_true] at q
    have q1 : ((sIx items.size 0 lo : Nat) : Int) = 0 := eq_of_beq q.1.1
    have q2 : sIx items.size items.size hi - sIx items.size 0 lo = items.size := eq_of_beq q.2
    exact hw ⟨by omega, by omega⟩
  show wpAny _ _ (if (((sIx items.size 0 lo : Nat) : Int) == 0 && (1 : Int) == 1 && (sIx items.size items.size hi - sIx items.size 0 lo) == items.size) = true then _ else _) _ _ s
  rw [if_neg hno, pick_gen]
  first
    | exact wpAny_bind (m := Builtin.Tuple.tupleExact _) (wpAny_newObj_type (wpAny_pure ⟨_, rfl, wpAny_pure h⟩) htake)
    | exact wpAny_bind (m := Builtin.Tuple.tupleExact _) (wpAny_newObj_type (wpAny_bind (wpAny_pure (wpAny_pure ⟨_, rfl, wpAny_pure h⟩))) htake)
    | exact wpAny_bind (wpAny_bind (m := Builtin.Tuple.tupleExact _) (wpAny_newObj_type (wpAny_pure (wpAny_pure ⟨_, rfl, wpAny_pure h⟩)) htake))
    | exact wpAny_bind (wpAny_bind (m := Builtin.Tuple.tupleExact _) (wpAny_newObj_type (wpAny_pure ⟨_, rfl, wpAny_pure h⟩) htake))
end
end HT
namespace L2
open PySem PySem.Spec PyProof.Rows
abbrev TO := St → Hp → (Option Int → Hp → Prop) → Prop
def PO (X : Cx) (e : Option Expr) (t : TO) : Prop :=
  ∀ (pins : List (Addr × Obj)) (s : Shared) (σ : St) (H : Hp) (Q : Option Int → Hp → Prop), Inv X pins σ H s → t σ H Q →
    wpAny (model X.prog X.w) X.A (evalPart e X.env) (fun u s' => ∃ o H', Inv X pins σ H' s' ∧ IsPart u o ∧ Q o H') X.xe s
def tNoPart : TO := fun _ H Q => Q none H
def tPart (t : TE) : TO := fun σ H Q => t σ H fun x H1 => ∃ i, x = .int i ∧ Q (some i) H1
theorem intsAre_of {ns : List Int} : ∀ {us : List Value}, Vals (ns.map V.int) us → IntsAre us ns := by
  induction ns with
  | nil => intro us r; rw [List.map_nil] at r; cases r; exact .nil
  | cons n ns ih =>
    intro us r
    rw [List.map_cons] at r
    cases r with
    | cons r1 r2 =>
      obtain ⟨t, e⟩ := r1
      subst e
      exact .cons n t (ih r2)
section
variable {X : Cx} {e : Expr} {te : TE} {lo hi : Option Expr} {tl th : TO} {pos p2 : Pos}
theorem po_none : PO X none tNoPart := by
  intro pins s σ H Q I h
  rw [evalPart_none]
  exact wpAny_pure ⟨none, H, I, .none, h⟩
theorem po_some (h : PE X e te) : PO X (some e) (tPart te) := by
  intro pins s σ H Q I hw
  rw [evalPart_some]
  refine thn (h pins s σ H _ I hw) fun u s1 ⟨x, H1, I1, r1, q1⟩ => ?_
  obtain ⟨i, rfl, q⟩ := q1
  obtain ⟨t, rfl⟩ := r1
  exact ⟨some i, H1, I1, .int i t, q⟩
def SlR (X : Cx) (r : V → Option Int → Option Int → Hp → VK → Prop) : Prop :=
  ∀ (pins : List (Addr × Obj)) (s : Shared) (σ : St) (H : Hp) (x : V) (v vl vu : Value) (lo hi : Option Int) (sl : Addr) (Q : VK), Inv X pins σ H s → RelV x v → s.heap.IsSliceOf sl vl vu .none → IsPart vl lo → IsPart vu hi → r x lo hi H Q →
    ∃ T id, typeLookup (.type T) "__getitem__" = pure (some (.builtin id)) ∧ s.TypeIs v T ∧ wpAny (model X.prog X.w) X.A (getItem v (.ref sl)) (EP X pins σ Q) X.xe s
def tSl (r : V → Option Int → Option Int → Hp → VK → Prop) (te : TE) (tl th : TO) : TE := fun σ H Q => te σ H fun x H1 => tl σ H1 fun l H2 => th σ H2 fun u H3 => r x l u H3 Q
theorem pe_slice {r : V → Option Int → Option Int → Hp → VK → Prop} (hr : SlR X r) (he : PE X e te) (hl : PO X lo tl) (hu : PO X hi th) : PE X (.Subscript e (.Slice lo hi none p2) pos) (tSl r te tl th) := by
  intro pins s σ H Q I h
  refine Subscript_ (thn (he pins s σ H _ I h) fun v s1 ⟨x, H1, I1, r1, q1⟩ => ?_)
  refine wpAny_Slice (thn (hl pins s1 σ H1 _ I1 q1) fun vl s2 ⟨l, H2, I2, pl, q2⟩ => thn (hu pins s2 σ H2 _ I2 q2) fun vu s3 ⟨u, H3, I3, pu, q3⟩ => ?_)
  rw [evalPart_none]
  refine wpAny_pure ?_
  have I4 : Inv X pins σ H3 { s3 with heap := s3.heap.push { cls := .type "slice", data := .fields #[vl, vu, .none] } } := I3.kept (t' := s3.toks) fun b ob q => Heap.get?_push_of_some _ q
  obtain ⟨T, id, hT, ht, hg⟩ := hr pins { s3 with heap := s3.heap.push { cls := .type "slice", data := .fields #[vl, vu, .none] } } σ H3 x v vl vu l u s3.heap.objs.size Q I4 r1 (Heap.IsSliceOf.new ..) pl pu q3
  show wpAny (model X.prog X.w) X.A (subscriptTail e (.Slice lo hi none p2) v (.ref s3.heap.objs.size)) (EP X pins σ Q) X.xe { s3 with heap := s3.heap.push { cls := .type "slice", data := .fields #[vl, vu, .none] } }
  exact tail_any (ops := [.ref s3.heap.objs.size, v]) ht hT hg (by with_unfolding_all rfl)
def cutV (xs : List V) (lo hi : Option Int) : List V := (xs.drop (HT.sIx xs.length 0 lo)).take (HT.sIx xs.length xs.length hi - HT.sIx xs.length 0 lo)
theorem cutV_length (xs : List V) (lo hi : Option Int) : (cutV xs lo hi).length ≤ xs.length := by
  unfold cutV
  rw [List.length_take, List.length_drop]
  omega
def rSlT (K : PySem.W.Frag) : V → Option Int → Option Int → Hp → VK → Prop := fun x lo hi H Q => ∃ a xs, x = .ref a ∧ SqT K H a xs ∧
  ¬ (HT.sIx xs.length 0 lo = 0 ∧ HT.sIx xs.length xs.length hi = xs.length) ∧ ∀ p, H p = none → Q (.ref p) (upd H p (.tup (cutV xs lo hi)))
theorem sl_tup : SlR X (rSlT X.K) := by
  intro pins s σ H x v vl vu lo hi sl Q I rx hs pl pu h
  obtain ⟨a, xs, rfl, hx, hw, q⟩ := h
  cases rx
  obtain ⟨its, r, ht, hz⟩ := I.tuple hx
  have hlen : its.toArray.size = xs.length := by rw [List.size_toArray]; exact r.length.symm
  refine ⟨"tuple", _, PyProof.Rows.slot_tuple_getitem.lookup, ht.typeIs, ?_⟩
  refine HT.getItem_tuple_cut ht hs pl pu (by rw [hlen]; exact hw) ?_ (by rw [hlen]; exact hz)
  rw [hlen]
  refine ⟨.ref s.heap.objs.size, _, I.laid (t' := s.toks) (o := .tup (cutV xs lo hi)) (fun b ob q => Heap.get?_push_of_some _ q) (Nat.le_refl _) ?_, rfl, q _ (I.hok.fresh (Nat.le_refl _))⟩
  exact ⟨Nat.le_trans (cutV_length xs lo hi) hz, _, (r.drop (HT.sIx xs.length 0 lo)).take (HT.sIx xs.length xs.length hi - HT.sIx xs.length 0 lo), IsTup.new _ _⟩
def rCatT (K : PySem.W.Frag) : R2 := fun x y H Q => ∃ a b xs ys, x = .ref a ∧ y = .ref b ∧ SqT K H a xs ∧ SqT K H b ys ∧ xs ≠ [] ∧ xs.length + ys.length ≤ sizeLine ∧
  (ys = [] → Q (.ref a) H) ∧ (ys ≠ [] → ∀ p, H p = none → Q (.ref p) (upd H p (.tup (xs ++ ys))))
theorem Vals.nil_iff {xs : List V} {us : List Value} (r : Vals xs us) : us = [] ↔ xs = [] := by
  cases r with
  | nil => simp
  | cons _ _ => simp
theorem op_catT : OpR X (binaryOp .Add) (rCatT X.K) := by
  intro pins s σ H x y v u Q I rx ry h
  obtain ⟨a, b, xs, ys, rfl, rfl, ha, hb, hx, hz, q1, q2⟩ := h
  cases rx
  cases ry
  obtain ⟨its, r1, p1, _⟩ := I.tuple ha
  obtain ⟨its2, r2, p2, _⟩ := I.tuple hb
  refine HT.cat_tup p1 p2 (fun z => hx (r1.nil_iff.mp z)) (fun z => ⟨.ref a, H, I, rfl, q1 (r2.nil_iff.mp z)⟩) (fun z => ?_) (by rw [← r1.length, ← r2.length]; exact hz)
  refine ⟨.ref s.heap.objs.size, _, I.laid (t' := s.toks) (o := .tup (xs ++ ys)) (fun b ob q => Heap.get?_push_of_some _ q) (Nat.le_refl _) ?_, rfl, q2 (fun w => z (r2.nil_iff.mpr w)) _ (I.hok.fresh (Nat.le_refl _))⟩
  exact ⟨by rw [List.length_append]; exact hz, _, r1.append r2, IsTup.new _ _⟩
end
end L2
namespace L2
open PySem PySem.Spec PyProof.Rows
def ixN (n : Nat) (i : Int) : Option Nat := if 0 ≤ i then (if i < n then some i.toNat else none) else if -(n : Int) ≤ i then some (i + n).toNat else none
def atI {α : Type} (xs : List α) (i : Int) : Option α := (ixN xs.length i).bind fun j => xs[j]?
theorem ixN_seq {n : Nat} {i : Int} {j : Nat} (h : ixN n i = some j) : seqIndex? i n = some j ∧ j < n ∧ -(n : Int) ≤ i ∧ i < n := by
  unfold ixN at h
  by_cases h0 : 0 ≤ i
  · rw [if_pos h0] at h
    by_cases h1 : i < n
    · rw [if_pos h1] at h
      have e : i.toNat = j := Option.some.inj h
      exact ⟨by rw [seqIndex_of h0 h1, e], by omega, by omega, h1⟩
    · rw [if_neg h1] at h; cases h
  · rw [if_neg h0] at h
    by_cases h1 : -(n : Int) ≤ i
    · rw [if_pos h1] at h
      have e : (i + n).toNat = j := Option.some.inj h
      exact ⟨by rw [seqIndex_neg (by omega) h1, e], by omega, h1, by omega⟩
    · rw [if_neg h1] at h; cases h
theorem atI_get {α : Type} {xs : List α} {i : Int} {v : α} (h : atI xs i = some v) : ∃ j, seqIndex? i xs.length = some j ∧ xs[j]? = some v ∧ j < xs.length ∧ -(xs.length : Int) ≤ i ∧ i < xs.length := by
  unfold atI at h
  cases e : ixN xs.length i with
  | none => rw [e] at h; cases h
  | some j =>
    rw [e] at h
    obtain ⟨h1, h2, h3, h4⟩ := ixN_seq e
    exact ⟨j, h1, h, h2, h3, h4⟩
theorem atI_nat {α : Type} {xs : List α} {j : Nat} {v : α} (h : xs[j]? = some v) : atI xs (j : Int) = some v := by
  have hj : j < xs.length := (List.getElem?_eq_some_iff.mp h).1
  have e : ixN xs.length (j : Int) = some j := by
    unfold ixN
    rw [if_pos (by omega), if_pos (by omega)]; simp
  unfold atI; rw [e]; exact h
def PlainIx (b : Expr) : Prop := ∀ o i, subscripted b false o i = operate [o, i] (getItem o i)
def IxR (X : Cx) (r : R2) : Prop :=
  ∀ (value slice : Expr) (pins : List (Addr × Obj)) (s : Shared) (σ : St) (H : Hp) (x y : V) (v u : Value) (Q : VK), Inv X pins σ H s → RelV x v → RelV y u → r x y H Q →
    subscripted slice false v u = operate [v, u] (getItem v u) → wpAny (model X.prog X.w) X.A (subscriptTail value slice v u) (EP X pins σ Q) X.xe s
def MtR (X : Cx) (id : String) (r : V → List V → Hp → VK → Prop) : Prop :=
  ∀ (pins : List (Addr × Obj)) (s : Shared) (σ : St) (H : Hp) (x : V) (xs : List V) (v : Value) (us : List Value) (Q : VK), Inv X pins σ H s → RelV x v → Vals xs us → r x xs H Q →
    wpAny (model X.prog X.w) X.A (call (.builtin id) (v :: us)) (EP X pins σ Q) X.xe s
section
variable {X : Cx} {a b : Expr} {ta tb : TE} {pos : Pos}
theorem pe_ix {r : R2} (hr : IxR X r) (ha : PE X a ta) (hb : PE X b tb) (hs : PlainIx b) : PE X (.Subscript a b pos) (tOp r ta tb) := by
  intro pins s σ H Q I h
  exact Subscript_ (binT ha hb I h fun v u s2 x y H2 I2 rx ry q => hr a b pins s2 σ H2 x y v u Q I2 rx ry q (hs _ _))
def rIxL (K : PySem.W.Frag) : R2 := fun x y H Q => ∃ p xs i v, x = .ref p ∧ y = .int i ∧ SqL K H p xs ∧ atI xs i = some v ∧ Q v H
def rIxT (K : PySem.W.Frag) : R2 := fun x y H Q => ∃ p xs i v, x = .ref p ∧ y = .int i ∧ SqT K H p xs ∧ atI xs i = some v ∧ Q v H
def rIxS : R2 := fun x y H Q => ∃ z i c, x = .str z ∧ y = .int i ∧ z.length ≤ sizeLine ∧ atI z.cps.toList i = some c ∧ Q (.str ⟨#[c]⟩) H
theorem ix_list : IxR X (rIxL X.K) := by
  intro value slice pins s σ H x y v u Q I rx ry h hs
  obtain ⟨p, xs, i, z, rfl, rfl, hq, he, q⟩ := h
  cases rx
  obtain ⟨t, rfl⟩ := ry
  obtain ⟨its, r, pl, hz⟩ := I.list hq
  obtain ⟨j, h1, h2, h3, h4, h5⟩ := atI_get he
  obtain ⟨w, ew, rw'⟩ := r.get h2
  have hl := r.length
  have hn := line63
  have fin : EP X pins σ Q w s := ⟨z, H, I, rw', q⟩
  by_cases h0 : 0 ≤ i
  · have hj : i.toNat = j := by
      rw [seqIndex_of h0 h5] at h1
      exact Option.some.inj h1
    exact item_listR pl.isList h0 (by omega) (by rw [hj]; simpa using ew) fin hs
  · have hj : (i + (its.toArray.size : Int)).toNat = j := by
      rw [seqIndex_neg (by omega) h4] at h1
      rw [List.size_toArray, ← hl]
      exact Option.some.inj h1
    exact subscriptTail_builtinR (x := w) pl.isList.typeIs slot_list_getitem.lookup
      (wpAny_getItem_list_neg (Q := fun r s' => r = w ∧ EP X pins σ Q r s') pl.isList (by omega) (by rw [List.size_toArray] <;> omega) (by omega) (by rw [hj]; simpa using ew) ⟨rfl, fin⟩) hs
theorem ix_tup : IxR X (rIxT X.K) := by
  intro value slice pins s σ H x y v u Q I rx ry h hs
  obtain ⟨p, xs, i, z, rfl, rfl, hq, he, q⟩ := h
  cases rx
  obtain ⟨t, rfl⟩ := ry
  obtain ⟨its, r, pl, hz⟩ := I.tuple hq
  obtain ⟨j, h1, h2, h3, h4, h5⟩ := atI_get he
  obtain ⟨w, ew, rw'⟩ := r.get h2
  have hl := r.length
  have hn := line63
  have fin : EP X pins σ Q w s := ⟨z, H, I, rw', q⟩
  exact subscriptTail_builtinR (x := w) pl.typeIs slot_tuple_getitem.lookup
    (getItem_tuple (j := j) (Q := fun r s' => r = w ∧ EP X pins σ Q r s') pl (by omega) (by omega) (by rw [List.size_toArray, ← hl]; exact h1) (by simpa using ew) ⟨rfl, fin⟩) hs
theorem ix_str : IxR X rIxS := by
  intro value slice pins s σ H x y v u Q I rx ry h hs
  obtain ⟨z, i, c, rfl, rfl, hz, he, q⟩ := h
  obtain ⟨t, rfl⟩ := rx
  obtain ⟨t', rfl⟩ := ry
  obtain ⟨j, h1, h2, h3, h4, h5⟩ := atI_get he
  have hl : z.cps.toList.length = z.length := by simp [Str.length]
  rw [hl] at h1 h4 h5
  have hn := line63
  exact tail_any (typeIs_str s z t) slot_str_getitem.lookup (getItem_str (c := c) (by
    have e1 : decide (i < -(2 ^ 63 : Int)) = false := decide_eq_false (by omega)
    have e2 : decide (i ≥ 2 ^ 63) = false := decide_eq_false (by omega)
    rw [e1, e2, Bool.or_false]) (by rw [h1]; simpa using h2) ⟨.str ⟨#[c]⟩, H, I.tok _, ⟨_, rfl⟩, q⟩) hs
theorem Inv.lst {pins : List (Addr × Obj)} {σ : St} {H : Hp} {s : Shared} {p : Addr} {xs : List V} (I : Inv X pins σ H s) (h : H p = some (.lst xs)) :
    ∃ (its : List Value) (n : Nat), Vals xs its ∧ s.heap.get? p = some { cls := .type "list", data := .seq its.toArray n } ∧ xs.length ≤ sizeLine := by
  obtain ⟨z, its, n, r, e⟩ := I.hok p _ h
  exact ⟨its, n, r, e, z⟩
theorem slice_bounds (lo hi : Option Int) (n : Nat) : (sliceBounds lo hi none n).1 = ((HT.sIx n 0 lo : Nat) : Int) ∧ (sliceBounds lo hi none n).2.1 = ((HT.sIx n n hi : Nat) : Int) ∧ (sliceBounds lo hi none n).2.2 = 1 := by
  refine ⟨?_, ?_, rfl⟩
  · cases lo with
    | none => simp [sliceBounds, HT.sIx]
    | some i =>
      simp only [sliceBounds, HT.sIx, Option.getD_none, show (1 : Int) > 0 by decide, if_true]
      by_cases h : i < 0
      · simp only [h, if_true] <;> omega
      · simp only [h, if_false] <;> omega
  · cases hi with
    | none => simp [sliceBounds, HT.sIx]
    | some i =>
      simp only [sliceBounds, HT.sIx, Option.getD_none, show (1 : Int) > 0 by decide, if_true]
      by_cases h : i < 0
      · simp only [h, if_true] <;> omega
      · simp only [h, if_false] <;> omega
theorem slicePick_cut (its : List Value) (lo hi : Option Int) : slicePick its.toArray lo hi none = ((its.drop (HT.sIx its.length 0 lo)).take (HT.sIx its.length its.length hi - HT.sIx its.length 0 lo)).toArray := by
  obtain ⟨h1, h2, h3⟩ := slice_bounds lo hi its.toArray.size
  unfold slicePick
  rw [h1, h2, h3]
  simp only [sliceRange_one, pick_run, List.size_toArray] <;> rfl
def rSlL (K : PySem.W.Frag) : V → Option Int → Option Int → Hp → VK → Prop := fun x lo hi H Q => ∃ a xs, x = .ref a ∧ SqL K H a xs ∧ ∀ p, H p = none → Q (.ref p) (upd H p (.lst (cutV xs lo hi)))
theorem sl_list : SlR X (rSlL X.K) := by
  intro pins s σ H x v vl vu lo hi sl Q I rx hs pl pu h
  obtain ⟨a, xs, rfl, hx, q⟩ := h
  cases rx
  obtain ⟨its, r, ht, hz⟩ := I.list hx
  have hlen := r.length
  refine ⟨"list", _, slot_list_getitem.lookup, ht.isList.typeIs, ?_⟩
  refine wpAny_getItem_list_slice ht.isList hs pl pu .none (by simp) ?_ (by rw [List.size_toArray] <;> omega)
  rw [slicePick_cut, ← hlen]
  refine ⟨.ref s.heap.objs.size, _, I.laid (t' := s.toks) (o := .lst (cutV xs lo hi)) (fun b ob q => Heap.get?_push_of_some _ q) (Nat.le_refl _) ?_, rfl, q _ (I.hok.fresh (Nat.le_refl _))⟩
  exact ⟨Nat.le_trans (cutV_length xs lo hi) hz, _, 0, (r.drop (HT.sIx xs.length 0 lo)).take (HT.sIx xs.length xs.length hi - HT.sIx xs.length 0 lo), Heap.get?_push_size _ rfl⟩
def flatV : V → Bool
  | .non => true
  | .bl _ => true
  | .int _ => true
  | .str _ => true
  | _ => false
def eqV : V → V → Bool
  | .non, .non => true
  | .bl a, .bl b => a == b
  | .bl a, .int b => (if a then 1 else 0) == b
  | .int a, .bl b => a == (if b then 1 else 0)
  | .int a, .int b => a == b
  | .str a, .str b => a == b
  | _, _ => false
theorem eqAt_V {A : Around} {s : Shared} {y x : V} {u v : Value} (ry : RelV y u) (rx : RelV x v) (fy : flatV y = true) (fx : flatV x = true) : SeqAt.EqAt A s u v (eqV y x) := by
  cases y with
  | non =>
    cases ry
    cases x with
    | non => cases rx; exact SeqAt.EqAt.same _
    | bl b => cases rx; exact SeqAt.EqAt.none_bool b
    | int b => obtain ⟨t, rfl⟩ := rx; exact SeqAt.EqAt.none_int b t
    | str b => obtain ⟨t, rfl⟩ := rx; exact SeqAt.EqAt.none_str b t
    | _ => exact absurd (show false = true from fx) Bool.false_ne_true
  | bl a =>
    cases ry
    cases x with
    | non => cases rx; exact SeqAt.EqAt.bool_none a
    | bl b => cases rx; exact SeqAt.EqAt.bool_bool a b
    | int b => obtain ⟨t, rfl⟩ := rx; exact SeqAt.EqAt.bool_int a b t
    | str b => obtain ⟨t, rfl⟩ := rx; exact SeqAt.EqAt.bool_str a b t
    | _ => exact absurd (show false = true from fx) Bool.false_ne_true
  | int a =>
    obtain ⟨t', rfl⟩ := ry
    cases x with
    | non => cases rx; exact SeqAt.EqAt.int_none a t'
    | bl b => cases rx; exact SeqAt.EqAt.int_bool a t' b
    | int b => obtain ⟨t, rfl⟩ := rx; exact SeqAt.EqAt.int_int a t' b t
    | str b => obtain ⟨t, rfl⟩ := rx; exact SeqAt.EqAt.int_str a t' b t
    | _ => exact absurd (show false = true from fx) Bool.false_ne_true
  | str a =>
    obtain ⟨t', rfl⟩ := ry
    cases x with
    | non => cases rx; exact SeqAt.EqAt.str_none a t'
    | bl b => cases rx; exact SeqAt.EqAt.str_bool a t' b
    | int b => obtain ⟨t, rfl⟩ := rx; exact SeqAt.EqAt.str_int a t' b t
    | str b => obtain ⟨t, rfl⟩ := rx; exact SeqAt.EqAt.str_str a t' b t
    | _ => exact absurd (show false = true from fx) Bool.false_ne_true
  | _ => exact absurd (show false = true from fy) Bool.false_ne_true
def eqU (x : V) (u : Value) : Bool := match u with
  | .none => eqV .non x
  | .bool b => eqV (.bl b) x
  | .int i _ => eqV (.int i) x
  | .str z _ => eqV (.str z) x
  | _ => false
theorem eqU_of {x y : V} {u : Value} (r : RelV y u) (f : flatV y = true) : eqU x u = eqV y x := by
  cases y with
  | non => cases r; rfl
  | bl b => cases r; rfl
  | int i => obtain ⟨t, rfl⟩ := r; rfl
  | str z => obtain ⟨t, rfl⟩ := r; rfl
  | _ => exact absurd (show false = true from f) Bool.false_ne_true
theorem any_eqU {x : V} : ∀ {xs : List V} {us : List Value}, Vals xs us → xs.all flatV = true → us.any (eqU x) = xs.any fun y => eqV y x
  | _, _, .nil, _ => rfl
  | y :: xs, u :: us, .cons r t, f => by
    rw [List.all_cons, Bool.and_eq_true] at f
    rw [List.any_cons, List.any_cons, eqU_of r f.1, any_eqU t f.2]
theorem mem_eqAt {A : Around} {s : Shared} {x : V} {v : Value} (rx : RelV x v) (fx : flatV x = true) : ∀ {xs : List V} {us : List Value}, Vals xs us → xs.all flatV = true → ∀ u ∈ us, SeqAt.EqAt A s u v (eqU x u)
  | _, _, .nil, _ => fun u hu => by cases hu
  | y :: xs, u :: us, .cons r t, f => fun u' hu => by
    rw [List.all_cons, Bool.and_eq_true] at f
    rcases List.mem_cons.mp hu with rfl | hu
    · rw [eqU_of r f.1]; exact eqAt_V r rx f.1 fx
    · exact mem_eqAt rx fx t f.2 u' hu
def inV (x : V) (xs : List V) : Bool := xs.any fun y => eqV y x
def rIn (K : PySem.W.Frag) (neg : Bool) : R2 := fun x y H Q => ∃ p xs, y = .ref p ∧ (SqL K H p xs ∨ SqT K H p xs) ∧ flatV x = true ∧ xs.all flatV = true ∧ Q (.bl (if neg then !inV x xs else inV x xs)) H
theorem op_notIn_seq : OpR X (compareOp .NotIn) (rIn X.K true) := by
  intro pins s σ H x y v u Q I rx ry h
  obtain ⟨p, xs, rfl, hq, fx, fs, q⟩ := h
  cases ry
  rcases hq with hq | hq
  · obtain ⟨its, r, pl, hz⟩ := I.list hq
    refine SeqAt.notIn_listAt (eqU x) pl.isList (fun w hw => mem_eqAt rx fx r fs w (by simpa using hw)) ⟨.bl _, H, I, rfl, ?_⟩
    rw [show its.toArray.any (eqU x) = its.any (eqU x) by simp, any_eqU r fs]
    exact q
  · obtain ⟨its, r, pl, hz⟩ := I.tuple hq
    refine SeqAt.notIn_tupleAt (eqU x) pl (fun w hw => mem_eqAt rx fx r fs w (by simpa using hw)) ⟨.bl _, H, I, rfl, ?_⟩
    rw [show its.toArray.any (eqU x) = its.any (eqU x) by simp, any_eqU r fs]
    exact q
theorem call_len_seq : CallR X (.builtin "len") (fun xs H Q => ∃ p ys, xs = [.ref p] ∧ (SqL X.K H p ys ∨ SqT X.K H p ys) ∧ Q (.int ys.length) H) := by
  intro pins s σ H xs us Q I r h
  obtain ⟨p, ys, rfl, hq, q⟩ := h
  obtain ⟨u, rfl, rx⟩ := vals1 r
  cases rx
  have hn := line63
  rcases hq with hq | hq
  · obtain ⟨its, r', pl, hz⟩ := I.list hq
    have hlen := r'.length
    exact Calls.call_len_list pl.isList (by simp only [List.size_toArray] <;> omega) ⟨.int ys.length, H, I.tok _, ⟨s.toks + 1, by rw [List.size_toArray, hlen]⟩, q⟩
  · obtain ⟨its, r', pl, hz⟩ := I.tuple hq
    have hlen := r'.length
    exact len_tuple pl (by simp only [List.size_toArray] <;> omega) ⟨.int ys.length, H, I.tok _, ⟨s.toks + 1, by rw [List.size_toArray, hlen]⟩, q⟩
theorem call_len_str : CallR X (.builtin "len") (fun xs H Q => ∃ z, xs = [.str z] ∧ z.length ≤ sizeLine ∧ Q (.int z.length) H) := by
  intro pins s σ H xs us Q I r h
  obtain ⟨z, rfl, hz, q⟩ := h
  obtain ⟨u, rfl, t, rfl⟩ := vals1 r
  have hn := line63
  exact len_str (by omega) ⟨.int z.length, H, I.tok _, ⟨_, rfl⟩, q⟩
theorem call_tuple_of : CallR X (.type "tuple") (fun xs H Q => ∃ p ys, xs = [.ref p] ∧ ((SqL X.K H p ys ∧ ∀ l, H l = none → Q (.ref l) (upd H l (.tup ys))) ∨ (SqT X.K H p ys ∧ Q (.ref p) H))) := by
  intro pins s σ H xs us Q I r h
  obtain ⟨p, ys, rfl, h⟩ := h
  obtain ⟨u, rfl, rx⟩ := vals1 r
  cases rx
  rcases h with ⟨hq, q⟩ | ⟨hq, q⟩
  · obtain ⟨its, r', pl, hz⟩ := I.list hq
    have hlen := r'.length
    refine call_tuple_list pl.isList (fun h' kp => ?_) (by simp only [List.size_toArray] <;> omega)
    have I1 : Inv X pins σ H { s with heap := h' } := I.kept (t' := s.toks) kp
    have I2 : Inv X pins σ (upd H h'.objs.size (.tup ys)) { s with heap := h'.push { cls := .type "tuple", data := .seq its.toArray } } :=
      I1.laid (t' := s.toks) (fun b o e => Heap.get?_push_of_some _ e) (Nat.le_refl _) (show ObjOk X.prog X.w _ _ _ (.tup ys) from ⟨hz, its, r', IsTup.new _ _⟩)
    exact ⟨.ref h'.objs.size, _, I2, rfl, q _ (I1.hok.fresh (Nat.le_refl _))⟩
  · obtain ⟨its, r', pl, hz⟩ := I.tuple hq
    exact call_tuple_same pl ⟨.ref p, H, I, rfl, q⟩
def tyV (K : PySem.W.Frag) (T : String) (x : V) (H : Hp) : Prop := match x with
  | .str _ => T = "str"
  | .int _ => T = "int"
  | .ref p => (T = "list" ∧ ∃ xs, SqL K H p xs) ∨ (T = "tuple" ∧ ∃ o, K.lookup p = some o ∧ o.cls = .type "tuple" ∧ o.dict = none) ∨
      (T = "dict" ∧ ((∃ kvs, H p = some (.dK kvs)) ∨ ∃ kvs, H p = some (.dT kvs))) ∨ (T = "set" ∧ ∃ S n, H p = some (.set S n))
  | _ => False
theorem tyV_is {pins : List (Addr × Obj)} {σ : St} {H : Hp} {s : Shared} {T : String} {x : V} {v : Value} (I : Inv X pins σ H s) (r : RelV x v) (ty : tyV X.K T x H) :
    s.TypeIs v T ∧ ∀ a, v = .ref a → ∃ ob, s.heap.get? a = some ob ∧ ob.dict = none := by
  cases x with
  | str z =>
    obtain ⟨t, rfl⟩ := r
    cases (show T = "str" from ty)
    exact ⟨typeIs_str s z t, fun _ e => nomatch e⟩
  | int i =>
    obtain ⟨t, rfl⟩ := r
    cases (show T = "int" from ty)
    exact ⟨typeIs_int s i t, fun _ e => nomatch e⟩
  | ref p =>
    cases r
    rcases ty with ⟨rfl, xs, hq⟩ | ⟨rfl, o, hk, hc, hd⟩ | ⟨rfl, hk⟩ | ⟨rfl, S, n, hk⟩
    · obtain ⟨its, _, pl, _⟩ := I.list hq
      refine ⟨pl.isList.typeIs, fun a e => ?_⟩
      cases e
      obtain ⟨o, n, e, c, hd, _⟩ := pl
      exact ⟨o, e, hd⟩
    · refine ⟨⟨o, I.kIn p o hk, hc⟩, fun a e => ?_⟩
      cases e
      exact ⟨o, I.kIn _ o hk, hd⟩
    · have z : ∃ o, s.heap.get? p = some o ∧ o.ExactDict := by
        rcases hk with ⟨kvs, hk⟩ | ⟨kvs, hk⟩
        · obtain ⟨_, _, _, _, o, _, _, e, ex, _⟩ := I.hok p _ hk
          exact ⟨o, e, ex⟩
        · obtain ⟨_, _, _, _, o, _, _, e, ex, _⟩ := I.hok p _ hk
          exact ⟨o, e, ex⟩
      obtain ⟨o, e, ex⟩ := z
      refine ⟨⟨o, e, ex.1⟩, fun a e2 => ?_⟩
      cases e2
      exact ⟨o, e, ex.2.1⟩
    · obtain ⟨o, _, _, _, e, ex, _⟩ := I.hok p _ hk
      refine ⟨⟨o, e, ex.1⟩, fun a e2 => ?_⟩
      cases e2
      exact ⟨o, e, ex.2.1⟩
  | _ => exact False.elim ty
def tBM (K : PySem.W.Frag) (T : String) (r : V → List V → Hp → VK → Prop) (to : TE) (t : TA) : TE := fun σ H Q => to σ H fun x H1 => tyV K T x H1 ∧ t σ H1 fun xs H2 => r x xs H2 Q
variable {o e : Expr} {es : List Expr} {to : TE} {t : TA} {name : Str} {apos cpos : Pos} {T id : String} {r : V → List V → Hp → VK → Prop}
theorem pe_bm (pa : PlainAttrs T) (slot : Slot T name id) (hty : typeOf (.builtin id) = pure (.type "method_descriptor")) (hm : MtR X id r) (ho : PE X o to) (ha : PA X (e :: es) t)
    (hbase : attributeBase o name X.env (eval o X.env) = eval o X.env := by rfl)
    (hfew : ((backTo cpos (starEach (e :: es) X.env)).all (fun x => !x.1) && (backToKw cpos (keywordEach [] X.env)).all (fun x => x.1.isSome)
      && decide ((e :: es).length + ([] : List Keyword).length + (if ([] : List Keyword).isEmpty then 0 else 1) < 30)) = true := by rfl)
    (hline : (apos.endLine == cpos.line) = true := by rfl) (hs : starEach (e :: es) X.env = (false, eval e X.env) :: starEach es X.env := by rfl) (hplain : (backTo cpos (starEach es X.env)).any (·.1) = false := by rfl) :
    PE X (.Call (.Attribute o name apos) (e :: es) [] cpos) (tBM X.K T r to t) := by
  intro pins s σ H Q I h
  refine wpAny_Call_method_late hbase hfew hline rfl (thn (ho pins s σ H _ I h) fun v s1 ⟨x, H1, I1, r1, ty, q1⟩ => ?_)
  obtain ⟨h1, h2⟩ := tyV_is I1 r1 ty
  refine ⟨T, id, pa, slot, hty, h1, h2, ?_⟩
  have hA := ha cpos pins s1 σ H1 _ I1 q1
  rw [hs] at hA ⊢
  refine Calls.callWith_builtin (by show (false || (backTo cpos (starEach es X.env)).any (·.1)) = false; rw [hplain] <;> rfl) (Calls.evalArgs_plain ?_)
  exact thn hA fun us s2 ⟨vs, H2, I2, r2, q2⟩ => hm pins s2 σ H2 x vs v us Q I2 r1 r2 q2
end
end L2
namespace L2
open PySem PySem.Spec PyProof.Rows
def MtM (X : Cx) (id : String) (r : V → List V → Hp → VK → Prop) : Prop :=
  ∀ (pins : List (Addr × Obj)) (s : Shared) (σ : St) (H : Hp) (x : V) (xs : List V) (v : Value) (us : List Value) (Q : VK), Inv X pins σ H s → RelV x v → Vals xs us → r x xs H Q →
    wpAny (model X.prog X.w) X.A (call (.builtin id) (v :: us)) (EP X pins σ Q) X.xe s
theorem Vals.one : ∀ {x : V} {us : List Value}, Vals [x] us → ∃ u, us = [u] ∧ RelV x u
  | _, _, .cons r .nil => ⟨_, rfl, r⟩
theorem Vals.reverse {xs : List V} {us : List Value} (h : Vals xs us) : Vals xs.reverse us.reverse := by
  induction h with
  | nil => exact .nil
  | cons r t ih => rw [List.reverse_cons, List.reverse_cons]; exact Vals.append ih (.cons r .nil)
section
variable {X : Cx} {pins : List (Addr × Obj)} {σ : St} {H : Hp} {s : Shared} {l b : Addr} {xs ys zs : List V}
theorem Inv.lset {its its' : List Value} {n : Nat} {f : Array Value → Array Value} {t' : Nat} (I : Inv X pins σ H s) (hH : H l = some (.lst xs))
    (e : s.heap.get? l = some { cls := .type "list", data := .seq its.toArray n }) (hf : f its.toArray = its'.toArray) (hv : Vals ys its') (hz : ys.length ≤ sizeLine) :
    Inv X pins σ (upd H l (.lst ys)) { s with heap := s.heap.update l (Obj.mapSeq f), toks := t' } := by
  have q := PySem.IsL.update e f
  rw [hf] at q
  refine I.write (x := l) (e := l) (by rw [hH]; exact trivial) (.inl rfl) (fun b' u hb hu => (Heap.get?_update_other s.heap (Obj.mapSeq f) (Ne.symm hb)).trans hu) ⟨_, q⟩ ?_
  exact ⟨hz, its', _, hv, q⟩
theorem Inv.lnew {its : List Value} {t' : Nat} (I : Inv X pins σ H s) (hv : Vals ys its) (hz : ys.length ≤ sizeLine) :
    Inv X pins σ (upd H s.heap.objs.size (.lst ys)) { s with heap := s.heap.push { cls := .type "list", data := .seq its.toArray }, toks := t' } :=
  I.laid (fun _ _ q => Heap.get?_push_of_some _ q) (Nat.le_refl _) ⟨hz, its, 0, hv, Heap.get?_push_size _ rfl⟩
theorem Inv.fresh (I : Inv X pins σ H s) : H s.heap.objs.size = none := I.hok.fresh (Nat.le_refl _)
theorem Inv.lstM (I : Inv X pins σ H s) (hH : H l = some (.lst xs)) : xs.length ≤ sizeLine ∧ ∃ (its : List Value) (n : Nat), Vals xs its ∧ xs.length = its.length ∧ s.heap.get? l = some { cls := .type "list", data := .seq its.toArray n } := by
  obtain ⟨z, its, n, r, e⟩ := I.hok l _ hH
  exact ⟨z, its, n, r, r.length, e⟩
theorem notLongL {n : Nat} (h : n ≤ sizeLine) : Builtin.List.listTooLong n = false := by
  unfold Builtin.List.listTooLong
  exact decide_eq_false (by omega)
end
section
variable {X : Cx}
def rAppend : V → List V → Hp → VK → Prop := fun x vs H Q => ∃ l xs y, x = .ref l ∧ vs = [y] ∧ H l = some (.lst xs) ∧ xs.length < sizeLine ∧ Q .non (upd H l (.lst (xs ++ [y])))
theorem mt_append : MtM X "list.append" rAppend := by
  intro pins s σ H x vs v us Q I rx rv h
  obtain ⟨l, xs, y, rfl, rfl, hH, hz, q⟩ := h
  cases rx
  obtain ⟨u, rfl, ru⟩ := rv.one
  obtain ⟨z, its, n, r, hl, e⟩ := I.lstM hH
  refine call_meets F.slot_list_append ⟨_, e, rfl⟩ F.entry_list_append (F.args_list_append_2 _ _) (PySem.list_append l its.toArray n u (by rw [List.size_toArray]; omega)) ⟨e, ?_⟩
  refine ⟨.non, _, I.lset (its' := its ++ [u]) hH e (by simp) (r.append (.cons ru .nil)) ?_, rfl, q⟩
  rw [List.length_append, List.length_singleton]
  omega
def rExtend : V → List V → Hp → VK → Prop := fun x vs H Q => ∃ l b xs zs, x = .ref l ∧ vs = [.ref b] ∧ H l = some (.lst xs) ∧ H b = some (.lst zs) ∧ xs.length + zs.length ≤ sizeLine ∧ Q .non (upd H l (.lst (xs ++ zs)))
theorem mt_extend : MtM X "list.extend" rExtend := by
  intro pins s σ H x vs v us Q I rx rv h
  obtain ⟨l, b, xs, zs, rfl, rfl, hH, hB, hz, q⟩ := h
  cases rx
  obtain ⟨u, rfl, ru⟩ := rv.one
  cases ru
  obtain ⟨z, its, n, r, hl, e⟩ := I.lstM hH
  obtain ⟨z2, its2, n2, r2, hl2, e2⟩ := I.lstM hB
  have hsz : its.toArray.size + its2.toArray.size ≤ sizeLine := by rw [List.size_toArray, List.size_toArray]; omega
  have hlong : ¬ (!its.toArray.isEmpty && Builtin.List.listTooLong (its.toArray.size + its2.toArray.size)) = true := by
    rw [notLongL hsz, Bool.and_false]
    exact Bool.false_ne_true
  refine call_meets F.slot_list_extend ⟨_, e, rfl⟩ F.entry_list_extend (F.args_list_extend_2 _ _)
    (AutoSeq1.list_extend_list_list_0 l its.toArray n b its2.toArray n2 hlong (by rw [List.size_toArray]; omega) (by omega)) ⟨e, e2, ?_⟩
  refine ⟨.non, _, I.lset (its' := its ++ its2) hH e (by simp) (r.append r2) ?_, rfl, q⟩
  rw [List.length_append]
  omega
def rCat : R2 := fun x y H Q => ∃ l b xs zs, x = .ref l ∧ y = .ref b ∧ H l = some (.lst xs) ∧ H b = some (.lst zs) ∧ xs.length + zs.length ≤ sizeLine ∧ ∀ p, H p = none → Q (.ref p) (upd H p (.lst (xs ++ zs)))
theorem op_cat : OpR X (binaryOp .Add) rCat := by
  intro pins s σ H x y v u Q I rx ry h
  obtain ⟨l, b, xs, zs, rfl, rfl, hH, hB, hz, q⟩ := h
  cases rx
  cases ry
  obtain ⟨z, its, n, r, hl, e⟩ := I.lstM hH
  obtain ⟨z2, its2, n2, r2, hl2, e2⟩ := I.lstM hB
  refine PySem.P.add_list e e2 ?_ (by rw [List.size_toArray, List.size_toArray]; omega)
  have ea : its.toArray ++ its2.toArray = (its ++ its2).toArray := by simp
  rw [ea]
  exact ⟨.ref _, _, I.lnew (t' := s.toks) (r.append r2) (by rw [List.length_append]; omega), rfl, q _ I.fresh⟩
end
section
variable {prog : Program} {w : World} {A : Around} {E : Value → Shared → Prop} {s : Shared}
set_option maxRecDepth 100000 in
end
section
variable {X : Cx}
end
end L2
namespace Att
open PySem PySem.W PySem.Calls PyProof.Rows
theorem ints_of_wellAll {P : Params} {h : Heap} : ∀ (ns : List Int) (vs : List Value), WellAll P h vs (ns.map WData.int) → IntsAre vs ns := by
  intro ns
  induction ns with
  | nil =>
    intro vs w
    rw [List.map_nil] at w
    cases w
    exact .nil
  | cons n ns ih =>
    intro vs w
    rw [List.map_cons] at w
    cases w with
    | cons a b =>
      cases a
      exact .cons _ _ (ih _ b)
theorem script_of {l : OpenLaw} {n : Nat} (hn : l.most = some n) {P : Params} {h : Heap} {args : List WData} {vals : List Value}
    (hpre : l.row.toRowW.claim.pre args = true) (hwl : WellAll P h vals args) :
    ∃ a vs ns, vals = [Value.ref a] ∧ args = [WData.list (ns.map WData.int)] ∧ h.get? a = some { cls := .type "list", data := .seq vs.toArray } ∧ IntsAre vs ns ∧ ns.length ≤ n := by
  have hsh : WShape.hasAll [] args [.list .int] = true := (pre_splitW hpre).1
  have hc : l.pre.holds [] { args := args } = true := (pre_splitW hpre).2
  obtain ⟨d, r, rfl, h1, h2⟩ := hasAllW_cons hsh
  obtain rfl := hasAllW_nil h2
  obtain ⟨xs, rfl, h3⟩ := hasW_list h1
  obtain ⟨ns, rfl⟩ := items_int h3
  have hlen : ns.length ≤ n := by
    unfold OpenLaw.pre at hc
    have h4 : (WTm.not (.lt (.lit (.int (n : Int))) (.len (.arg 0)))).holds [] { args := [.list (ns.map .int)] } = true := by
      have h4 := (holds_andW hc).1
      rw [hn] at h4
      exact h4
    have h5 := condW_of h4 (w_not (w_lt w_lit (w_len_list (w_arg rfl))))
    rw [List.length_map] at h5
    refine Nat.le_of_not_lt fun q => ?_
    have q' : (n : Int) < ((ns.length : Nat) : Int) := by omega
    first
      | (rw [decide_eq_true q'] at h5; exact absurd h5 (by decide))
      | (simp at h5; omega)
  cases hwl with
  | cons w1 w2 =>
    cases w2
    cases w1 with
    | list ho hall => exact ⟨_, _, ns, rfl, rfl, ho, ints_of_wellAll ns _ hall, hlen⟩
theorem post_true (l : OpenLaw) (args : List WData) : l.row.toRowW.claim.post args (.bool true) args = true :=
  postW_of (r := l.row.toRowW) (X := (true == true))
    (show WShape.has [] (.bool true) .bool = true by first | rfl | decide | simp [WShape.has, WShape.arms, WShape.armsAll])
    (show (WTm.eq .res (.lit (.bool true))).value [] { args := args, res := some (.bool true), after := args } = some (.bool (true == true)) from w_eq_bool (w_res rfl) w_lit) rfl
theorem attach_call {l : OpenLaw} {n : Nat} {q : Program} {loose : List Str} {XP : (Str → Option Value) → Heap → Prop} {YP : World → Heap → Prop} {d : DefRec}
    (hn : l.most = some n) (hdf : d.params.defaults = [])
    (call : ∀ (w : World) (s₀ s₁ : Shared) (mg mb : Str → Option Value) (fa : Addr) (o : Obj) (pm cd doc : Value) (a : Addr) (vs : List Value) (ns : List Int),
      Ground q loose [] XP w s₀ mg mb s₁.heap → YP w s₁.heap →
      s₁.heap.get? fa = some o → o.data = .func (docDef d.name d.params d.body d.scope pm cd doc) → s₁.heap.CodeRec cd d.name → mg d.name = some (.ref fa) →
      s₁.heap.get? a = some { cls := .type "list", data := .seq vs.toArray } → IntsAre vs ns → ns.length ≤ n → s₁.gens = #[] →
      codeAny (model l.prog w) callerA (.call (.ref fa) ⟨[.ref a], []⟩) (fun r s' => r = .ok (.ret (.bool true)) ∧ OldK s₁.heap s'.heap ∧ s'.os = s₁.os ∧ AllBare s'.gens) s₁) :
    WalkO q loose XP YP l.row.toRowW d [] (fun f vs => PySem.call f vs) := by
  intro w s₀ s₁ mg mb G Y fa o pm cd doc dV kV ho hd hcd hD hmg hg args vals as hpre hlay hrd hwl hlo
  obtain rfl : dV = .none := Dflts.none hD hdf
  obtain rfl : kV = .none := Dflts.noKw hD
  obtain ⟨a, vs, ns, rfl, rfl, hobj, hints, hlen⟩ := script_of hn hpre hwl
  refine enter_call (codeAny_mono (call w s₀ s₁ mg mb fa o pm cd doc a vs ns G Y ho (fd_plain hd) hcd hmg hobj hints hlen hg) fun r s' hq => ?_)
  obtain ⟨rfl, h2, h3, h4⟩ := hq
  exact ⟨.inl ⟨.bool true, .bool true, [], rfl, fun _ => rfl, .bool true, post_true l _, fun _ => ⟨List.Pairwise.nil, fun _ hm => (nomatch hm)⟩⟩, h2, h3, h4⟩
section
variable {prog : Program} {w : World} {A : Around} {E : Value → Shared → Prop} {s : Shared} {K : Frag}
end
end Att
namespace L2
open PySem PySem.Spec PyProof.Rows
theorem vals_ints : ∀ {vs : List Value} {ns : List Int}, IntsAre vs ns → Vals (ns.map V.int) vs
  | _, _, .nil => .nil
  | _, _, .cons n t h => .cons ⟨t, rfl⟩ (vals_ints h)
def Only (H : Hp) : Prop := ∀ b, H b = none ∨ ∃ o xs, H b = some (.frz o (.lst xs))
theorem law_call {P : Program} {w : World} {K : PySem.W.Frag} {mg mb : Str → Option Value} {CX : CXT} {k : Nat} {fa a : Addr} {fd : FuncData} {x : Str} {sp : Sp} {s₁ : Shared} {vs : List Value} {ns : List Int}
    (KX : K.In s₁.heap) (hns : s₁.heap.Ns mainGlobals mg) (hb : s₁.heap.Ns builtinsNs mb) (hbb : ∀ x : Str, x ≠ "__name__" → mb x = bootBuiltins x) (hlim : s₁.heap.NoLimit) (hg : s₁.gens = #[])
    (ha : s₁.heap.get? a = some { cls := .type "list", data := .seq vs.toArray }) (hi : IntsAre vs ns) (hl : ns.length ≤ sizeLine) (hr : Room k callerA)
    (F : ∀ base : Heap, K.In base → base.Ns mainGlobals mg → FnOk P w K mg base CX k fa fd [x] sp) (hbind : ∀ (s : Shared) (u : Value), BindsTo s fd ⟨[u], []⟩ [(x, u)])
    (hsp : ∀ H : Hp, Only H → SqL K H a (ns.map V.int) → sp [.ref a] H (fun v _ => v = .bl true) fun _ _ _ => False)
    (hCX : ∀ H e s', CX [] H s₁ (fun _ _ _ => False) e s' → False) :
    codeAny (model P w) callerA (.call (.ref fa) ⟨[.ref a], []⟩) (fun r s' => r = .ok (.ret (.bool true)) ∧ OldK s₁.heap s'.heap ∧ s'.os = s₁.os ∧ AllBare s'.gens) s₁ := by
  have rv := vals_ints hi
  have lenV := hi.length
  -- from an abstract heap in which nothing but the script may be tracked
  have core : ∀ H : Hp, Only H → SqL K H a (ns.map V.int) → HOk P w H s₁.heap → (∀ b, H b ≠ none → b = a) → (H a ≠ none → K.lookup a = none) →
      codeAny (model P w) callerA (.call (.ref fa) ⟨[.ref a], []⟩) (fun r s' => r = .ok (.ret (.bool true)) ∧ OldK s₁.heap s'.heap ∧ s'.os = s₁.os ∧ AllBare s'.gens) s₁ := by
    intro H hO hS hok hA hK
    have base_of : ∀ {b : Addr} {o : Obj}, s₁.heap.get? b = some o → H b = none → (hidT s₁.heap H).get? b = some o := fun e n => hidT_get e n
    have noA : ∀ {b : Addr} {o : Obj} {es : Array DictEntry} {ep : Nat}, s₁.heap.get? b = some o → o.data = .dict es ep → H b = none := fun {b o es ep} e d => by
      cases q : H b with
      | none => rfl
      | some u =>
        have e' : b = a := hA b (by rw [q]; simp)
        subst e'
        rw [ha] at e; cases e
        have d' : Data.seq vs.toArray _ = Data.dict es ep := d
        cases d'
    have nsK : ∀ {b : Addr} {m : Str → Option Value}, s₁.heap.Ns b m → (hidT s₁.heap H).Ns b m := fun {b m} ⟨o, es, ep, e, d, r⟩ => ⟨o, es, ep, base_of e (noA e d), d, r⟩
    have hKb : K.In (hidT s₁.heap H) := fun b o e => base_of (KX b o e) (by
      cases q : H b with
      | none => rfl
      | some u =>
        have e' : b = a := hA b (by rw [q]; simp)
        subst e'
        rw [hK (by rw [q]; simp)] at e; cases e)
    have hM : Mod K mg (hidT s₁.heap H) := ⟨hKb, nsK hns, ⟨mb, nsK hb, hbb⟩, let ⟨mc, h1, h2⟩ := hlim; ⟨mc, nsK h1, h2⟩⟩
    have e0 : Env0 P w K mg (hidT s₁.heap H) callerA [] s₁ H := ⟨rfl, hM, fun b o e => of_hidT e, Nat.le_of_eq (hidT_size _ _), trivial, fun b hb => absurd (show b ∈ ([] : List Addr) from hb) (by simp), hok, .of_eq hg⟩
    refine codeAny_mono ((F _ hKb (nsK hns)).run callerA [] s₁ H ⟨[.ref a], []⟩ [.ref a] [.ref a] _ _ hr e0 (hbind s₁ (.ref a)) (.cons rfl .nil) (hsp H hO hS)) fun r s' h => ?_
    cases r with
    | error e => exact (hCX H e s' h).elim
    | ok fl =>
      cases fl with
      | next => exact False.elim h
      | brk => exact False.elim h
      | cont => exact False.elim h
      | ret u =>
        obtain ⟨v, H', os, bare, un, hok', r', q⟩ := h
        have q' : v = .bl true := q
        subst q'
        obtain rfl : u = Value.bool true := r'
        refine ⟨rfl, OldK.of_keep fun b o e => ?_, os, bare⟩
        cases q : H b with
        | none => exact un.keep b o e q (by intro z; exact absurd (show b ∈ ([] : List Addr) from z) (by simp)) (by simp)
        | some u =>
          rcases hO b with z | ⟨ob, xs, z⟩
          · rw [q] at z; cases z
          · have z2 := un.frzs b ob _ z
            obtain ⟨e1, _⟩ := hok b _ z
            obtain ⟨e2, _⟩ := hok' b _ z2
            rw [e] at e1; cases e1
            exact e2
  cases hk : K.lookup a with
  | some o =>
    -- the script is one of the module's own objects
    have e := KX a o hk
    rw [ha] at e
    cases e
    refine core (fun _ => none) (fun _ => .inl rfl) (.inr ⟨_, vs.toArray, _, hk, rfl, rfl, rfl, by rw [List.size_toArray, lenV]; exact hl, by simpa using rv⟩) (fun b u z => by have z' : (none : Option HO) = some u := z; cases z') (fun b z => absurd rfl z) fun z => absurd rfl z
  | none =>
    refine core (fun b => if b = a then some (.frz { cls := .type "list", data := .seq vs.toArray } (.lst (ns.map V.int))) else none) (fun b => ?_) (.inl (.inr ⟨{ cls := .type "list", data := .seq vs.toArray }, if_pos rfl⟩)) (fun b u z => ?_) (fun b z => ?_) fun _ => hk
    · by_cases hb : b = a
      · exact .inr ⟨_, _, if_pos hb⟩
      · exact .inl (if_neg hb)
    · by_cases hb : b = a
      · have z' := (if_pos hb).symm.trans z
        cases z'
        subst hb
        exact ⟨ha, by rw [List.length_map]; exact hl, vs, _, rv, ha⟩
      · have z' := (if_neg hb).symm.trans z
        cases z'
    · by_cases hb : b = a
      · exact hb
      · exact absurd (if_neg hb) z
end L2
namespace L2
open PySem PySem.Spec PyProof.Rows
theorem walk_of {l : PySem.W.OpenLaw} {n k : Nat} {q : Program} {loose : List Str} {XP : (Str → Option Value) → Heap → Prop} {YP : World → Heap → Prop} {d : DefRec} {K : Params → PySem.W.Frag} {CX : World → CXT} {sp : World → Sp} {x : Str}
    (hn : l.most = some n) (hn2 : n ≤ sizeLine) (hdf : d.params.defaults = []) (hr : Room k callerA)
    (hY : ∀ (w : World) (h : Heap), YP w h → (K w.params).In h)
    (F : ∀ (w : World) (mg : Str → Option Value) (fa : Addr) (h : Heap), (K w.params).In h → h.Ns mainGlobals mg → mg d.name = some (.ref fa) →
      ∃ fd : FuncData, (∀ (s : Shared) (u : Value), BindsTo s fd ⟨[u], []⟩ [(x, u)]) ∧
        ∀ base : Heap, (K w.params).In base → base.Ns mainGlobals mg → FnOk l.prog w (K w.params) mg base (CX w) k fa fd [x] (sp w))
    (hsp : ∀ (w : World) (H : Hp) (a : Addr) (ns : List Int), ns.length ≤ n → Only H → SqL (K w.params) H a (ns.map V.int) → sp w [.ref a] H (fun v _ => v = .bl true) fun _ _ _ => False)
    (hCX : ∀ (w : World) (H : Hp) (s : Shared) (e : Value) (s' : Shared), CX w [] H s (fun _ _ _ => False) e s' → False) :
    PySem.W.WalkO q loose XP YP l.row.toRowW d [] (fun f vs => PySem.call f vs) := by
  refine Att.attach_call hn hdf fun w s₀ s₁ mg mb fa o pm cd doc a vs ns G Y ho hd hcd hmg hobj hints hlen hg => ?_
  have KX := hY w _ Y
  obtain ⟨fd, hb, hF⟩ := F w mg fa _ KX G.T.g hmg
  exact law_call KX G.T.g G.T.b G.T.builtins G.T.nolimit hg hobj hints (Nat.le_trans hlen hn2) hr hF hb (fun H hO hS => hsp w H a ns hlen hO hS) fun H e s' => hCX w H s₁ e s'
end L2
namespace L2
open PySem PySem.Spec PyProof.Rows
abbrev CX0 : CXT := fun _ _ _ _ _ _ => False
abbrev E0 : XK := fun _ _ _ => False
theorem pass0 {X : Cx} : Passes CX0 X E0 := fun _ _ _ _ _ _ _ h => h.elim
structure Fun (K : PySem.W.Frag) (x qual : Str) (st : Stmt) (f : Addr) (fd : FuncData) : Prop where
  ex : ∃ (oc : Value) (od : Option Addr) (kV doc pm : Value) (an : Option Addr) (cdv ct : Value) (osl : Array (Option Value)),
    fd = PySem.W.fnOf x qual (defArgs st) (defBody st) (defScope st) .none kV doc pm an cdv ct ∧ K.lookup f = some ⟨oc, od, .func fd, osl⟩ ∧ PySem.W.codeIn K cdv qual = true
  kp : PySem.W.keepIn K (.ref f) = true
section
variable {P : Program} {w : World} {K : PySem.W.Frag} {mg : Str → Option Value} {base : Heap}
theorem Fun.ok {x qual : Str} {st : Stmt} {f : Addr} {fd : FuncData} {N ps : List Str} {k : Nat} {sp : Sp} (F : Fun K x qual st f fd) (S : FnScope N ps (defScope st)) (len : ∀ vs H Q E, sp vs H Q E → vs.length = ps.length)
    (hbody : ∀ (cdv : Value) (A : Around) (outer : List Env) (s : Shared) (H : Hp) (vs : List V) (Q : VK) (E : XK), Room k (A.deeper (envOfC qual (defScope st) s.heap.objs.size f cdv)) → sp vs H Q E →
      ∃ t, PSs (cxOf CX0 P w K mg base N qual (defScope st) f cdv A outer s H E).nox (defBody st) t ∧ t { nx := fun _ H' => Q .non H', rt := Q } (start N vs) H) : FnOk P w K mg base CX0 (k + 1) f fd ps sp := by
  obtain ⟨oc, od, kV, doc, pm, an, cdv, ct, osl, rfl, lk, hcd⟩ := F.ex
  refine fn_of lk hcd S len fun A outer s H vs Q E hr hsp => ?_
  obtain ⟨t, h, q⟩ := hbody cdv A outer s H vs Q E hr hsp
  exact ⟨t, h.nox, q⟩
theorem Fun.binds {x qual : Str} {st : Stmt} {f : Addr} {fd : FuncData} {ps : List Str} (F : Fun K x qual st f fd)
    (h : ∀ (kV doc pm : Value) (an : Option Addr) (cdv ct : Value) (us : List Value), us.length = ps.length → bindArgs (PySem.W.fnOf x qual (defArgs st) (defBody st) (defScope st) .none kV doc pm an cdv ct) ⟨us, []⟩ = pure (ps.zip us)) : Binds K fd ps [] := by
  obtain ⟨oc, od, kV, doc, pm, an, cdv, ct, osl, rfl, lk, hcd⟩ := F.ex
  exact .all (h kV doc pm an cdv ct)
theorem fun_mk {x qual : Str} {st : Stmt} {f : Addr} {oc : Value} {od an : Option Addr} {osl : Array (Option Value)} {kV doc pm cdv ct : Value} (l : K.lookup f = some ⟨oc, od, .func (PySem.W.fnOf x qual (defArgs st) (defBody st) (defScope st) .none kV doc pm an cdv ct), osl⟩)
    (c : PySem.W.codeIn K cdv qual = true) (k : PySem.W.keepIn K (.ref f) = true) : Fun K x qual st f (PySem.W.fnOf x qual (defArgs st) (defBody st) (defScope st) .none kV doc pm an cdv ct) := ⟨⟨oc, od, kV, doc, pm, an, cdv, ct, osl, rfl, l, c⟩, k⟩
end
section
variable {X : Cx}
theorem pv (i : Nat) {x : Str} {pos : Pos} (hN : X.N[i]? = some x := by rfl) (hv : Vis X.env.scope x := by first | exact Or.inl rfl | exact Or.inr (Or.inl rfl) | exact Or.inr (Or.inr rfl)) (hd : (x == ("__debug__" : Str)) = false := by decide)
    (hcd : (x == ("__classdict__" : Str)) = false := by decide) : PE X (.Name x pos) (tVar i) := pe_var hN hv hd hcd
end
theorem iteF {A B : Prop} (h : B) : if false = true then A else B := by
  rw [if_neg Bool.false_ne_true]
  exact h
theorem iteT {A B : Prop} (h : A) : if true = true then A else B := by
  rw [if_pos rfl]
  exact h
theorem iteNS {c A B : Prop} [Decidable c] (hc : c) (h : B) : if (!decide c) = true then A else B := by
  rw [decide_eq_true hc]
  exact iteF h
def Same (H H' : Hp) : Prop := ∀ b o, H b = some o → H' b = some o
theorem Same.refl (H : Hp) : Same H H := fun _ _ h => h
theorem Same.trans {H H1 H2 : Hp} (a : Same H H1) (b : Same H1 H2) : Same H H2 := fun c o h => b c o (a c o h)
theorem Same.free {H H' : Hp} (e : Same H H') {l : Addr} (h : H' l = Option.none) : H l = Option.none := by
  cases q : H l with
  | none => rfl
  | some o =>
    rw [e l o q] at h
    cases h
theorem Same.seq {K : PySem.W.Frag} {H H' : Hp} {a : Addr} {xs : List V} (e : Same H H') (h : SqL K H a xs) : SqL K H' a xs := by
  rcases h with (h | ⟨o, h⟩) | h
  · exact .inl (.inl (e _ _ h))
  · exact .inl (.inr ⟨o, e _ _ h⟩)
  · exact .inr h
end L2
namespace RV
open PySem
open Sem (wp)
theorem mro_reversed : mroOf (.type "reversed") = pure [.type "reversed", .type "object"] := by rw [mroOf_type]; kernel_rfl
theorem lookup_reversed_new : typeLookup (.type "reversed") "__new__" = pure (some (.builtin "reversed.__new__")) := by rw [typeLookup_type, builtinLookup_eq_fast]; kernel_rfl
theorem entry_reversed_new : entryFor table "reversed.__new__" = some Builtin.«reversed.__new__» := entryFor_of_tree (by kernel_rfl)
theorem typeCall_reversed_1 (a : Value) : checkTypeCall "reversed" ⟨[a], []⟩ = pure () := by kernel_rfl
theorem newCall_reversed_1 (a : Value) : checkBuiltinCall "reversed.__new__" ⟨[.type "reversed", a], []⟩ = pure () := by kernel_rfl
theorem sub_reviter : isSubtype (.type "list_reverseiterator") (.type "reversed") = pure false := by rw [isSubtype_type]; kernel_rfl
theorem madeBy_reversed : Bind.madeBy (.type "reversed") = pure (some "reversed.__new__") := madeBy_type mro_reversed lookup_reversed_new (by decide +kernel)
theorem plain_reversed : plainId "reversed.__new__" = true := by decide +kernel
theorem meets_new (l : Addr) (items : Array Value) (n : Nat) :
    Meets (Builtin.«reversed.__new__» ⟨[.type "reversed", .ref l], []⟩) (fun _ R s => s.heap.get? l = some { cls := .type "list", dict := none, data := .seq items n, slots := #[] } ∧
      R (.ok (.ret (.ref s.heap.objs.size))) { s with heap := s.heap.push { cls := .type "list_reverseiterator", data := .fields #[.ref l, rawInt (((items.size : Nat) : Int) - 1)] } }) :=
  .of_wp fun prog w A R s h => by
    obtain ⟨hl, h⟩ := h
    have hsub : isSubtype (.type "reversed") (.type "reversed") = pure true := by rw [isSubtype_type]; kernel_rfl
    have hT : s.TypeIs (.ref l) "list" := ⟨_, hl, rfl⟩
    wp_walk using (wpAny_specialOf hT F.slot_list_reversed.lookup)
    rw [F.slot_list_reversed.bind]
    refine wpAny_pure ?_
    show wpAny _ _ (rule "reversed.__new__.own-method" >>= _) _ _ _
    refine wpAny_bind (wpAny_rule (wpAny_bind ?_))
    show wpAny _ _ (call (.builtin "list.__reversed__") [.ref l]) _ _ _
    refine call_meets F.slot_list_reversed hT F.entry_list_reversed (F.args_list_reversed_1 _) (AutoListH.list___reversed___list_0 l items n) ⟨hl, ?_⟩
    exact wpAny_pure ⟨_, rfl, h⟩
section
variable {prog : Program} {w : World} {A : Around} {E : Value → Shared → Prop} {s : Shared}
theorem call_rev {l : Addr} {items : Array Value} {n : Nat} {Q : Value → Shared → Prop} (hl : s.heap.get? l = some { cls := .type "list", dict := none, data := .seq items n, slots := #[] })
    (h : Q (.ref s.heap.objs.size) { s with heap := s.heap.push { cls := .type "list_reverseiterator", data := .fields #[.ref l, rawInt (((items.size : Nat) : Int) - 1)] } }) :
    wpAny (model prog w) A (call (.type "reversed") [.ref l]) Q E s := by
  have hmro := mro_reversed
  have hmade := madeBy_reversed
  have hsub := sub_reviter
  have hct := typeCall_reversed_1 (.ref l)
  refine wpAny_call (codeAny_of_tree ?_)
  show wpAny _ _ (callAny (.type "reversed") _) _ _ _
  refine wpAny_pure ⟨Code.quiet_builtin _ (by decide +kernel), codeAny_builtin F.entry_type_call ?_⟩
  rw [Around.under_plain (weight_type_call_type "reversed" [.ref l] []) (units_type_call_type "reversed" [.ref l] [])]
  have h1 : (Value.type "reversed" == Value.type "type") = false := by decide +kernel
  have h2 : ((Manifest.find? "reversed").bind (·.mro.findSome? fun t => (Manifest.find? t).bind fun b => if b.noNew then some true else if b.attrs.any (·.1 == "__new__") then some false else none)).getD false = false := by decide +kernel
  repeat (any_goals (first | assumption | wp_step))
  refine codeAny_mono (codeAny_call_builtin plain_reversed entry_reversed_new (wpAny_of_eq (newCall_reversed_1 _) (meets_new l items n prog w A.in1 (wants (fun obj s₁ => obj = .ref s.heap.objs.size ∧ s₁ = { s with heap := s.heap.push { cls := .type "list_reverseiterator", data := .fields #[.ref l, rawInt (((items.size : Nat) : Int) - 1)] } }) E) s ⟨hl, rfl, rfl⟩))) fun r s₁ hr => ?_
  cases r with
  | error e => exact hr
  | ok fl =>
    cases fl with
    | ret obj =>
      obtain ⟨rfl, rfl⟩ := hr
      have hT : Shared.TypeIs { s with heap := s.heap.push { cls := .type "list_reverseiterator", data := .fields #[.ref l, rawInt (((items.size : Nat) : Int) - 1)] } } (.ref s.heap.objs.size) "list_reverseiterator" := ⟨_, Heap.get?_push_size _ rfl, rfl⟩
      repeat (any_goals (first | assumption | wp_step))
    | _ => exact hr.elim
end
end RV
namespace L2
open PySem PySem.Spec PyProof.Rows
def clOf (env : Env) : List (Str × NameKind) → List (Str × Addr) → List (Str × Addr)
  | [], acc => acc
  | (n, k) :: r, acc => clOf env r (if k == .free then (match env.cells.lookup n with | some c => (n, c) :: acc | none => acc) else acc)
theorem closureFor_eq {env : Env} {scope : Scope} (h : ∀ x ∈ scope.names, x.2 = .free → ∃ c, env.cells.lookup x.1 = some c) : closureFor scope env = pure (clOf env scope.names []) := by
  have gen : ∀ (l : List (Str × NameKind)) (acc : List (Str × Addr)), (∀ x ∈ l, x.2 = .free → ∃ c, env.cells.lookup x.1 = some c) →
      (forIn l acc (fun x r => if (x.2 == NameKind.free) = true then (cellOf env x.1 >>= fun c => pure (ForInStep.yield ((x.1, c) :: r))) else pure (ForInStep.yield r)) : Sem _) = pure (clOf env l acc) := by
    intro l
    induction l with
    | nil => intro acc _; rfl
    | cons x r ih =>
      intro acc hx
      obtain ⟨n, k⟩ := x
      rw [List.forIn_cons]
      by_cases hk : k = .free
      · subst hk
        obtain ⟨c, hc⟩ := hx _ List.mem_cons_self rfl
        have hc' : cellOf env n = pure c := by unfold cellOf; simp at hc; rw [hc]
        simp at hc
        simp only [clOf, hc', hc]
        have := ih ((n, c) :: acc) fun y hy => hx y (List.mem_cons_of_mem _ hy)
        exact this
      · have hb : (k == NameKind.free) = false := by simpa using hk
        simp only [clOf, hb]
        exact ih acc fun y hy => hx y (List.mem_cons_of_mem _ hy)
  have := gen scope.names [] h
  simp only [closureFor]
  rw [this]
  rfl
theorem clOf_sub {env : Env} : ∀ (l : List (Str × NameKind)) (acc : List (Str × Addr)), (∀ p ∈ acc, env.cells.lookup p.1 = some p.2) → ∀ p ∈ clOf env l acc, env.cells.lookup p.1 = some p.2
  | [], _, h => h
  | (n, k) :: r, acc, h => by
    unfold clOf
    refine clOf_sub r _ ?_
    split
    · split
      · rename_i c hc
        intro p hp
        rcases List.mem_cons.mp hp with rfl | hp
        · exact hc
        · exact h p hp
      · exact h
    · exact h
theorem clOf_keeps {env : Env} : ∀ (l : List (Str × NameKind)) (acc : List (Str × Addr)), ∀ p ∈ acc, p ∈ clOf env l acc
  | [], _, _, h => h
  | (n, k) :: r, acc, p, h => by
    unfold clOf
    refine clOf_keeps r _ p ?_
    split
    · split
      · exact List.mem_cons_of_mem _ h
      · exact h
    · exact h
theorem clOf_has {env : Env} {x : Str} {c : Addr} (hc : env.cells.lookup x = some c) : ∀ (l : List (Str × NameKind)) (acc : List (Str × Addr)), (x, NameKind.free) ∈ l → (x, c) ∈ clOf env l acc
  | [], _, h => nomatch h
  | (n, k) :: r, acc, h => by
    unfold clOf
    rcases List.mem_cons.mp h with e | h
    · cases e
      refine clOf_keeps r _ _ ?_
      rw [hc]
      simp
    · exact clOf_has hc r _ h
theorem lookup_of_mem {κ β : Type} [BEq κ] [LawfulBEq κ] {x : κ} {b : β} : ∀ {l : List (κ × β)}, (x, b) ∈ l → ∃ c, l.lookup x = some c
  | [], h => nomatch h
  | (n, k) :: r, h => by
    rw [List.lookup_cons]
    cases e : x == n with
    | true => exact ⟨_, rfl⟩
    | false =>
      rcases List.mem_cons.mp h with q | q
      · cases q; simp at e
      · exact lookup_of_mem q
theorem relabel_free {env : Env} {x : Str} : ∀ {l : List (Str × NameKind)}, l.lookup x = some .free →
    (l.map fun (n, k) => if (k == NameKind.free && env.scope.kind == .function && env.kindOf n == some .cell) then (n, NameKind.cell) else (n, k)).lookup x = some .cell ∨
    (l.map fun (n, k) => if (k == NameKind.free && env.scope.kind == .function && env.kindOf n == some .cell) then (n, NameKind.cell) else (n, k)).lookup x = some .free
  | [], h => by simp at h
  | (n, k) :: r, h => by
    have ih := @relabel_free env x r
    rw [List.map_cons]
    cases hx : x == n with
    | true =>
      simp only [List.lookup_cons, hx] at h
      cases h
      by_cases hc : (NameKind.free == NameKind.free && env.scope.kind == .function && env.kindOf n == some .cell) = true
      · left; simp only [hc, if_true, List.lookup_cons, hx]
      · right; simp only [hc, List.lookup_cons, hx]; simp only [Bool.not_eq_true] at hc; simp only [hc, Bool.false_eq_true, if_false, List.lookup_cons, hx]
    | false =>
      simp only [List.lookup_cons, hx] at h
      by_cases hc : (k == NameKind.free && env.scope.kind == .function && env.kindOf n == some .cell) = true
      · simp only [hc, if_true, List.lookup_cons, hx]; exact ih h
      · simp only [Bool.not_eq_true] at hc; simp only [hc, Bool.false_eq_true, if_false, List.lookup_cons, hx]; exact ih h
theorem relabel_back {env : Env} {x : Str} : ∀ {l : List (Str × NameKind)}, (∀ y ∈ l, y.2 ≠ .cell) →
    ((l.map fun (n, k) => if (k == NameKind.free && env.scope.kind == .function && env.kindOf n == some .cell) then (n, NameKind.cell) else (n, k)).lookup x = some .cell ∨
    (l.map fun (n, k) => if (k == NameKind.free && env.scope.kind == .function && env.kindOf n == some .cell) then (n, NameKind.cell) else (n, k)).lookup x = some .free) → (x, NameKind.free) ∈ l
  | [], _, h => by simp at h
  | (n, k) :: r, hn, h => by
    have ih := @relabel_back env x r fun y hy => hn y (List.mem_cons_of_mem _ hy)
    rw [List.map_cons] at h
    cases hx : x == n with
    | true =>
      have e : x = n := by simpa using hx
      subst e
      by_cases hk : k = .free
      · subst hk; exact List.mem_cons_self
      · have hb : (k == NameKind.free) = false := by simpa using hk
        simp only [hb, Bool.false_and, Bool.false_eq_true, if_false, List.lookup_cons, hx] at h
        rcases h with h | h
        · cases h; exact absurd rfl (hn _ List.mem_cons_self)
        · cases h; exact absurd rfl hk
    | false =>
      refine List.mem_cons_of_mem _ (ih ?_)
      by_cases hc : (k == NameKind.free && env.scope.kind == .function && env.kindOf n == some .cell) = true
      · simp only [hc, if_true, List.lookup_cons, hx] at h; exact h
      · simp only [Bool.not_eq_true] at hc; simp only [hc, Bool.false_eq_true, if_false, List.lookup_cons, hx] at h; exact h
def cxComp (X : Cx) (scope : Scope) (N : List Str) (C : Addr) (s₀ : Shared) (H₀ : Hp) (ex : List Addr) : Cx where
  prog := X.prog
  w := X.w
  K := X.K
  mg := X.mg
  base := X.base
  A := X.A
  N := N
  s₀ := s₀
  H₀ := H₀
  env := compEnvC scope (clOf X.env scope.names []) C X.env
  outer := X.stack
  stack := X.stack
  ex := ex
  fn := fun _ => false
  calm := X.calm
  pn := []
  xe := fun _ _ => False
def capσ (σ : St) (cap : List Nat) (k : Nat) : St := cap.map (fun i => (σ[i]?).join) ++ List.replicate k none
structure CompScope (X : Cx) (scope : Scope) (N : List Str) (cap : List Nat) (k : Nat) : Prop where
  kind : scope.kind = .function
  nocell : ∀ y ∈ scope.names, y.2 ≠ .cell
  free : ∀ y ∈ scope.names, y.2 = .free → X.env.kindOf y.1 = some .cell ∨ X.env.kindOf y.1 = some .free
  loc : ∀ y ∈ scope.names, y.2 = .local → scope.names.lookup y.1 = some .local
  caps : ∀ x ∈ N.take cap.length, scope.names.lookup x = some .free
  at' : cap.map (fun i => X.N[i]?) = (N.take cap.length).map some
  len : N.length = cap.length + k
theorem inv_comp {X : Cx} {scope : Scope} {N : List Str} {cap : List Nat} {k : Nat} {pins : List (Addr × Obj)} {σ : St} {H : Hp} {s : Shared} {ex : List Addr} {h₁ : Heap} {m0 : Str → Option Value} {o : Obj} {t : Nat}
    (S : CompScope X scope N cap k) (I : Inv X pins σ H s) (hx : ∀ b ∈ ex, FpOk X pins H b ∧ b < s.heap.objs.size) (hns : h₁.Ns s.heap.objs.size m0) (hsb : Heap.SameBut s.heap.objs.size (s.heap.push o) h₁) :
    Inv (cxComp X scope N s.heap.objs.size s H ex) [] (capσ σ cap k) H { s with heap := h₁, toks := t } := by
  have old : ∀ b u, s.heap.get? b = some u → h₁.get? b = some u := fun b u e => hsb.extBut b u (Nat.ne_of_lt (Heap.lt_size e)) (Heap.get?_push_of_some _ e)
  have sub : ∀ x c, (clOf X.env scope.names []).lookup x = some c → X.env.cells.lookup x = some c := fun x c e => clOf_sub (env := X.env) scope.names [] (fun _ z => nomatch z) (x, c) (PySem.mem_of_lookup e)
  have kf : ∀ x, (x, NameKind.free) ∈ scope.names → ∃ c, X.env.cells.lookup x = some c ∧ (clOf X.env scope.names []).lookup x = some c := fun x hm => by
    obtain ⟨c, hc⟩ := I.ok.has x (S.free _ hm rfl)
    obtain ⟨c', hc'⟩ := lookup_of_mem (clOf_has hc scope.names [] hm)
    have := sub x c' hc'
    rw [hc] at this; cases this
    exact ⟨c, hc, hc'⟩
  refine ⟨⟨I.ok.mod, ?_, I.ok.glob, I.ok.blt, Nat.le_refl _, fun x y c h1 h2 => I.ok.inj x y c (sub x c h1) (sub y c h2), fun x hk => ?_, fun x c hf _ => (nomatch hf), I.ok.hd, I.ok.frames, .inl rfl, fun b hb => ⟨Nat.ne_of_lt (hx b hb).2, fun x c e => (hx b hb).1.2.2.2.2.1 x c (sub x c e)⟩, I.bs, Nat.le_trans I.ok.bsz I.sz, fun b ob e hb => ?_, fun b hb z => ?_, I.stack, I.stkFree⟩,
    rfl, I.bare, Un.kept old, ⟨m0, hns, fun i x v e1 e2 e3 => ?_⟩, fun x c e => ?_, I.hok.fresh (Nat.le_refl _), fun x c e => I.freeC x c (sub x c e), fun p hp => absurd (show p ∈ ([] : List (Addr × Obj)) from hp) (by simp), I.hok.kept old, ?_⟩
  · exact S.kind
  · obtain ⟨c, _, h2⟩ := kf x (relabel_back (env := X.env) S.nocell hk)
    exact ⟨c, h2⟩
  · rcases (hx b hb).1.2.2.2.1 with z | z
    · exact I.ok.noex b ob e z
    · exact absurd (Nat.lt_of_lt_of_le (Heap.lt_size (I.ok.bs b ob e).1) z) (Nat.lt_irrefl _)
  · rcases List.mem_cons.mp (I.stkSub b z) with e | e
    · exact (hx b hb).1.2.1 e
    · exact (hx b hb).1.2.2.1 e
  · -- a name from around
    have hi : i < cap.length := by
      by_cases hi : i < cap.length
      · exact hi
      · unfold capσ at e2
        rw [List.getElem?_append_right (by simpa using hi), List.getElem?_replicate] at e2
        split at e2 <;> cases e2
    have hv : (σ[cap[i]]?).join = some v := by
      unfold capσ at e2
      rw [List.getElem?_append_left (by simpa using hi), List.getElem?_map, List.getElem?_eq_getElem hi] at e2
      exact Option.some.inj e2
    have hv' : σ[cap[i]]? = some (some v) := by
      cases q : σ[cap[i]]? with
      | none => rw [q] at hv; cases hv
      | some z => rw [q] at hv; exact congrArg some hv
    have e1' : N[i]? = some x := e1
    have hN : (N.take cap.length)[i]? = some x := by rw [List.getElem?_take_of_lt hi]; exact e1'
    have hXN : X.N[cap[i]]? = some x := by
      have q := congrArg (fun l => l[i]?) S.at'
      simp only [List.getElem?_map, hN, List.getElem?_eq_getElem hi, Option.map_some] at q
      exact Option.some.inj q
    have hfx := S.caps x (List.mem_of_getElem? hN)
    have hm : (x, NameKind.free) ∈ scope.names := PySem.mem_of_lookup hfx
    have hkx := S.free _ hm rfl
    obtain ⟨m, hn, hl⟩ := I.loc
    obtain ⟨u, r, l⟩ := hl _ x v hXN hv' (.inr hkx)
    refine ⟨u, r, .inr ⟨relabel_free (env := X.env) hfx, ?_⟩⟩
    obtain ⟨c, hc, hc'⟩ := kf x hm
    rcases l with ⟨z, _⟩ | ⟨_, c2, q, z⟩
    · rcases hkx with y | y <;> (rw [y] at z; cases z)
    · rw [hc] at q; cases q
      obtain ⟨ob, ho, hd⟩ := z
      exact ⟨c, hc', ob, old _ _ ho, hd⟩
  · obtain ⟨v, ob, ho, hd⟩ := I.cell x c (sub x c e)
    exact ⟨v, ob, old _ _ ho, hd⟩
  · show (capσ σ cap k).length = N.length
    unfold capσ
    rw [List.length_append, List.length_map, List.length_replicate, S.len]
theorem Inv.track {X : Cx} {pins : List (Addr × Obj)} {σ : St} {H : Hp} {s : Shared} {D : Addr} {ys : List V} {its : List Value} {n : Nat} (I : Inv X pins σ H s) (hn : H D = none)
    (he : s.heap.get? D = some { cls := .type "list", data := .seq its.toArray n }) (hv : Vals ys its) (hz : ys.length ≤ sizeLine) (h0 : X.s₀.heap.objs.size ≤ D) (hL : D ≠ X.env.locals)
    (hc : ∀ x c, X.env.cells.lookup x = some c → c ≠ D) (hp : ∀ p ∈ X.pn ++ pins, p.1 ≠ D) : Inv X pins σ (upd H D (.lst ys)) s := by
  refine ⟨I.ok, I.os, I.bare, ⟨I.base.keep, I.base.slot, fun b o e n hx => ?_, I.base.there, fun b xs e => ?_, fun b o u e => ?_, fun b ps e => ?_⟩, I.loc, I.cell, ?_, fun x c e => ?_, fun p hq => ?_, fun b u e => ?_, I.len⟩
  · rw [upd_ne (Nat.ne_of_lt (Nat.lt_of_lt_of_le (Heap.lt_size e) h0))]; exact I.base.free b o e n hx
  · have q := I.base.tups b xs e
    rw [upd_ne (ne_of_none q hn)]; exact q
  · have q := I.base.frzs b o u e
    rw [upd_ne (ne_of_none q hn)]; exact q
  · obtain ⟨more, q⟩ := I.base.tbls b ps e
    exact ⟨more, by rw [upd_ne (ne_of_none q hn)]; exact q⟩
  · rw [upd_ne (Ne.symm hL)]; exact I.free
  · rw [upd_ne (hc x c e)]; exact I.freeC x c e
  · obtain ⟨a, b, c, d, e⟩ := I.pin p hq
    exact ⟨a, by rw [upd_ne (hp p hq)]; exact b, c, d, e⟩
  · by_cases hb : b = D
    · subst hb
      rw [upd_same] at e; cases e
      exact ⟨hz, its, n, hv, he⟩
    · rw [upd_ne hb] at e
      exact (I.hok b u e).stay (fun _ _ _ q => q) (fun c q => by rw [upd_ne (ne_of_none q hn)]; exact q) fun c xs q => by rw [upd_ne (ne_of_none q hn)]; exact q
theorem compLoop_any {prog : Program} {w : World} {A : Around} {R : Result → Shared → Prop} {s : Shared} {elt target iter : Expr} {scope : Scope} {pos : Pos} {it acc : Value} {env : Env} (I : Nat → Shared → Prop)
    (turn : ∀ n s, I n s → wpAny (model prog w) A (pyNext it) (fun r s₁ => match r with
      | none => R (.ok .next) s₁
      | some v => wpAny (model prog w) A (letOwnedTupleGo target it v) (fun _ s₂ => wpAny (model prog w) A (assign target env v) (fun _ s₃ => wpAny (model prog w) A (eval elt env) (fun x s₄ =>
          wpAny (model prog w) A (call (.builtin "list.append") [acc, x]) (fun _ s₅ => ∃ m, m < n ∧ I m s₅) (fun _ _ => False) s₄)
          (fun _ _ => False) s₃) (fun _ _ => False) s₂) (fun _ _ => False) s₁) (fun _ _ => False) s)
    (n : Nat) (h : I n s) :
    codeAny (model prog w) A (.compLoop (.ListComp elt [⟨target, iter, [], 0⟩] scope pos) 0 it acc env) R s := by
  refine codeAny_loop rfl I (fun n s hI => ?_) n h
  show wpAny _ _ ((compTurn (.ListComp elt [⟨target, iter, [], 0⟩] scope pos) 0 it acc env).onRaise (fun x => do noteFrame x env; theTreesLotGoes x)) _ _ s
  refine wpAny_noted ?_
  rw [compTurn_list1]
  refine wpAny_bind (wpAny_standAt (wpAny_bind (wpAny_mono (turn n s hI) (fun r s₁ h₁ => ?_) fun _ _ h' => h'.elim)))
  cases r with
  | none => exact wpAny_pure h₁
  | some v =>
    refine wpAny_bind (wpAny_mono h₁ (fun _ s₂ h₂ => ?_) fun _ _ h' => h'.elim)
    exact wpAny_bind (wpAny_mono h₂ (fun _ s₃ h₃ => wpAny_bind (wpAny_bind (wpAny_mono h₃ (fun x s₄ h₄ => wpAny_bind (wpAny_mono h₄
      (fun _ s₅ h₅ => wpAny_pure (wpAny_pure ⟨rfl, h₅⟩)) fun _ _ h' => h'.elim)) fun _ _ h' => h'.elim))) fun _ _ h' => h'.elim)
def CompW (J : It) (cap : List Nat) (k : Nat) (g : TG) (te : TE) (σ : St) (H1 : Hp) (Q : VK) : Prop :=
  ∃ W : Nat → Nat → List V → Hp → Prop, (∃ m, W 0 m [] H1) ∧ ∀ i m ys H, W i m ys H →
    (J.stop i H ∧ ∀ D, H D = none → Q (.ref D) (upd H D (.lst ys))) ∨
    (J.go i H ∧ ys.length < sizeLine ∧ ∃ Nx : VK, (∀ y H3, Nx y H3 → ∃ m', m' < m ∧ W (i + 1) m' (ys ++ [y]) H3) ∧ ∀ x H', J.yld i H x H' → g x (capσ σ cap k) H' fun σ2 H2 => σ2.take cap.length = (capσ σ cap k).take cap.length ∧ te σ2 H2 Nx)
def tComp (wi : TI) (cap : List Nat) (k : Nat) (g : TG) (te : TE) : TE := fun σ H Q => wi σ H fun J H1 => CompW J cap k g te σ H1 Q
end L2
namespace L2
open PySem PySem.Spec PyProof.Rows
section
variable {X : Cx} {elt tg iter : Expr} {scope : Scope} {pos : Pos} {N : List Str} {cap : List Nat} {k : Nat} {wi : TI} {g : TG} {te : TE}
theorem comp_block (S : CompScope X scope N cap k) (hc : X.calm = true)
    (hg : ∀ C s₀ H₀ ex, PG (cxComp X scope N C s₀ H₀ ex) tg g) (he : ∀ C s₀ H₀ ex, PE (cxComp X scope N C s₀ H₀ ex) elt te)
    {pins : List (Addr × Obj)} {σ : St} {H : Hp} {s : Shared} {it : Addr} {fp : List Addr} {tn : Nat → Heap → Prop} {J : It} {Q : VK} {RR : Value → Addr → Result → Shared → Prop} {E : Value → Shared → Prop}
    (I : Inv X pins σ H s) (T : Turn X.prog X.w X.K tg J fp it tn) (st : tn 0 s.heap) (hf : ∀ b ∈ fp, FpOk X pins H b)
    (W : Nat → Nat → List V → Hp → Prop) (w0 : ∃ m, W 0 m [] H)
    (turn : ∀ i m ys H, W i m ys H →
      (J.stop i H ∧ ∀ D, H D = none → Q (.ref D) (upd H D (.lst ys))) ∨
      (J.go i H ∧ ys.length < sizeLine ∧ ∃ Nx : VK, (∀ y H3, Nx y H3 → ∃ m', m' < m ∧ W (i + 1) m' (ys ++ [y]) H3) ∧ ∀ x H', J.yld i H x H' → g x (capσ σ cap k) H' fun σ2 H2 => σ2.take cap.length = (capσ σ cap k).take cap.length ∧ te σ2 H2 Nx))
    (hRR : ∀ D C s' m', (∃ H', s'.heap.Ns C m' ∧ (∀ h', Heap.SameBut C s'.heap h' → Inv X pins σ H' { s' with heap := h' } ∧ X.env.locals ≠ C ∧ (∀ x c, X.env.cells.lookup x = some c → c ≠ C)) ∧ FpOk X pins H' C ∧ Q (.ref D) H') → RR (.ref D) C (.ok .next) s') :
    wpAny (model X.prog X.w) X.A (newList []) (fun acc s₃ => wpAny (model X.prog X.w) X.A (newFunctionEnv scope X.env.globals (clOf X.env scope.names []) [] X.env.qual none .none (some X.env)) (fun cenv s₄ =>
      codeAny (model X.prog X.w) X.A (.compStart (.ListComp elt [⟨tg, iter, [], 0⟩] scope pos) 0 (.ref it) acc { cenv with scope := relabel scope X.env }) (RR acc cenv.locals) s₄) E s₃) E s := by
  refine wpAny_newObj_type (wpAny_newFunctionEnv S.nocell (by intro y hy; simp at hy) (fun h₁ hns₁ hsb₁ => ?_) S.kind)
  have I3 : Inv X pins σ H { s with heap := s.heap.push { cls := .type "list", dict := none, data := .seq ([] : List Value).toArray } } := I.kept (t' := s.toks) fun b u e => Heap.get?_push_of_some _ e
  have hD0 : (s.heap.push { cls := .type "list", dict := none, data := .seq ([] : List Value).toArray }).get? s.heap.objs.size = some { cls := .type "list", data := .seq ([] : List Value).toArray } := Heap.get?_push_size _ rfl
  have hfpl : ∀ b ∈ fp, b < s.heap.objs.size := fun b hb => by
    obtain ⟨o, e, _⟩ := T.obj _ _ st b hb
    exact Heap.lt_size e
  have hDf : s.heap.objs.size ∉ fp := fun hm => Nat.lt_irrefl _ (hfpl _ hm)
  have fD : FpOk X pins H s.heap.objs.size := I.fpOk (Nat.le_refl _) (I.hok.fresh (Nat.le_refl _))
  dsimp only at hns₁ hsb₁ ⊢
  generalize hH2 : s.heap.push { cls := .type "list", dict := none, data := .seq ([] : List Value).toArray } = H2 at hns₁ hsb₁ I3 hD0 ⊢
  have hsz : H2.objs.size = s.heap.objs.size + 1 := by rw [← hH2, Heap.size_push]
  have hle : s.heap.objs.size ≤ H2.objs.size := by rw [hsz]; exact Nat.le_succ _
  have st3 : tn 0 H2 := T.keep _ _ _ st fun b _ o e => by rw [← hH2]; exact Heap.get?_push_of_some _ e
  generalize hD : s.heap.objs.size = D at hD0 hDf fD hsz ⊢
  have hCD : H2.objs.size ≠ D := by (first | lia | omega)
  have IC := inv_comp (t := s.toks + ([] : List (Str × Value)).length) (ex := D :: fp) S I3 (fun b hb => by
    rcases List.mem_cons.mp hb with rfl | hb
    · exact ⟨fD, by show _ < H2.objs.size; (first | lia | omega)⟩
    · exact ⟨hf b hb, Nat.lt_of_lt_of_le (hfpl b hb) hle⟩) hns₁ hsb₁
  have old : ∀ b u, H2.get? b = some u → h₁.get? b = some u := fun b u e => hsb₁.extBut b u (Nat.ne_of_lt (Heap.lt_size e)) (Heap.get?_push_of_some _ e)
  have st4 : tn 0 h₁ := T.keep _ _ _ st3 fun b _ o e => old b o e
  have hD1 := old _ _ hD0
  generalize hXC : cxComp X scope N H2.objs.size { s with heap := H2 } H (D :: fp) = XC at IC
  have fpC : ∀ {H' : Hp} {pl : List (Addr × Obj)}, (∀ p ∈ pl, p.1 ∉ fp) → (∀ b ∈ fp, H' b = none) → ∀ b ∈ fp, FpOk XC pl H' b := fun {H' pl} hpl hn b hb => by
    subst hXC
    obtain ⟨f0, f1, f2, f3, f4, f5⟩ := hf b hb
    refine ⟨hn b hb, Nat.ne_of_lt (Nat.lt_of_lt_of_le (hfpl b hb) hle), fun z => ?_, .inl (List.mem_cons_of_mem _ hb), fun x c e => ?_, fun p hp z => ?_⟩
    · rcases List.mem_cons.mp (I3.stkSub b z) with e | e
      · exact f1 e
      · exact f2 e
    · exact f4 x c (clOf_sub (env := X.env) scope.names [] (fun _ z => nomatch z) (x, c) (PySem.mem_of_lookup e))
    · have hp' : p ∈ pl := by simpa [cxComp] using hp
      exact hpl p hp' (by rw [z]; exact hb)
  have fpD : ∀ {H' : Hp}, H' D = none → FpOk XC [] H' D := fun {H'} hn => by
    subst hXC
    obtain ⟨f0, f1, f2, f3, f4, f5⟩ := fD
    refine ⟨hn, Ne.symm hCD, fun z => ?_, .inl List.mem_cons_self, fun x c e => ?_, fun p hp z => by simp [cxComp] at hp⟩
    · rcases List.mem_cons.mp (I3.stkSub D z) with e | e
      · exact f1 e
      · exact f2 e
    · exact f4 x c (clOf_sub (env := X.env) scope.names [] (fun _ z => nomatch z) (x, c) (PySem.mem_of_lookup e))
  have hgC : PG XC tg g := by rw [← hXC]; exact hg _ _ _ _
  have heC : PE XC elt te := by rw [← hXC]; exact he _ _ _ _
  have e1 : XC.prog = X.prog := by rw [← hXC]; rfl
  have e2 : XC.w = X.w := by rw [← hXC]; rfl
  have e3 : XC.K = X.K := by rw [← hXC]; rfl
  have e4 : XC.A = X.A := by rw [← hXC]; rfl
  have e5 : XC.calm = true := by rw [← hXC]; exact hc
  have e6 : XC.xe = fun _ _ => False := by rw [← hXC]; rfl
  have e7 : XC.env = compEnvC scope (clOf X.env scope.names []) H2.objs.size X.env := by rw [← hXC]; rfl
  have fin : ∀ (ys : List V) (its : List Value) (n : Nat) (H' : Hp) (s' : Shared), Inv XC [] (capσ σ cap k) H' s' → H' D = none → s'.heap.get? D = some { cls := .type "list", data := .seq its.toArray n } → Vals ys its → ys.length ≤ sizeLine →
      Q (.ref D) (upd H' D (.lst ys)) → RR (.ref D) H2.objs.size (.ok .next) s' := fun ys its n H' s' I' hn hd hv hz q => by
    obtain ⟨m', hm', _⟩ := I'.loc
    have hm'' : s'.heap.Ns H2.objs.size m' := by rw [e7] at hm'; exact hm'
    have hfree : H' H2.objs.size = none := by have := I'.free; rw [e7] at this; exact this
    have hos : s'.os = s.os := by have := I'.os; rw [← hXC] at this; exact this
    have hun : Un (frs X.stack) (D :: fp) H H' H2 s'.heap := by have := I'.base; rw [← hXC] at this; exact this
    have hok : HOk X.prog X.w H' s'.heap := by have := I'.hok; rw [e1, e2] at this; exact this
    have IP : Inv X pins σ H' s' := I3.call' (ch := D :: fp) hos hun hok I'.bare (fun b hb => by
      have hb' : FpOk X pins H b := by
        rcases List.mem_cons.mp hb with rfl | hb
        · exact fD
        · exact hf b hb
      exact ⟨hb'.2.2.2.1, hb'.2.1, hb'.2.2.2.2.1, hb'.2.2.2.2.2⟩)
    have fC : FpOk X pins H' H2.objs.size := I3.fpOk (Nat.le_refl _) hfree
    refine hRR D H2.objs.size s' m' ⟨upd H' D (.lst ys), hm'', fun h' hs' => ⟨?_, Ne.symm fC.2.1, fC.2.2.2.2.1⟩, ⟨by rw [upd_ne hCD]; exact fC.1, fC.2⟩, q⟩
    have I4 : Inv X pins σ H' { s' with heap := h' } := IP.turned (t' := s'.toks) (it := H2.objs.size) (fun b o hb e => hs'.extBut b o hb e) hfree (Ne.symm (Ne.symm fC.2.1)) fC.2.2.2.1 fC.2.2.2.2.1 fC.2.2.2.2.2
    refine I4.track hn (hs'.extBut D _ (Ne.symm hCD) hd) hv hz ?_ fD.2.1 fD.2.2.2.2.1 fD.2.2.2.2.2
    have := I.sz
    (first | lia | omega)
  have loop : ∀ s₄ : Shared, s₄ = { s with heap := h₁, toks := s.toks + ([] : List (Str × Value)).length } →
      codeAny (model X.prog X.w) X.A (.compLoop (.ListComp elt [⟨tg, iter, [], 0⟩] scope pos) 0 (.ref it) (.ref D) (compEnvC scope (clOf X.env scope.names []) H2.objs.size X.env)) (RR (.ref D) H2.objs.size) s₄ := by
    rintro s₄ rfl
    obtain ⟨m0, w0⟩ := w0
    refine compLoop_any (fun n s' => ∃ i ys its n' H', Inv XC [] (capσ σ cap k) H' s' ∧ tn i s'.heap ∧ (∀ b ∈ fp, H' b = none) ∧ H' D = none ∧ s'.heap.get? D = some { cls := .type "list", data := .seq its.toArray n' } ∧ Vals ys its ∧ ys.length ≤ sizeLine ∧ W i n ys H') ?_ m0
      ⟨0, [], [], _, H, IC, st4, fun b hb => (hf b hb).1, fD.1, hD1, .nil, Nat.zero_le _, w0⟩
    rintro n s5 ⟨i, ys, its, n', H5, I5, st5, fr5, hn5, hd5, hv5, hz5, w5⟩
    have IP5 : Inv XC [(D, { cls := .type "list", data := .seq its.toArray n' })] (capσ σ cap k) H5 s5 := I5.pins_of fun p hp => by
      have ep : p = (D, { cls := .type "list", data := .seq its.toArray n' }) := by simpa using hp
      subst ep
      obtain ⟨f0, f1, f2, _⟩ := fpD hn5
      exact ⟨hd5, f0, f1, f2, fun v z => by cases z⟩
    have nofp : ∀ p ∈ [(D, ({ cls := .type "list", data := .seq its.toArray n' } : Obj))], p.1 ∉ fp := fun p hp => by
      have ep : p = (D, { cls := .type "list", data := .seq its.toArray n' }) := by simpa using hp
      subst ep
      exact hDf
    rcases turn i n ys H5 w5 with ⟨stop, qn⟩ | ⟨go, hlen, Nx, hNx, step⟩
    · have hd := T.done XC e1 e2 e3 e5 i _ s5 _ H5 (fun _ _ => False) IP5 (fpC nofp fr5) st5 stop
      rw [e4] at hd
      refine thn hd fun r s6 ⟨hr, I6⟩ => ?_
      subst hr
      have p6 := I6.pin (D, { cls := .type "list", data := .seq its.toArray n' }) (List.mem_append_right _ (by simp))
      exact fin ys its n' H5 s6 (I6.pins_of fun p hp => nomatch hp) hn5 p6.1 hv5 hz5 (qn D hn5)
    · have hi := T.item XC e1 e2 e3 e5 i _ s5 _ H5 (fun _ _ => False) IP5 (fpC nofp fr5) st5 go
      rw [e4] at hi
      refine thn hi fun r s6 ⟨u, hr, h6⟩ => ?_
      subst hr
      refine thn h6 fun _ s7 ⟨x, H7, I7, r7, y7, st7, fr7⟩ => ?_
      have p7 := I7.pin (D, { cls := .type "list", data := .seq its.toArray n' }) (List.mem_append_right _ (by simp))
      have IP7 := I7.pinned (fpC nofp fr7) (T.obj _ _ st7)
      have hg7 := hgC _ s7 _ H7 x u _ IP7 r7 (step x H7 y7)
      rw [e1, e2, e4, e6, e7] at hg7
      refine thn hg7 fun _ s8 ⟨σ8, H8, I8, q8⟩ => ?_
      have he8 := heC _ s8 σ8 H8 _ I8 q8.2
      rw [e1, e2, e4, e6, e7] at he8
      refine thn he8 fun v s9 ⟨y, H9, I9, r9, q9⟩ => ?_
      obtain ⟨m', hm', w9⟩ := hNx y H9 q9
      have p9 := I9.pin (D, { cls := .type "list", data := .seq its.toArray n' }) (List.mem_append_right _ (List.mem_append_left _ (by simp)))
      have st9 : tn (i + 1) s9.heap := T.keep _ _ _ st7 fun b hb o e => (I9.pin (b, o) (List.mem_append_right _ (List.mem_append_right _ (mem_pinsAt hb e)))).1
      have fr9 : ∀ b ∈ fp, H9 b = none := fun b hb => by
        obtain ⟨o, e, d⟩ := T.obj _ _ st7 b hb
        exact (I9.pin (b, o) (List.mem_append_right _ (List.mem_append_right _ (mem_pinsAt hb e)))).2.1
      have hlv := hv5.length
      refine call_meets F.slot_list_append ⟨_, p9.1, rfl⟩ F.entry_list_append (F.args_list_append_2 _ _) (PySem.list_append D its.toArray n' v (by rw [List.size_toArray]; (first | lia | omega))) ⟨p9.1, ?_⟩
      have q := PySem.IsL.update p9.1 (·.push v)
      have eo : (its.toArray.push v) = (its ++ [v]).toArray := by simp
      rw [eo] at q
      have I9' : Inv XC [] (capσ σ cap k) H9 s9 := (I9.pins_of (pins' := []) fun p hp => nomatch hp).weak (by
        have a := I9.len
        have b := IC.len
        rw [b, a]) (fun j z hz => by
          have hj : j < cap.length := by
            by_cases hj : j < cap.length
            · exact hj
            · unfold capσ at hz
              rw [List.getElem?_append_right (by simpa using hj), List.getElem?_replicate] at hz
              split at hz <;> cases hz
          have q := congrArg (fun l => l[j]?) q8.1
          simp only [List.getElem?_take_of_lt hj] at q
          rw [q]
          exact hz)
      refine ⟨m', hm', i + 1, ys ++ [y], its ++ [v], _, H9, I9'.turned (it := D) (fun b o hb e => (Heap.get?_update_other s9.heap _ (Ne.symm hb)).trans e) p9.2.1 p9.2.2.1 (fpD p9.2.1).2.2.2.1 (fpD p9.2.1).2.2.2.2.1 (fun p hp => by rw [← hXC] at hp; simp [cxComp] at hp), ?_, fr9, p9.2.1, q, hv5.append (.cons r9 .nil), ?_, w9⟩
      · exact T.keep _ _ _ st9 fun b hb o e => (Heap.get?_update_other s9.heap _ (by rintro rfl; exact hDf hb)).trans e
      · rw [List.length_append, List.length_singleton]; (first | lia | omega)
  exact codeAny_compStart_list (loop _ rfl) (T.self _ 0 _ _ _ st4 (loop _ rfl))
theorem pe_comp (S : CompScope X scope N cap k) (hc : X.calm = true) (hi : PI X tg iter wi)
    (hg : ∀ C s₀ H₀ ex, PG (cxComp X scope N C s₀ H₀ ex) tg g) (he : ∀ C s₀ H₀ ex, PE (cxComp X scope N C s₀ H₀ ex) elt te)
    (hs : ∀ x, foldedSetIterable iter X.env x = pure x := by intro _; rfl) : PE X (.ListComp elt [⟨tg, iter, [], 0⟩] scope pos) (tComp wi cap k g te) := by
  intro pins s σ H Q I h
  rw [eval_ListComp]
  refine wpAny_comprehension_free (use := none) rfl hs (closureFor_eq fun x hx hf => I.ok.has x.1 (S.free x hx hf)) S.kind S.loc (thn (hi pins s σ H _ I h) fun xv s1 h1 => thn h1 fun itv s2 h2 => ?_)
  obtain ⟨it, fp, tn, J, H2, e, I2, T, st2, f2, W, w0, turn⟩ := h2
  subst e
  refine comp_block (Q := Q) (RR := fun acc C => compPost (model X.prog X.w) X.A X.xe none (EP X pins σ Q) acc C) S hc hg he I2 T st2 f2 W w0 turn ?_
  rintro D C s' m' ⟨H', hn, hk, _, q⟩
  exact ⟨m', hn, fun h' hs' => ⟨.ref D, H', (hk h' hs').1, rfl, q⟩⟩
end
end L2
namespace L2
open PySem PySem.Spec PyProof.Rows
section
variable {X : Cx} {tg : Expr}
end
theorem ne4 {m c n : Nat} (h : m + 4 < n) (hc : c = m + 4 ∨ c = m + 2 ∨ c = m + 3 ∨ c = m ∨ c = m + 1) : c ≠ n := by (first | lia | omega)
theorem le4 {m c : Nat} (hc : c = m + 4 ∨ c = m + 2 ∨ c = m + 3 ∨ c = m ∨ c = m + 1) : m ≤ c := by (first | lia | omega)
def Itz (K : PySem.W.Frag) (a b : Addr) : It :=
  ⟨fun i H => ∃ xs ys, SqL K H a xs ∧ SqL K H b ys ∧ i < xs.length ∧ i < ys.length,
   fun i H x H' => ∃ p u v, x = .ref p ∧ H p = none ∧ H' = upd H p (.tup [u, v]) ∧ (∀ xs, SqL K H a xs → xs[i]? = some u) ∧ ∀ ys, SqL K H b ys → ys[i]? = some v,
   fun i H => ∃ xs ys, SqL K H a xs ∧ SqL K H b ys ∧ (xs.length ≤ i ∨ ys.length ≤ i)⟩
theorem turn_zip {P : Program} {w : World} {K : PySem.W.Frag} {elts : List Expr} {k : Nat} {tpos : Pos} (a b m : Addr) (ha : a < m) (hb : b < m) :
    Turn P w K (.Tuple elts k tpos) (Itz K a b) [m + 4, m + 2, m + 3, m, m + 1] (m + 4)
      (fun i h => IsZip h (m + 4) (m + 2) (m + 3) .none ∧ IsPair h (m + 2) (.ref m) (.ref (m + 1)) ∧ (∃ u v, IsPair h (m + 3) u v) ∧ h.IsListIter m a i ∧ h.IsListIter (m + 1) b i) where
  mem := by simp
  obj := fun i h st c hc => by
    obtain ⟨s1, s2, ⟨u, v, s3⟩, ⟨o4, e4, c4, d4⟩, ⟨o5, e5, c5, d5⟩⟩ := st
    simp only [List.mem_cons, List.not_mem_nil, or_false] at hc
    rcases hc with rfl | rfl | rfl | rfl | rfl
    · exact ⟨_, s1, fun v z => by cases z⟩
    · exact ⟨_, s2, fun v z => by cases z⟩
    · exact ⟨_, s3, fun v z => by cases z⟩
    · exact ⟨_, e4, fun v z => by rw [d4] at z; cases z⟩
    · exact ⟨_, e5, fun v z => by rw [d5] at z; cases z⟩
  keep := fun i h h' st kk => by
    obtain ⟨s1, s2, ⟨u, v, s3⟩, s4, s5⟩ := st
    exact ⟨kk _ (by simp) _ s1, kk _ (by simp) _ s2, ⟨u, v, kk _ (by simp) _ s3⟩, s4.at fun o e => kk _ (by simp) o e, s5.at fun o e => kk _ (by simp) o e⟩
  item := by
    intro X hP hw hK hc i pins s σ H E I hf st hg
    subst hP hw hK
    obtain ⟨xs, ys, hx, hy, hxl, hyl⟩ := hg
    obtain ⟨s1, s2, ⟨u0, v0, s3⟩, s4, s5⟩ := st
    obtain ⟨ix, rx, px, _⟩ := I.list hx
    obtain ⟨iy, ry, py, _⟩ := I.list hy
    obtain ⟨u, hu, ru⟩ := rx.get (List.getElem?_eq_getElem hxl)
    obtain ⟨v, hv, rv⟩ := ry.get (List.getElem?_eq_getElem hyl)
    have D := zipApart_new ha hb
    refine wpAny_pyNext_zip_item D s1 s2 s3 s4 s5 px.isList py.isList (x := u) (y := v) (by simpa using hu) (by simpa using hv) fun h' a1 a2 a3 a4 a5 a6 hk => ?_
    refine ⟨_, rfl, wpAny_letOwnedTupleGo_zip a1 fun h2 hz2 hs2 => ?_⟩
    replace hs2 : Heap.SameBut (m + 4) h' h2 := hs2
    have lt4 : m + 4 < s.heap.objs.size := Heap.lt_size s1
    have keepO : ∀ c o, c ∉ [m + 4, m + 2, m + 3, m, m + 1] → s.heap.get? c = some o → h2.get? c = some o := fun c o hc e => by
      simp only [List.mem_cons, List.not_mem_nil, or_false, not_or] at hc
      exact hs2.extBut c o hc.1 (hk c o hc.1 hc.2.2.1 hc.2.2.2.1 hc.2.2.2.2 e)
    have I1 : Inv X pins σ H { s with heap := h2 } := by
      refine I.step (g' := s.gens) (d' := s.drawn) (t' := s.toks) (ch := [m + 4, m + 2, m + 3, m, m + 1]) (fun c hc => ?_) (fun c o _ _ hc e _ => keepO c o hc e) (fun c o _ _ hc e _ => ⟨o.slots, keepO c o hc e⟩) (fun _ _ _ _ nn => nn)
        (fun c o hc e => ⟨o, keepO c o hc e⟩) (fun _ _ e => e) (fun _ _ _ e => e) (fun c ps e => ⟨#[], by rw [e]; simp⟩) (fun mm hm => ?_) (fun c o e => ?_) I.bare
      · obtain ⟨f0, f1, f2, f3, f4, f5⟩ := hf c hc
        exact ⟨f3, f1, f4, f5⟩
      · obtain ⟨o, es, ep, ho, r⟩ := hm
        exact ⟨o, es, ep, keepO _ o (fun z => (hf _ z).2.1 rfl) ho, r⟩
      · have nin : ∀ d u', H d = some u' → d ∉ [m + 4, m + 2, m + 3, m, m + 1] := fun d u' q z => by have := (hf d z).1; rw [q] at this; cases this
        refine (I.hok c o e).stay (fun d v' hd q => keepO d v' ?_ q) (fun _ q => q) fun _ _ q => q
        rcases hd with z | z
        · rw [z]; exact nin c o e
        · exact nin d _ z
    have hfr : H s.heap.objs.size = none := I.hok.fresh (Nat.le_refl _)
    have ht2 : IsPair h2 s.heap.objs.size u v := hs2.extBut _ _ (Nat.ne_of_gt lt4) a5
    have I2 : Inv X pins σ (upd H s.heap.objs.size (.tup [xs[i], ys[i]])) { s with heap := h2 } := by
      have fD : FpOk X pins H s.heap.objs.size := I.fpOk (Nat.le_refl _) hfr
      refine ⟨I1.ok, I1.os, I1.bare, ⟨I1.base.keep, I1.base.slot, fun c o e nn hx => ?_, I1.base.there, fun c zs e => ?_, fun c o u' e => ?_, fun c ps e => ?_⟩, I1.loc, I1.cell, ?_, fun y c e => ?_, fun p hq => ?_, fun c u' e => ?_, I1.len⟩
      · rw [upd_ne (Nat.ne_of_lt (Nat.lt_of_lt_of_le (Heap.lt_size e) I.sz))]; exact I1.base.free c o e nn hx
      · have q := I1.base.tups c zs e
        rw [upd_ne (ne_of_none q hfr)]; exact q
      · have q := I1.base.frzs c o u' e
        rw [upd_ne (ne_of_none q hfr)]; exact q
      · obtain ⟨more, q⟩ := I1.base.tbls c ps e
        exact ⟨more, by rw [upd_ne (ne_of_none q hfr)]; exact q⟩
      · rw [upd_ne (Ne.symm fD.2.1)]; exact I1.free
      · rw [upd_ne (fD.2.2.2.2.1 y c e)]; exact I1.freeC y c e
      · obtain ⟨q1, q2, q3, q4, q5⟩ := I1.pin p hq
        exact ⟨q1, by rw [upd_ne (fD.2.2.2.2.2 p hq)]; exact q2, q3, q4, q5⟩
      · by_cases hc' : c = s.heap.objs.size
        · subst hc'
          rw [upd_same] at e; cases e
          exact ⟨by show 2 ≤ sizeLine; decide, [u, v], .cons ru (.cons rv .nil), ⟨_, ht2, rfl, _, rfl⟩⟩
        · rw [upd_ne hc'] at e
          exact (I1.hok c u' e).stay (fun _ _ _ q => q) (fun d q => by rw [upd_ne (ne_of_none q hfr)]; exact q) fun d zs q => by rw [upd_ne (ne_of_none q hfr)]; exact q
    refine ⟨.ref s.heap.objs.size, _, I2, rfl, ⟨_, _, _, rfl, hfr, rfl, fun zs hz => by rw [I.list_inj hz hx]; exact List.getElem?_eq_getElem hxl, fun zs hz => by rw [I.list_inj hz hy]; exact List.getElem?_eq_getElem hyl⟩, ?_, fun c hc => ?_⟩
    · exact ⟨hz2, hs2.extBut _ _ D.TIz (hk _ _ D.TIz D.TITO D.TIi1 D.TIi2 s2), ⟨_, _, hs2.extBut _ _ D.TOz a2⟩, a3.extBut hs2.extBut D.i1z, a4.extBut hs2.extBut D.i2z⟩
    · have hc2 := (hf c hc).1
      have hlt : c ≠ s.heap.objs.size := by
        simp only [List.mem_cons, List.not_mem_nil, or_false] at hc
        exact ne4 lt4 hc
      rw [upd_ne hlt]; exact hc2
  done := by
    intro X hP hw hK hc i pins s σ H E I hf st hg
    subst hP hw hK
    obtain ⟨xs, ys, hx, hy, hend⟩ := hg
    obtain ⟨s1, s2, ⟨u0, v0, s3⟩, s4, s5⟩ := st
    obtain ⟨ix, rx, px, _⟩ := I.list hx
    obtain ⟨iy, ry, py, _⟩ := I.list hy
    have lx := rx.length
    have ly := ry.length
    have D := zipApart_new ha hb
    refine wpAny_pyNext_zip_end (I.ok.hd hc) D s1 s2 s3 s4 s5 px.isList py.isList (by rcases hend with z | z; exact .inl (by simp; (first | lia | omega)); exact .inr (by simp; (first | lia | omega))) fun h' hk => ⟨rfl, ?_⟩
    have keepO : ∀ c o, c ∉ [m + 4, m + 2, m + 3, m, m + 1] → s.heap.get? c = some o → h'.get? c = some o := fun c o hc e => by
      simp only [List.mem_cons, List.not_mem_nil, or_false, not_or] at hc
      exact hk c o hc.1 hc.2.2.1 hc.2.2.2.1 hc.2.2.2.2 e
    refine I.step (g' := s.gens) (d' := s.drawn) (t' := s.toks) (ch := [m + 4, m + 2, m + 3, m, m + 1]) (fun c hc => ?_) (fun c o _ _ hc e _ => keepO c o hc e) (fun c o _ _ hc e _ => ⟨o.slots, keepO c o hc e⟩) (fun _ _ _ _ nn => nn)
      (fun c o hc e => ⟨o, keepO c o hc e⟩) (fun _ _ e => e) (fun _ _ _ e => e) (fun c ps e => ⟨#[], by rw [e]; simp⟩) (fun mm hm => ?_) (fun c o e => ?_) I.bare
    · obtain ⟨f0, f1, f2, f3, f4, f5⟩ := hf c hc
      exact ⟨f3, f1, f4, f5⟩
    · obtain ⟨o, es, ep, ho, r⟩ := hm
      exact ⟨o, es, ep, keepO _ o (fun z => (hf _ z).2.1 rfl) ho, r⟩
    · have nin : ∀ d u', H d = some u' → d ∉ [m + 4, m + 2, m + 3, m, m + 1] := fun d u' q z => by have := (hf d z).1; rw [q] at this; cases this
      refine (I.hok c o e).stay (fun d v' hd q => keepO d v' ?_ q) (fun _ q => q) fun _ _ q => q
      rcases hd with z | z
      · rw [z]; exact nin c o e
      · exact nin d _ z
  self := fun _ _ _ _ _ st h => wpAny_pyIter_zip st.1 h
end L2
namespace L2
open PySem PySem.Spec PyProof.Rows
theorem boot_zipX : bootBuiltins "zip" = some (.type "zip") := by decide +kernel
section
variable {X : Cx} {tg : Expr}
def iZip (K : PySem.W.Frag) (ta : TA) : TI := fun σ H R => ta σ H fun vs H1 => ∃ a b xs ys, vs = [.ref a, .ref b] ∧ SqL K H1 a xs ∧ SqL K H1 b ys ∧ R (Itz K a b) H1
theorem pi_zip {e e' : Expr} {ta : TA} {p pos tpos : Pos} {elts : List Expr} {k : Nat} (hg : Gl X "zip") (hm : X.mg "zip" = none) (ha : PA X [e, e'] ta) (hs : starEach [e, e'] X.env = [(false, eval e X.env), (false, eval e' X.env)] := by rfl) (hs2 : starEach [e'] X.env = [(false, eval e' X.env)] := by rfl) :
    PI X (.Tuple elts k tpos) (.Call (.Name "zip" p) [e, e'] [] pos) (iZip X.K ta) := by
  intro pins s σ H R I h
  refine Call_ (ld_blt I hg hm boot_zipX (PyProof.Rows.callWith_type1 (thn (ha pos pins s σ H _ I h) fun us s1 ⟨vs, H1, I1, r1, q1⟩ => ?_) (by rw [hs, hs2]) (by rw [hs2]; rfl)))
  obtain ⟨a, b, xs, ys, e, hx, hy, q⟩ := q1
  subst e
  cases r1 with
  | cons r rr =>
    cases rr with
    | cons r' rr =>
      cases rr
      cases r
      cases r'
      obtain ⟨ix, rx, px, _⟩ := I1.list hx
      obtain ⟨iy, ry, py, _⟩ := I1.list hy
      have la : a < s1.heap.objs.size := by obtain ⟨o, ho, _⟩ := px.isList; exact Heap.lt_size ho
      have lb : b < s1.heap.objs.size := by obtain ⟨o, ho, _⟩ := py.isList; exact Heap.lt_size ho
      refine call_zip_2 px.isList py.isList fun h' hz hTI hTO hi1 hi2 hsz hk => wpAny_pyIter_zip (s := { s1 with heap := h' }) hz ?_
      refine ⟨s1.heap.objs.size + 4, [s1.heap.objs.size + 4, s1.heap.objs.size + 2, s1.heap.objs.size + 3, s1.heap.objs.size, s1.heap.objs.size + 1], _, _, H1, rfl, I1.kept (t' := s1.toks) hk, turn_zip a b s1.heap.objs.size la lb, ⟨hz, hTI, ⟨_, _, hTO⟩, hi1, hi2⟩, fun c hc => ?_, q⟩
      have hle : s1.heap.objs.size ≤ c := by
        simp only [List.mem_cons, List.not_mem_nil, or_false] at hc
        exact le4 hc
      exact I1.fpOk hle (I1.hok.fresh hle)
end
section
variable {X : Cx} {tg : Expr}
end
section
variable {X : Cx} {tg : Expr}
end
inductive TyN (H : Hp) : V → String → Prop where
  | non : TyN H .non "NoneType"
  | bl (x : Bool) : TyN H (.bl x) "bool"
  | int (i : Int) : TyN H (.int i) "int"
  | str (x : Str) : TyN H (.str x) "str"
  | lst {a : Addr} {xs : List V} (e : H a = some (.lst xs)) : TyN H (.ref a) "list"
  | tup {a : Addr} {xs : List V} (e : H a = some (.tup xs)) : TyN H (.ref a) "tuple"
theorem TyN.of {H : Hp} {x : V} {n : String} (K : PySem.W.Frag) (t : TyN H x n) : TyOf K H x (.type n) := by
  cases t with
  | non => exact .non
  | bl x => exact .bl x
  | int i => exact .int i
  | str x => exact .str x
  | lst e => exact .lst e
  | tup e => exact .tup e
def isiB (n T : String) : Bool := n == T || (n == "bool" && T == "int")
theorem kit_of (K : PySem.W.Frag) {n T : String} (hn : n ∈ ["NoneType", "bool", "int", "str", "list", "tuple"]) (hT : T ∈ ["bool", "int", "str", "list", "tuple"]) : PySem.W.kitOne K (.type n) (.type T) = some (isiB n T) := by
  simp only [List.mem_cons, List.not_mem_nil, or_false] at hn hT
  rcases hn with rfl | rfl | rfl | rfl | rfl | rfl <;> rcases hT with rfl | rfl | rfl | rfl | rfl <;> kernel_rfl
theorem TyN.mem {H : Hp} {x : V} {n : String} (t : TyN H x n) : n ∈ ["NoneType", "bool", "int", "str", "list", "tuple"] := by
  cases t <;> simp
section
variable {X : Cx}
def rIsi : List V → Hp → VK → Prop := fun xs H Q => ∃ x n T, xs = [x, .ty T] ∧ TyN H x n ∧ T ∈ ["bool", "int", "str", "list", "tuple"] ∧ Q (.bl (isiB n T)) H
theorem call_isi : CallR X (.builtin "isinstance") rIsi := by
  intro pins s σ H xs us Q I rv h
  obtain ⟨x, n, T, rfl, t, hT, q⟩ := h
  obtain ⟨u, v, rfl, ru, rv⟩ := vals2 rv
  cases (show v = Value.type T from rv)
  exact isinst_ok I ru (t.of X.K) (kit_of X.K t.mem hT) fun tk => ⟨.bl _, H, I.tok tk, rfl, q⟩
end
theorem CompScope.mk' {X : Cx} {scope : Scope} {N : List Str} {cap : List Nat} {k : Nat} (fs : Scope) (XN : List Str) (hfs : X.env.scope = fs) (hXN : X.N = XN)
    (h : (scope.kind = .function ∧ (∀ y ∈ scope.names, y.2 ≠ .cell) ∧ (∀ y ∈ scope.names, y.2 = .free → fs.names.lookup y.1 = some .cell ∨ fs.names.lookup y.1 = some .free) ∧ (∀ y ∈ scope.names, y.2 = .local → scope.names.lookup y.1 = some .local) ∧
      (∀ x ∈ N.take cap.length, scope.names.lookup x = some .free) ∧ cap.map (fun i => XN[i]?) = (N.take cap.length).map some ∧ N.length = cap.length + k)) : CompScope X scope N cap k := by
  subst hfs hXN
  exact ⟨h.1, h.2.1, h.2.2.1, h.2.2.2.1, h.2.2.2.2.1, h.2.2.2.2.2.1, h.2.2.2.2.2.2⟩
def IsRow (H : Hp) (r : Addr) (row : List Int) : Prop := H r = some (.lst (row.map V.int))
def IsRows (H : Hp) : List Addr → List (List Int) → Prop := Paired (IsRow H)
def IsTab (H : Hp) (a : Addr) (rs : List Addr) (T : List (List Int)) : Prop := H a = some (.lst (rs.map V.ref)) ∧ IsRows H rs T
section
variable {X : Cx} {pins : List (Addr × Obj)} {σ : St} {H : Hp} {s : Shared}
end
end L2
namespace L2
open PySem PySem.Spec PyProof.Rows
structure Callee (P : Program) (w : World) (K : PySem.W.Frag) (mg : Str → Option Value) (base : Heap) (k : Nat) (x : Str) (ps : List Str) (sp : Sp) : Prop where
  ex : ∃ (f : Addr) (fd : FuncData), FnOk P w K mg base CX0 k f fd ps sp ∧ mg x = some (.ref f) ∧ PySem.W.keepIn K (.ref f) = true ∧ Binds K fd ps [] ∧ ∃ (oc : Value) (od : Option Addr) (osl : Array (Option Value)), K.lookup f = some ⟨oc, od, .func fd, osl⟩
theorem pe_callC {X : Cx} {k : Nat} {x : Str} {ps : List Str} {sp : Sp} {p pos : Pos} {e : Expr} {es : List Expr} {t : TA} (C : Callee X.prog X.w X.K X.mg X.base k x ps sp) (hr : Room k X.A) (hg : Gl X x) (ha : PA X (e :: es) t)
    (hdb : (x == ("__debug__" : Str)) = false := by decide) (he : starEach (e :: es) X.env = (false, eval e X.env) :: starEach es X.env := by rfl) (hpl : (backTo pos (starEach es X.env)).any (·.1) = false := by rfl) :
    PE X (.Call (.Name x p) (e :: es) [] pos) (tCall sp [] E0 t) := by
  obtain ⟨f, fd, F, hm, hk, hb, _⟩ := C.ex
  exact pe_call F hr hg hm hk hb .nil pass0 ha hdb he hpl
structure DefAt (K : PySem.W.Frag) (mg : Str → Option Value) (x : Str) (st : Stmt) (ps : List Str) : Prop where
  ex : ∃ (f : Addr) (fd : FuncData), Fun K x x st f fd ∧ mg x = some (.ref f) ∧ Binds K fd ps []
theorem DefAt.ok {P : Program} {w : World} {K : PySem.W.Frag} {mg : Str → Option Value} {base : Heap} {x : Str} {st : Stmt} {N ps : List Str} {k : Nat} {sp : Sp} (D : DefAt K mg x st ps) (S : FnScope N ps (defScope st)) (len : ∀ vs H Q E, sp vs H Q E → vs.length = ps.length)
    (hbody : ∀ (f : Addr) (cdv : Value) (A : Around) (outer : List Env) (s : Shared) (H : Hp) (vs : List V) (Q : VK) (E : XK), Room k (A.deeper (envOfC x (defScope st) s.heap.objs.size f cdv)) → sp vs H Q E →
      ∃ t, PSs (cxOf CX0 P w K mg base N x (defScope st) f cdv A outer s H E).nox (defBody st) t ∧ t { nx := fun _ H' => Q .non H', rt := Q } (start N vs) H) : Callee P w K mg base (k + 1) x ps sp := by
  obtain ⟨f, fd, F, hm, hb⟩ := D.ex
  obtain ⟨oc, od, _, _, _, _, _, _, osl, _, lk, _⟩ := F.ex
  exact ⟨f, fd, F.ok S len (hbody f), hm, F.kp, hb, oc, od, osl, lk⟩
theorem def_mk {K : PySem.W.Frag} {h : Heap} {mg : Str → Option Value} (X : K.In h) (G : h.Ns mainGlobals mg) {x : Str} {st : Stmt} {ps : List Str} {f : Addr} {oc : Value} {od an : Option Addr} {osl : Array (Option Value)} {kV doc pm cdv ct : Value}
    (a : PySem.W.nsIn K mainGlobals x = some (some (.ref f))) (l : K.lookup f = some ⟨oc, od, .func (PySem.W.fnOf x x (defArgs st) (defBody st) (defScope st) .none kV doc pm an cdv ct), osl⟩)
    (c : PySem.W.codeIn K cdv x = true) (k : PySem.W.keepIn K (.ref f) = true)
    (hb : ∀ (kV doc pm : Value) (an : Option Addr) (cdv ct : Value) (us : List Value), us.length = ps.length → bindArgs (PySem.W.fnOf x x (defArgs st) (defBody st) (defScope st) .none kV doc pm an cdv ct) ⟨us, []⟩ = pure (ps.zip us)) : DefAt K mg x st ps :=
  ⟨f, _, fun_mk l c k, PySem.W.mg_of X G a, (fun_mk l c k).binds hb⟩
structure Bt (mg : Str → Option Value) : Prop where
  len : mg "len" = none
  list : mg "list" = none
  tuple : mg "tuple" = none
  int : mg "int" = none
  bool : mg "bool" = none
  str : mg "str" = none
  range : mg "range" = none
  zip : mg "zip" = none
  enumerate : mg "enumerate" = none
  reversed : mg "reversed" = none
  isinstance : mg "isinstance" = none
  min : mg "min" = none
theorem bt_len : bootBuiltins "len" = some (.builtin "len") := by decide +kernel
theorem bt_list : bootBuiltins "list" = some (.type "list") := by decide +kernel
theorem bt_tuple : bootBuiltins "tuple" = some (.type "tuple") := by decide +kernel
theorem bt_int : bootBuiltins "int" = some (.type "int") := by decide +kernel
theorem bt_bool : bootBuiltins "bool" = some (.type "bool") := by decide +kernel
theorem bt_str : bootBuiltins "str" = some (.type "str") := by decide +kernel
theorem bt_isinstance : bootBuiltins "isinstance" = some (.builtin "isinstance") := by decide +kernel
theorem bt_min : bootBuiltins "min" = some (.builtin "min") := by decide +kernel
theorem comp_it {J : It} {n : Nat} {g : TG} {te : TE} {σ : St} {cap : List Nat} {k : Nat} {H : Hp} {Q : VK} (Pv : Nat → List V → Hp → Prop) (hz : n ≤ sizeLine) (h0 : Pv 0 [] H) (hlen : ∀ i ys H, Pv i ys H → ys.length = i)
    (hgo : ∀ i ys H, i < n → Pv i ys H → J.go i H) (hstop : ∀ ys H, Pv n ys H → J.stop n H)
    (hs : ∀ i x ys H H', i < n → Pv i ys H → J.yld i H x H' → g x (capσ σ cap k) H' fun σ2 H2 => σ2.take cap.length = (capσ σ cap k).take cap.length ∧ te σ2 H2 fun y H3 => Pv (i + 1) (ys ++ [y]) H3)
    (hd : ∀ ys H, Pv n ys H → ∀ D, H D = none → Q (.ref D) (upd H D (.lst ys))) :
    CompW J cap k g te σ H Q := by
  refine ⟨fun i m ys H => m = n - i ∧ i ≤ n ∧ Pv i ys H, ⟨n, by simp, Nat.zero_le _, h0⟩, ?_⟩
  rintro i m ys H ⟨rfl, hi, p⟩
  by_cases hlt : i < n
  · refine .inr ⟨hgo i ys H hlt p, by rw [hlen i ys H p]; (first | lia | omega), fun y H3 => Pv (i + 1) (ys ++ [y]) H3, fun y H3 p' => ⟨n - (i + 1), by (first | lia | omega), rfl, hlt, p'⟩, fun x H' y => hs i x ys H H' hlt p y⟩
  · have e : i = n := by (first | lia | omega)
    subst e
    exact .inl ⟨hstop ys H p, hd ys H p⟩
theorem comp_list {K : PySem.W.Frag} {a : Addr} {xs : List V} {g : TG} {te : TE} {σ : St} {cap : List Nat} {k : Nat} {H : Hp} {Q : VK} (Pv : Nat → List V → Hp → Prop) (hz : xs.length ≤ sizeLine) (h0 : Pv 0 [] H) (hlen : ∀ i ys H, Pv i ys H → ys.length = i)
    (hl : ∀ i ys H, i ≤ xs.length → Pv i ys H → SqL K H a xs)
    (hs : ∀ i x ys H, xs[i]? = some x → Pv i ys H → g x (capσ σ cap k) H fun σ2 H2 => σ2.take cap.length = (capσ σ cap k).take cap.length ∧ te σ2 H2 fun y H3 => Pv (i + 1) (ys ++ [y]) H3)
    (hd : ∀ ys H, Pv xs.length ys H → ∀ D, H D = none → Q (.ref D) (upd H D (.lst ys))) :
    CompW (Itl K a) cap k g te σ H Q := by
  refine comp_it Pv hz h0 hlen (fun i ys H hi p => ⟨xs, xs[i], hl i ys H (Nat.le_of_lt hi) p, by simp [hi]⟩) (fun ys H p => ⟨xs, hl _ ys H (Nat.le_refl _) p, Nat.le_refl _⟩) (fun i x ys H H' hi p y => ?_) hd
  obtain ⟨e, y⟩ := y
  subst e
  exact hs i x ys _ (y xs (hl i ys _ (Nat.le_of_lt hi) p)) p
theorem iteN {c A B : Prop} [Decidable c] (hc : ¬ c) (h : B) : if decide c = true then A else B := by
  rw [decide_eq_false hc]; exact iteF h
theorem iteP {c A B : Prop} [Decidable c] (hc : c) (h : A) : if decide c = true then A else B := by
  rw [decide_eq_true hc]; exact iteT h
theorem iteNN {c A B : Prop} [Decidable c] (hc : ¬ c) (h : A) : if (!decide c) = true then A else B := by
  rw [decide_eq_false hc]; exact iteT h
theorem v_ne {i j : Int} (h : i ≠ j) : ¬ V.int i = V.int j := fun z => h (V.int.inj z)
def Stay (H H' : Hp) (F : List Addr) : Prop := ∀ b o, H b = some o → b ∉ F → H' b = some o
theorem Same.stay {H H' : Hp} (h : Same H H') (F : List Addr) : Stay H H' F := fun b o e _ => h b o e
theorem Stay.same {H H' : Hp} (h : Stay H H' []) : Same H H' := fun b o e => h b o e (by simp)
theorem Same.laid {H H1 : Hp} {p : Addr} {o : HO} (h : Same H H1) (hn : H1 p = none) : Same H (upd H1 p o) := fun b u e => by
  have q := h b u e
  rw [upd_ne (ne_of_none q hn)]; exact q
theorem same_upd {H : Hp} {p : Addr} {o : HO} (hn : H p = none) : Same H (upd H p o) := (Same.refl H).laid hn
structure TabAt (H : Hp) (a : Addr) (rs : List Addr) (T : List (List Int)) : Prop where
  tab : IsTab H a rs T
  nd : (a :: rs).Nodup
theorem IsRows.imp {H H' : Hp} : ∀ {rs : List Addr} {T : List (List Int)}, IsRows H rs T → (∀ r ∈ rs, ∀ o, H r = some o → H' r = some o) → IsRows H' rs T
  | _, _, .nil, _ => .nil
  | _, _, .cons h t, f => .cons (f _ List.mem_cons_self _ h) (IsRows.imp t fun r hr => f r (List.mem_cons_of_mem _ hr))
theorem TabAt.stay {H H' : Hp} {a : Addr} {rs : List Addr} {T : List (List Int)} {F : List Addr} (t : TabAt H a rs T) (s : Stay H H' F) (d : ∀ b ∈ a :: rs, b ∉ F) : TabAt H' a rs T :=
  ⟨⟨s _ _ t.tab.1 (d a List.mem_cons_self), t.tab.2.imp fun r hr o e => s r o e (d r (List.mem_cons_of_mem _ hr))⟩, t.nd⟩
theorem TabAt.same {H H' : Hp} {a : Addr} {rs : List Addr} {T : List (List Int)} (t : TabAt H a rs T) (s : Same H H') : TabAt H' a rs T := t.stay (s.stay []) (by simp)
theorem IsRows.length {H : Hp} {rs : List Addr} {T : List (List Int)} (h : IsRows H rs T) : rs.length = T.length := Paired.length h
theorem IsRows.get {H : Hp} : ∀ {rs : List Addr} {T : List (List Int)} {i : Nat} {row : List Int}, IsRows H rs T → T[i]? = some row → ∃ r, rs[i]? = some r ∧ IsRow H r row
  | _, _, _, _, .nil, e => by simp at e
  | _, _, 0, _, .cons h _, e => by simp at e; subst e; exact ⟨_, rfl, h⟩
  | _, _, i + 1, row, .cons _ t, e => by
    obtain ⟨r, h1, h2⟩ := IsRows.get (i := i) (row := row) t (by simpa using e)
    exact ⟨r, by simpa using h1, h2⟩
theorem IsRows.tracked {H : Hp} : ∀ {rs : List Addr} {T : List (List Int)}, IsRows H rs T → ∀ r ∈ rs, ∃ row, IsRow H r row
  | _, _, .nil, _, h => nomatch h
  | _, _, .cons h t, r, hr => by
    rcases List.mem_cons.mp hr with rfl | hr
    · exact ⟨_, h⟩
    · exact IsRows.tracked t r hr
theorem TabAt.tracked {H : Hp} {a : Addr} {rs : List Addr} {T : List (List Int)} (t : TabAt H a rs T) : ∀ b ∈ a :: rs, ∃ o, H b = some o := fun b hb => by
  rcases List.mem_cons.mp hb with rfl | hb
  · exact ⟨_, t.tab.1⟩
  · obtain ⟨row, h⟩ := t.tab.2.tracked b hb
    exact ⟨_, h⟩
theorem IsRows.set {H : Hp} : ∀ {rs : List Addr} {T : List (List Int)} {i : Nat} {r : Addr} {row : List Int}, IsRows H rs T → rs.Nodup → rs[i]? = some r → IsRows (upd H r (.lst (row.map V.int))) rs (T.set i row)
  | _, _, _, _, _, .nil, _, e => by simp at e
  | q :: rs, t :: T, 0, r, row, .cons h l, nd, e => by
    simp at e; subst e
    refine .cons upd_same (IsRows.imp l fun b hb o eo => ?_)
    rw [upd_ne (by rintro rfl; exact (List.nodup_cons.mp nd).1 hb)]; exact eo
  | q :: rs, t :: T, i + 1, r, row, .cons h l, nd, e => by
    have e' : rs[i]? = some r := by simpa using e
    have hr : r ∈ rs := List.mem_of_getElem? e'
    refine .cons ?_ (IsRows.set l (List.nodup_cons.mp nd).2 e')
    have hne : q ≠ r := by rintro rfl; exact (List.nodup_cons.mp nd).1 hr
    show upd H r _ q = _
    rw [upd_ne hne]; exact h
theorem TabAt.cell {H : Hp} {a : Addr} {rs : List Addr} {T : List (List Int)} {i : Nat} {r : Addr} {row : List Int} (t : TabAt H a rs T) (e : rs[i]? = some r) : TabAt (upd H r (.lst (row.map V.int))) a rs (T.set i row) := by
  have nd := List.nodup_cons.mp t.nd
  refine ⟨⟨?_, t.tab.2.set nd.2 e⟩, t.nd⟩
  have hne : a ≠ r := by rintro rfl; exact nd.1 (List.mem_of_getElem? e)
  rw [upd_ne hne]; exact t.tab.1
end L2
namespace X1
open PySem L2
abbrev Tb := List (List Int)
inductive Ch where
  | add (s : Bool) (i j : Nat) (q : Int) | swap (s : Bool) (i j : Nat) | turn (s : Bool) (i : Nat)
def sd (s : Bool) : Str := if s then "row" else "column"
def chV : Ch → List V
  | .add s i j q => [.str "add", .str (sd s), .int i, .int j, .int q]
  | .swap s i j => [.str "swap", .str (sd s), .int i, .int j]
  | .turn s i => [.str "turn", .str (sd s), .int i]
def Ch.side : Ch → Bool
  | .add s _ _ _ => s
  | .swap s _ _ => s
  | .turn s _ => s
def dim (s : Bool) (m n : Nat) : Nat := if s then m else n
def Ch.ok (m n : Nat) : Ch → Prop
  | .add s i j _ => i < dim s m n ∧ j < dim s m n ∧ i ≠ j
  | .swap s i j => i < dim s m n ∧ j < dim s m n ∧ i ≠ j
  | .turn s i => i < dim s m n
def Ch.small : Ch → Prop
  | .add _ _ _ q => -(2 ^ 64) < q ∧ q < 2 ^ 64
  | _ => True
def Rect (m n : Nat) (T : Tb) : Prop := T.length = m ∧ ∀ r ∈ T, r.length = n
section
variable {m n : Nat} {T U : Tb}
theorem Rect.row (h : Rect m n T) {i : Nat} (hi : i < m) : (T.getD i []).length = n := by
  have hi' : i < T.length := by rw [h.1]; exact hi
  have e : T.getD i [] = T[i] := by simp [hi']
  rw [e]
  exact h.2 _ (List.getElem_mem hi')
theorem Rect.set (h : Rect m n T) {i : Nat} {r : List Int} (hr : r.length = n) : Rect m n (T.set i r) := by
  refine ⟨by rw [List.length_set]; exact h.1, fun q hq => ?_⟩
  rcases List.mem_or_eq_of_mem_set hq with z | z
  · exact h.2 q z
  · rw [z]; exact hr
theorem Rect.map (h : Rect m n T) {f : List Int → List Int} (hf : ∀ r, r.length = n → (f r).length = n) : Rect m n (T.map f) := by
  refine ⟨by rw [List.length_map]; exact h.1, fun q hq => ?_⟩
  obtain ⟨r, hr, rfl⟩ := List.mem_map.mp hq
  exact hf r (h.2 r hr)
end
end X1
namespace L2
open PySem PySem.Spec PyProof.Rows
section
variable {X : Cx}
structure MCallee (P : Program) (w : World) (K : PySem.W.Frag) (mg : Str → Option Value) (base : Heap) (C : Addr) (k : Nat) (m : Str) (ps : List Str) (sp : Sp) : Prop where
  cl : Cls K C
  ex : ∃ (f : Addr) (fd : FuncData), FnOk P w K mg base CX0 k f fd ps sp ∧ Meth K C m f ∧ Binds K fd ps []
structure Maker (P : Program) (w : World) (K : PySem.W.Frag) (mg : Str → Option Value) (base : Heap) (C : Addr) (k : Nat) (x : Str) (ps : List Str) (sp : Sp) : Prop where
  ex : ∃ (f : Addr) (fd : FuncData), FnOk P w K mg base CX0 k f fd ps sp ∧ Mk K C f ∧ mg x = some (.ref C) ∧ Binds K fd ps []
end
end L2
namespace L2
open PySem PySem.Spec PyProof.Rows
section
variable {X : Cx}
def tDGet3 (k1 k2 k3 : Str) (n1 n2 n3 : Int) (ta : TA) : TE := fun σ H Q => ta σ H fun vs H1 => ∃ t z, vs = [.str t, .int z] ∧ Q (.int (if t = k1 then n1 else if t = k2 then n2 else if t = k3 then n3 else z)) H1
def PD (X : Cx) (o : Expr) (k1 k2 k3 : Str) (n1 n2 n3 : Int) : Prop := ∀ (s : Shared) (Q : Value → Shared → Prop), (∀ (h' : Heap) (t' : Nat) (vs : List (Str × Value)),
    h'.DictOf (strKind X.prog X.w) s.heap.objs.size vs → (∀ b u, s.heap.get? b = some u → h'.get? b = some u) →
    (∀ (t : Str) (d : Value) (z : Int), (∃ tz, d = .int z tz) → ∃ t', (valueAt vs t).getD d = Value.int (if t = k1 then n1 else if t = k2 then n2 else if t = k3 then n3 else z) t') → Q (.ref s.heap.objs.size) { s with heap := h', toks := t' }) →
  wpAny (model X.prog X.w) X.A (eval o X.env) Q X.xe s
theorem pd_lit {k1 k2 k3 : Str} {n1 n2 n3 : Int} {j1 j2 j3 i1 i2 i3 : Nat} {p1 p2 p3 q1 q2 q3 dpos : Pos} (hnd : ([k1, k2, k3] : List Str).Nodup) :
    PD X (.Dict [some (.Constant (.str k1) j1 p1), some (.Constant (.str k2) j2 p2), some (.Constant (.str k3) j3 p3)] [.Constant (.int n1) i1 q1, .Constant (.int n2) i2 q2, .Constant (.int n3) i3 q3] dpos) k1 k2 k3 n1 n2 n3 := by
  intro s Q h
  refine wpAny_Dict_walk (knd := strKind X.prog X.w) rfl rfl (List.cons_ne_nil _ _) (by show 3 ≤ 15; decide) ?_
  refine pairTrees_cons_walk (Calls.Constant_str (wpAny_Constant_int (pairTrees_cons_walk (Calls.Constant_str (wpAny_Constant_int (pairTrees_cons_walk (Calls.Constant_str (wpAny_Constant_int (pairTrees_nil_walk ?_)))))))))
  refine display_done_str rfl hnd ?_ fun h' hm hsb => ?_
  · exact ⟨_, #[], 0, Heap.get?_push_size s.heap rfl, ⟨rfl, rfl, rfl⟩, rfl, fun e he => absurd he (by simp), .nil, List.nodup_nil⟩
  · refine h h' _ _ hm (fun b u q => (hsb.2 b (Nat.ne_of_lt (Heap.lt_size q))).trans (Heap.get?_push_of_some _ q)) (fun t d z hd => ?_)
    obtain ⟨tz, rfl⟩ := hd
    by_cases h1 : t = k1
    · rw [if_pos h1]; subst h1; exact ⟨_, by simp [valueAt, strPairs]; rfl⟩
    · by_cases h2 : t = k2
      · rw [if_neg h1, if_pos h2]; subst h2; exact ⟨_, by simp [valueAt, strPairs, Ne.symm h1]; rfl⟩
      · by_cases h3 : t = k3
        · rw [if_neg h1, if_neg h2, if_pos h3]; subst h3; exact ⟨_, by simp [valueAt, strPairs, Ne.symm h1, Ne.symm h2]; rfl⟩
        · rw [if_neg h1, if_neg h2, if_neg h3]; exact ⟨_, by simp [valueAt, strPairs, Ne.symm h1, Ne.symm h2, Ne.symm h3]; rfl⟩
theorem ab_dict {ks : List (Option Expr)} {vs : List Expr} {p : Pos} {f : Str} {env : Env} {x : Sem Value} : attributeBase (.Dict ks vs p) f env x = x := rfl
theorem pe_dget3 {o : Expr} {k1 k2 k3 : Str} {n1 n2 n3 : Int} {apos cpos : Pos} {e : Expr} {es : List Expr} {t : TA} (hod : PD X o k1 k2 k3 n1 n2 n3) (ha : PA X (e :: es) t)
    (hbase : attributeBase o "get" X.env (eval o X.env) = eval o X.env := by rfl)
    (hfew : ((backTo cpos (starEach (e :: es) X.env)).all (fun x => !x.1) && (backToKw cpos (keywordEach [] X.env)).all (fun x => x.1.isSome)
      && decide ((e :: es).length + ([] : List Keyword).length + (if ([] : List Keyword).isEmpty then 0 else 1) < 30)) = true := by rfl)
    (hline : (apos.endLine == cpos.line) = true := by rfl) (hs : starEach (e :: es) X.env = (false, eval e X.env) :: starEach es X.env := by rfl) (hplain : (backTo cpos (starEach es X.env)).any (·.1) = false := by rfl) :
    PE X (.Call (.Attribute o "get" apos) (e :: es) [] cpos) (tDGet3 k1 k2 k3 n1 n2 n3 t) := by
  intro pins s σ H Q I h
  refine wpAny_Call_method_late hbase hfew hline rfl (hod s _ fun h' t' vs0 hm keep hval => ?_)
  · have hmm := hm.mapOf
    obtain ⟨o, es', ep, ho, ex, hd, hk, hp, hn⟩ := hm
    have I1 := fun t' => I.kept (h' := h') (t' := t') keep
    have haf : H s.heap.objs.size = none := I.fresh
    have hl : s.heap.objs.size ≠ X.env.locals := Nat.ne_of_gt I.lt
    have hfs : s.heap.objs.size ∉ X.fs := I.nofs (Nat.le_refl _)
    have hdc : ∀ v, o.data ≠ .cell v := fun v => by rw [hd]; intro z; cases z
    have I2 := fun t' => (I1 t').pins_of (pins' := pins ++ [(s.heap.objs.size, o)]) (fun p hp => by
      rcases List.mem_append.mp hp with z | z
      · exact (I1 t').pin p (List.mem_append_right _ z)
      · rw [List.mem_singleton] at z
        subst z
        exact ⟨ho, haf, hl, hfs, hdc⟩)
    have hbig : (s.heap.objs.size == sysModules) = false := beq_eq_false_iff_ne.mpr (Nat.ne_of_gt (modules_low I.nolimit))
    refine ⟨"dict", "dict.get", PySem.F.plainAttrs_dict, PySem.F.slot_dict_get, PySem.F.type_dict_get, hmm.typeIs, fun a q => ?_, ?_⟩
    · cases q; exact ⟨o, ho, ex.2.1⟩
    · have hA := fun t' => ha cpos (pins ++ [(s.heap.objs.size, o)]) _ σ H _ (I2 t') h
      rw [hs] at hA ⊢
      refine Calls.callWith_builtin (by show (false || (backTo cpos (starEach es X.env)).any (·.1)) = false; rw [hplain] <;> rfl) (Calls.evalArgs_plain ?_)
      refine thn (hA _) fun us s2 ⟨vs, H2, I3, r2, t, z, ev, q2⟩ => ?_
      subst ev
      cases r2 with
      | cons ra rb =>
      cases rb with
      | cons rb rc =>
      cases rc
      obtain ⟨tk, rfl⟩ := ra
      obtain ⟨tz, rfl⟩ := rb
      have hp2 := I3.pin (s.heap.objs.size, o) (List.mem_append_right _ (List.mem_append_right _ List.mem_cons_self))
      have hm2 : s2.heap.MapOf (strKind X.prog X.w) s.heap.objs.size (valueAt vs0) := Heap.DictOf.mapOf (h := s2.heap) ⟨o, es', ep, hp2.1, ex, hd, hk, hp, hn⟩
      refine call_meetsIn PySem.F.slot_dict_get hm2.typeIs PySem.F.entry_dict_get (PySem.F.args_dict_get_3 _ _ _) (meets_dict_get_default (strKind X.prog X.w) _ (strKind_is X.prog X.w t tk) hbig _) ⟨_, hm2, ?_⟩
      refine ⟨_, H2, (I3.unpinned).tok _, ?_, q2⟩
      exact hval t _ z ⟨_, rfl⟩
end
end L2
namespace L2
open PySem PySem.Spec PyProof.Rows
structure MDefAt (K : PySem.W.Frag) (C : Addr) (m qual : Str) (st : Stmt) (ps : List Str) : Prop where
  ex : ∃ (f : Addr) (fd : FuncData), Fun K m qual st f fd ∧ Meth K C m f ∧ Binds K fd ps []
theorem MDefAt.ok {P : Program} {w : World} {K : PySem.W.Frag} {mg : Str → Option Value} {base : Heap} {C : Addr} {m qual : Str} {st : Stmt} {N ps : List Str} {k : Nat} {sp : Sp} (D : MDefAt K C m qual st ps) (cl : Cls K C) (S : FnScope N ps (defScope st)) (len : ∀ vs H Q E, sp vs H Q E → vs.length = ps.length)
    (hbody : ∀ (f : Addr) (cdv : Value) (A : Around) (outer : List Env) (s : Shared) (H : Hp) (vs : List V) (Q : VK) (E : XK), Room k (A.deeper (envOfC qual (defScope st) s.heap.objs.size f cdv)) → sp vs H Q E →
      ∃ t, PSs (cxOf CX0 P w K mg base N qual (defScope st) f cdv A outer s H E).nox (defBody st) t ∧ t { nx := fun _ H' => Q .non H', rt := Q } (start N vs) H) : MCallee P w K mg base C (k + 1) m ps sp := by
  obtain ⟨f, fd, F, hm, hb⟩ := D.ex
  exact ⟨cl, f, fd, F.ok S len (hbody f), hm, hb⟩
structure MkAt (K : PySem.W.Frag) (mg : Str → Option Value) (C : Addr) (x qual : Str) (st : Stmt) (ps : List Str) : Prop where
  ex : ∃ (f : Addr) (fd : FuncData), Fun K "__init__" qual st f fd ∧ Mk K C f ∧ mg x = some (.ref C) ∧ Binds K fd ps []
theorem MkAt.ok {P : Program} {w : World} {K : PySem.W.Frag} {mg : Str → Option Value} {base : Heap} {C : Addr} {x qual : Str} {st : Stmt} {N ps : List Str} {k : Nat} {sp : Sp} (D : MkAt K mg C x qual st ps) (S : FnScope N ps (defScope st)) (len : ∀ vs H Q E, sp vs H Q E → vs.length = ps.length)
    (hbody : ∀ (f : Addr) (cdv : Value) (A : Around) (outer : List Env) (s : Shared) (H : Hp) (vs : List V) (Q : VK) (E : XK), Room k (A.deeper (envOfC qual (defScope st) s.heap.objs.size f cdv)) → sp vs H Q E →
      ∃ t, PSs (cxOf CX0 P w K mg base N qual (defScope st) f cdv A outer s H E).nox (defBody st) t ∧ t { nx := fun _ H' => Q .non H', rt := Q } (start N vs) H) : Maker P w K mg base C (k + 1) x ps sp := by
  obtain ⟨f, fd, F, hm, hg, hb⟩ := D.ex
  exact ⟨f, fd, F.ok S len (hbody f), hm, hg, hb⟩
theorem for_it {J : It} {n : Nat} {g : TG} {tb : TS} {D : Ends} {σ : St} {H : Hp} (Pv : Nat → St → Hp → Prop) (h0 : Pv 0 σ H) (hgo : ∀ i σ H, i < n → Pv i σ H → J.go i H) (hstop : ∀ σ H, Pv n σ H → J.stop n H)
    (hs : ∀ i x σ H H', i < n → Pv i σ H → J.yld i H x H' → g x σ H' fun σ2 H2 => tb { D with nx := Pv (i + 1), ct := Pv (i + 1), bk := D.nx } σ2 H2) (hd : ∀ σ H, Pv n σ H → D.nx σ H) :
    ∃ W : Nat → Nat → St → Hp → Prop, (∃ m, W 0 m σ H) ∧ ∀ i m σ H, W i m σ H →
      (J.stop i H ∧ D.nx σ H) ∨ (J.go i H ∧ ∃ N : St → Hp → Prop, (∀ σ' H', N σ' H' → ∃ m', m' < m ∧ W (i + 1) m' σ' H') ∧ ∀ x H', J.yld i H x H' → g x σ H' fun σ2 H2 => tb { D with nx := N, ct := N, bk := D.nx } σ2 H2) := by
  refine ⟨fun i m σ H => m = n - i ∧ i ≤ n ∧ Pv i σ H, ⟨n, by simp, Nat.zero_le _, h0⟩, ?_⟩
  rintro i m σ H ⟨rfl, hi, p⟩
  by_cases hlt : i < n
  · exact .inr ⟨hgo i σ H hlt p, Pv (i + 1), fun σ' H' p' => ⟨n - (i + 1), by (first | lia | omega), rfl, hlt, p'⟩, fun x H' y => hs i x σ H H' hlt p y⟩
  · have e : i = n := by (first | lia | omega)
    subst e
    exact .inl ⟨hstop σ H p, hd σ H p⟩
def tSeqX (t u : TS) : TS := fun D σ H => ∃ R : St → Hp → Prop, t { D with nx := R } σ H ∧ ∀ σ' H', R σ' H' → u D σ' H'
theorem pss_consX {X : Cx} {st : Stmt} {rest : List Stmt} {t u : TS} (h1 : PS X st t) (h2 : PSs X rest u) : PSs X (st :: rest) (tSeqX t u) := by
  intro pins s σ H D I h
  obtain ⟨R, h, hR⟩ := h
  refine pss_cons (u := fun D' σ' H' => D' = D ∧ R σ' H') h1 (fun pins s σ H D' I q => ?_) pins s σ H D I ?_
  · obtain ⟨rfl, q⟩ := q
    exact h2 pins s σ H _ I (hR _ _ q)
  · have e : (fun σ' H' => D = D ∧ R σ' H') = R := by
      funext σ' H'
      exact propext ⟨fun z => z.2, fun z => ⟨rfl, z⟩⟩
    show t { D with nx := fun σ' H' => D = D ∧ R σ' H' } σ H
    rw [e]
    exact h
end L2
namespace L2
open PySem PySem.Spec PyProof.Rows
theorem z0 {x : V} {i : Nat} (h : x = .int (0 + (i : Int))) : x = .int (i : Nat) := by rw [h, Int.zero_add]
end L2
namespace L2
open PySem PySem.Spec PyProof.Rows
section
variable {X : Cx} {elt tg iter ct : Expr} {scope : Scope} {pos : Pos} {N : List Str} {cap : List Nat} {k : Nat} {wi : TI} {g : TG} {tt : TT} {te : TE}
end
end L2
namespace L2
open PySem PySem.Spec PyProof.Rows
end L2
namespace L2
open PySem PySem.Spec PyProof.Rows
section
variable {X : Cx}
end
end L2
namespace L2
open PySem PySem.Spec PyProof.Rows
inductive Fly (l : List Env) (old : Heap) (H : Hp) (ea C : Addr) (h : Heap) : Prop
  | mk (B : Heap) (a0 : Value) (fly : Heap.FlyingW B l ea (.ref C) a0 h) (cov : ∀ b o, (∃ u, old.get? b = some u) → b ∉ frs l → h.get? b = some o → B.get? b = some o)
      (trk : ∀ b u o, H b = some u → h.get? b = some o → B.get? b = some o) (new : old.get? ea = none) (free : H ea = none) : Fly l old H ea C h
def CXE (P : Program) (w : World) : CXT := fun outer H s E e s' => ∃ (ea C : Addr) (H' : Hp), e = .ref ea ∧ s'.os = s.os ∧ AllBare s'.gens ∧ Un (frs outer) [] H H' s.heap s'.heap ∧ HOk P w H' s'.heap ∧ Fly outer s.heap H' ea C s'.heap ∧ E (.ref C) none H'
theorem HOk.tracked {P : Program} {w : World} {H : Hp} {h h' : Heap} (x : HOk P w H h) (k : ∀ b u o, H b = some u → h.get? b = some o → h'.get? b = some o) : HOk P w H h' := fun a o e =>
  (x a o e).stay (fun b u hb q => by
    rcases hb with rfl | hb
    · exact k _ _ _ e q
    · exact k _ _ _ hb q) (fun _ q => q) fun _ _ q => q
theorem ObjOk.somed {P : Program} {w : World} {H : Hp} {h : Heap} {a : Addr} {o : HO} (x : ObjOk P w H h a o) : ∃ u, h.get? a = some u := by
  cases o with
  | lst xs => obtain ⟨_, _, _, _, e⟩ := x; exact ⟨_, e⟩
  | tup xs => obtain ⟨_, _, _, _, e, _⟩ := x; exact ⟨_, e⟩
  | dK kvs => obtain ⟨_, _, _, _, o, _, _, e, _⟩ := x; exact ⟨_, e⟩
  | dT kvs => obtain ⟨_, _, _, _, o, _, _, e, _⟩ := x; exact ⟨_, e⟩
  | set S n => obtain ⟨o, _, _, _, e, _⟩ := x; exact ⟨_, e⟩
  | ins C dx fs => obtain ⟨_, _, _, e, _⟩ := x; exact ⟨_, e⟩
  | own y => obtain ⟨_, e⟩ := x; exact ⟨_, e⟩
  | xd fs => obtain ⟨_, ⟨_, _, _, e, _⟩, _⟩ := x; exact ⟨_, e⟩
  | rng lo hi => obtain ⟨_, _, _, e⟩ := x; exact ⟨_, e⟩
  | frz ob u => obtain ⟨e, _⟩ := x; exact ⟨_, e⟩
  | tbl ps => exact ⟨_, (show h.get? a = some _ from x)⟩
  | met f y => exact ⟨_, (show h.get? a = some _ from x)⟩
  | ext φ => obtain ⟨_, ⟨_, e⟩, _⟩ := x; exact ⟨_, e⟩
theorem mem_frs {env : Env} {l : List Env} {L b : Addr} (hf : env.frame = some L) (hb : b ∈ frs (env :: l)) : b = L ∨ b ∈ frs l := by
  unfold frs at hb ⊢
  rw [List.filterMap_cons, hf] at hb
  exact List.mem_cons.mp hb
theorem frs_mem {env : Env} {l : List Env} {L b : Addr} (hf : env.frame = some L) (hb : b ∈ frs l) : b ∈ frs (env :: l) := by
  unfold frs at hb ⊢
  rw [List.filterMap_cons, hf]
  exact List.mem_cons_of_mem _ hb
structure Own (X : Cx) : Prop where
  stk : X.stack = X.env :: X.outer
  fr : X.env.frame = some X.env.locals
  ex : X.ex = []
section
variable {X : Cx} {pins : List (Addr × Obj)} {σ : St} {H : Hp} {s : Shared}
theorem Inv.frames (I : Inv X pins σ H s) (O : Own X) : X.A.frames = some (X.env :: X.outer) := by rw [← O.stk]; exact I.ok.frames
theorem Inv.old (I : Inv X pins σ H s) (O : Own X) {b : Addr} {o : Obj} (e : X.s₀.heap.get? b = some o) (hb : b ∉ X.fs) : b ∉ frs X.stack := fun z => by
  rw [O.stk] at z
  rcases mem_frs O.fr z with z | z
  · have := I.ok.above
    rw [← z] at this
    exact absurd (Nat.lt_of_lt_of_le (Heap.lt_size e) this) (Nat.lt_irrefl _)
  · exact hb z
theorem Inv.there (I : Inv X pins σ H s) (O : Own X) {b : Addr} {o : Obj} (e : X.s₀.heap.get? b = some o) : ∃ o', s.heap.get? b = some o' := I.base.there b o e (by rw [O.ex]; simp)
theorem first_leaves {E' : Value → Shared → Prop} {P : Program} {w : World} (I : Inv X pins σ H s) (O : Own X) (hP : X.prog = P) (hw : X.w = w) {h' : Heap} {e C : Addr} {vs : List Value} {E : XK} (hx : Heap.MadeExcOf s.heap h' e (.ref C) vs) (hE : E (.ref C) none H) :
    wpAny (model P w) X.A (leaving X.env (.ref e)) (fun _ s'' => CXE P w X.outer X.H₀ X.s₀ E (.ref e) s'') E' { s with heap := h' } := by
  subst hP hw
  have hB : ∀ b o, s.heap.get? b = some o → b ∉ frs X.stack → (PySem.W.hideAll s.heap (frs X.stack)).get? b = some o := fun b o q n => PySem.W.hideAll_get _ q n
  have hff : s.heap.FunFrames (PySem.W.hideAll s.heap (frs X.stack)) (X.env :: X.outer) := by
    rw [← O.stk]
    exact PySem.W.funFrames_hide I.stack fun env he a ha => List.mem_filterMap.mpr ⟨env, he, ha⟩
  refine wpAny_leaves_madeW (s := { s with heap := h' }) (I.frames O) O.fr (fun b o q => PySem.W.of_hideAll _ q) hff hx fun h2 t fl _ _ up => ?_
  have keep : ∀ b o, s.heap.get? b = some o → b ∉ frs X.stack → h2.get? b = some o := fun b o q n => fl.1 _ _ (hB b o q n)
  have hfr : ∀ b o, s.heap.get? b = some o → b ∈ frs X.stack → ∃ sl, h2.get? b = some { o with slots := sl } := fun b o q hb => by
    obtain ⟨_, o', ho', hd⟩ := I.stack.mem hb
    rw [q] at ho'; cases ho'
    exact up b o (hx.keeps _ _ q) hd
  have tk : ∀ b u o, H b = some u → s.heap.get? b = some o → (PySem.W.hideAll s.heap (frs X.stack)).get? b = some o := fun b u o hu q => hB b o q fun z => by rw [I.stkFree b z] at hu; cases hu
  refine ⟨e, C, H, rfl, I.os, I.bare, ⟨fun b o q n hb _ => ?_, fun b o q n hb _ => ?_, fun b o q n _ => I.base.free b o q n (by rw [O.ex]; simp), fun b o q _ => ?_, I.base.tups, I.base.frzs, I.base.tbls⟩, I.hok.tracked fun b u o hu q => fl.1 _ _ (tk b u o hu q), ⟨_, _, fl, fun b o hb hn q => ?_, fun b u o hu q => ?_, ?_, ?_⟩, hE⟩
  · exact keep b o (I.base.keep b o q n hb (by rw [O.ex]; simp)) (I.old O q hb)
  · obtain ⟨sl, e1⟩ := I.base.slot b o q n hb (by rw [O.ex]; simp)
    obtain ⟨sl', e2⟩ := hfr b _ e1 (by rw [O.stk]; exact frs_mem O.fr hb)
    exact ⟨sl', e2⟩
  · obtain ⟨o', e1⟩ := I.there O q
    by_cases hb : b ∈ frs X.stack
    · obtain ⟨sl, e2⟩ := hfr b _ e1 hb
      exact ⟨_, e2⟩
    · exact ⟨o', keep b o' e1 hb⟩
  · obtain ⟨u, hu⟩ := hb
    obtain ⟨o', e1⟩ := I.there O hu
    have e2 := hB b o' e1 (I.old O hu hn)
    have e3 := fl.1 _ _ e2
    have q' : h2.get? b = some o := q
    rw [q'] at e3; cases e3
    exact e2
  · obtain ⟨o', e1⟩ := (I.hok b u hu).somed
    have e2 := tk b u o' hu e1
    have e3 := fl.1 _ _ e2
    have q' : h2.get? b = some o := q
    rw [q'] at e3; cases e3
    exact e2
  · cases q : X.s₀.heap.get? e with
    | none => rfl
    | some o =>
      obtain ⟨o', e1⟩ := I.there O q
      rw [hx.new] at e1; cases e1
  · cases q : H e with
    | none => rfl
    | some u =>
      obtain ⟨o', e1⟩ := (I.hok e u q).somed
      rw [hx.new] at e1; cases e1
theorem on_leaves {E' : Value → Shared → Prop} {P : Program} {w : World} (I : Inv X pins σ H s) (O : Own X) (hP : X.prog = P) (hw : X.w = w) {e : Value} {s' : Shared} {E : XK} (hc : CXE P w X.stack H s E e s') :
    wpAny (model P w) X.A (leaving X.env e) (fun _ s'' => CXE P w X.outer X.H₀ X.s₀ E e s'') E' s' := by
  obtain ⟨ea, C, H', rfl, os, bare, un, hok, ⟨B, a0, fly, cov, trk, new, free⟩, hE⟩ := hc
  have nx : ∀ b : Addr, b ∉ X.ex := fun b => by rw [O.ex]; simp
  rw [O.stk] at fly
  refine wpAny_leaves_onW (I.frames O) O.fr fly fun h2 fl up => ?_
  have keep : ∀ b o, (∃ u, s.heap.get? b = some u) → s'.heap.get? b = some o → b ∉ frs X.stack → h2.get? b = some o := fun b o hu q n => fl.1 _ _ (cov b o hu n q)
  have hfr : ∀ b o, s'.heap.get? b = some o → b ∈ frs X.stack → ∃ sl, h2.get? b = some { o with slots := sl } := fun b o q hb => by
    rw [O.stk] at hb
    obtain ⟨_, o', ho', hd⟩ := fly.2.2.1.mem hb
    rw [q] at ho'; cases ho'
    exact up b o q hd
  have sub : ∀ b, b ∈ X.fs → b ∈ frs X.stack := fun b hb => by rw [O.stk]; exact frs_mem O.fr hb
  refine ⟨ea, C, H', rfl, os.trans I.os, bare, ⟨fun b o q n hb _ => ?_, fun b o q n hb _ => ?_, fun b o q n _ => ?_, fun b o q _ => ?_, fun b xs q => un.tups b xs (I.base.tups b xs q), fun b o xs q => un.frzs b o xs (I.base.frzs b o xs q), fun b ps q => ?_⟩, hok.tracked fun b u o hu q => fl.1 _ _ (trk b u o hu q), ⟨B, a0, fl, fun b o hb hn q => ?_, fun b u o hu q => ?_, ?_, free⟩, hE⟩
  · have e1 := I.base.keep b o q n hb (nx b)
    exact keep b o ⟨_, e1⟩ (un.keep b o e1 (I.base.free b o q n (nx b)) (I.old O q hb) (by simp)) (I.old O q hb)
  · obtain ⟨sl, e1⟩ := I.base.slot b o q n hb (nx b)
    obtain ⟨sl', e2⟩ := un.any e1 (I.base.free b o q n (nx b)) (by simp)
    obtain ⟨sl2, e3⟩ := hfr b _ e2 (sub b hb)
    exact ⟨sl2, e3⟩
  · obtain ⟨o', e1⟩ := I.there O q
    exact un.free b o' e1 (I.base.free b o q n (nx b)) (by simp)
  · obtain ⟨o', e1⟩ := I.there O q
    obtain ⟨o2, e2⟩ := un.there b o' e1 (by simp)
    by_cases hb : b ∈ frs X.stack
    · obtain ⟨sl, e3⟩ := hfr b _ e2 hb
      exact ⟨_, e3⟩
    · exact ⟨o2, keep b o2 ⟨_, e1⟩ e2 hb⟩
  · obtain ⟨m1, e1⟩ := I.base.tbls b ps q
    obtain ⟨m2, e2⟩ := un.tbls b _ e1
    exact ⟨m1 ++ m2, by rw [e2, Array.append_assoc]⟩
  · obtain ⟨u, hu⟩ := hb
    obtain ⟨o', e1⟩ := I.there O hu
    obtain ⟨o2, e2⟩ := un.there b o' e1 (by simp)
    have e3 := cov b o2 ⟨_, e1⟩ (I.old O hu hn) e2
    have e4 := fl.1 _ _ e3
    have q' : h2.get? b = some o := q
    rw [q'] at e4; cases e4
    exact e3
  · obtain ⟨o', e1⟩ := (hok b u hu).somed
    have e2 := trk b u o' hu e1
    have e3 := fl.1 _ _ e2
    have q' : h2.get? b = some o := q
    rw [q'] at e3; cases e3
    exact e2
  · cases q : X.s₀.heap.get? ea with
    | none => rfl
    | some o =>
      obtain ⟨o', e1⟩ := I.there O q
      rw [new] at e1; cases e1
end
theorem own_cx {CX : CXT} {P : Program} {w : World} {K : PySem.W.Frag} {mg : Str → Option Value} {base : Heap} {N : List Str} {qual : Str} {scope : Scope} {f : Addr} {cd : Value} {A : Around} {outer : List Env} {s : Shared} {H : Hp} {E : XK} : Own (cxOf CX P w K mg base N qual scope f cd A outer s H E) := ⟨rfl, rfl, rfl⟩
structure RaiseTo (X : Cx) (E : XK) : Prop where
  made : ∀ (pins : List (Addr × Obj)) (σ : St) (H : Hp) (s : Shared) (h' : Heap) (e C : Addr) (vs : List Value), Inv X pins σ H s → Heap.MadeExcOf s.heap h' e (.ref C) vs → E (.ref C) none H → X.xe (.ref e) { s with heap := h' }
  pass : Passes (CXE X.prog X.w) X E
  own : PassesOwn (model X.prog X.w) X.A X.env X.xe
theorem raise_cx {P : Program} {w : World} {K : PySem.W.Frag} {mg : Str → Option Value} {base : Heap} {N : List Str} {qual : Str} {scope : Scope} {f : Addr} {cd : Value} {A : Around} {outer : List Env} {s : Shared} {H : Hp} {E : XK} :
    RaiseTo (cxOf (CXE P w) P w K mg base N qual scope f cd A outer s H E) E :=
  ⟨fun pins σ H s h' e C vs I hx hE => first_leaves I own_cx rfl rfl hx hE, fun pins σ H s e s' I hc => on_leaves I own_cx rfl rfl hc, PassesOwn.leaving⟩
end L2
namespace L2
open PySem PySem.Spec PyProof.Rows
abbrev Cx.caught (X : Cx) (e : Value) : Cx := { X with A := X.A.mark (some e), calm := false }
section
variable {X : Cx} {pins : List (Addr × Obj)} {σ : St} {H : Hp} {s : Shared}
theorem Cx.Ok.caught (ok : X.Ok) (e : Value) : (X.caught e).Ok :=
  ⟨ok.mod, ok.kind, ok.glob, ok.blt, ok.above, ok.inj, ok.has, ok.cab, (fun z => nomatch z), ok.frames, ok.stk, ok.exf, ok.bs, ok.bsz, ok.noex, ok.exfs, ok.funs, ok.frf⟩
theorem Inv.caught (I : Inv X pins σ H s) (e : Value) : Inv (X.caught e) pins σ H s := ⟨I.ok.caught e, I.os, I.bare, I.base, I.loc, I.cell, I.free, I.freeC, I.pin, I.hok, I.len⟩
theorem Inv.uncaught {e : Value} (I : Inv (X.caught e) pins σ H s) (ok : X.Ok) : Inv X pins σ H s := ⟨ok, I.os, I.bare, I.base, I.loc, I.cell, I.free, I.freeC, I.pin, I.hok, I.len⟩
end
def ExcO (ea C : Addr) (h : Heap) : Prop := ∃ o, h.get? ea = some o ∧ o.cls = .ref C ∧ ∃ vs, o.data = .fields vs
theorem ExcO.stable {ea C : Addr} (h1 h2 : Heap) (x : ExcO ea C h1) (k : ∀ o, h1.get? ea = some o → h2.get? ea = some o) : ExcO ea C h2 := by
  obtain ⟨o, e, c, d⟩ := x
  exact ⟨o, k o e, c, d⟩
structure Land (X : Cx) (pins : List (Addr × Obj)) (σ : St) (H : Hp) (s : Shared) (H' : Hp) (ea C : Addr) (s3 : Shared) : Prop where
  at0 : Inv X pins σ H s
  os : s3.os = s.os
  bare : AllBare s3.gens
  un : Un (frs X.stack) [] H H' s.heap s3.heap
  hok : HOk X.prog X.w H' s3.heap
  fly : Fly X.stack s.heap H' ea C s3.heap
section
variable {X : Cx} {pins : List (Addr × Obj)} {σ : St} {H H' : Hp} {s s3 : Shared} {ea C : Addr}
theorem Land.inv (L : Land X pins σ H s H' ea C s3) : Inv X pins σ H' s3 := L.at0.call' (ch := []) L.os L.un L.hok L.bare fun b z => absurd z (by simp)
theorem Land.ty {M : Model} (L : Land X pins σ H s H' ea C s3) : PySem.W.Looks M s3.heap (typeOf (.ref ea)) (.ref C) := by
  obtain ⟨B, a0, fly, _⟩ := L.fly
  obtain ⟨ob, e, c⟩ := fly.there
  exact c ▸ (PySem.W.Looks.ld e).andThen .now
theorem Land.step (L : Land X pins σ H s H' ea C s3) {B : Heap} {a0 : Value} {h2 : Heap} (fly : Heap.FlyingW B X.stack ea (.ref C) a0 s3.heap) (cov : ∀ b o, (∃ u, s.heap.get? b = some u) → b ∉ frs X.stack → s3.heap.get? b = some o → B.get? b = some o)
    (trk : ∀ b u o, H' b = some u → s3.heap.get? b = some o → B.get? b = some o) (new : s.heap.get? ea = none) (free : H' ea = none) (fl : Heap.FlyingW B X.stack ea (.ref C) a0 h2) (up : s3.heap.UpToSlots h2) : Land X pins σ H s H' ea C { s3 with heap := h2 } := by
  have keep : ∀ b o, (∃ u, s.heap.get? b = some u) → s3.heap.get? b = some o → b ∉ frs X.stack → h2.get? b = some o := fun b o hu q n => fl.1 _ _ (cov b o hu n q)
  have hfr : ∀ b o, s3.heap.get? b = some o → b ∈ frs X.stack → ∃ sl, h2.get? b = some { o with slots := sl } := fun b o q hb => by
    obtain ⟨_, o', ho', hd⟩ := fly.2.2.1.mem hb
    rw [q] at ho'; cases ho'
    exact up b o q hd
  refine ⟨L.at0, L.os, L.bare, ⟨fun b o q n hb hx => ?_, fun b o q n hb hx => ?_, L.un.free, fun b o q hx => ?_, L.un.tups, L.un.frzs, L.un.tbls⟩, L.hok.tracked fun b u o hu q => fl.1 _ _ (trk b u o hu q), ⟨B, a0, fl, fun b o hb hn q => ?_, fun b u o hu q => ?_, new, free⟩⟩
  · exact keep b o ⟨_, q⟩ (L.un.keep b o q n hb hx) hb
  · obtain ⟨sl, e1⟩ := L.un.slot b o q n hb hx
    obtain ⟨sl', e2⟩ := hfr b _ e1 hb
    exact ⟨sl', e2⟩
  · obtain ⟨o', e1⟩ := L.un.there b o q hx
    by_cases hb : b ∈ frs X.stack
    · obtain ⟨sl, e2⟩ := hfr b _ e1 hb
      exact ⟨_, e2⟩
    · exact ⟨o', keep b o' ⟨_, q⟩ e1 hb⟩
  · obtain ⟨u, hu⟩ := hb
    obtain ⟨o', e1⟩ := L.un.there b u hu (by simp)
    have e2 := cov b o' ⟨_, hu⟩ hn e1
    have e3 := fl.1 _ _ e2
    have q' : h2.get? b = some o := q
    rw [q'] at e3; cases e3
    exact e2
  · obtain ⟨o', e1⟩ := (L.hok b u hu).somed
    have e2 := trk b u o' hu e1
    have e3 := fl.1 _ _ e2
    have q' : h2.get? b = some o := q
    rw [q'] at e3; cases e3
    exact e2
theorem lands {E' : Value → Shared → Prop} {Q : Shared → Prop} (O : Own X) (L : Land X pins σ H s H' ea C s3) (k : ∀ s4, Land X pins σ H s H' ea C s4 → Q s4) :
    wpAny (model X.prog X.w) X.A (noteFrame (.ref ea) X.env) (fun _ s₂ => wpAny (model X.prog X.w) X.A (setFlight (.ref ea) none) (fun _ s₃ => Q s₃) E' s₂) E' s3 := by
  obtain ⟨B, a0, fly, cov, trk, new, free⟩ := L.fly
  refine wpAny_looks_onW (L.at0.frames O) O.fr (O.stk ▸ fly) fun h1 held up1 => ?_
  refine wpAny_landsW held fun h2 fl up2 => k _ (L.step fly cov trk new free (O.stk ▸ fl) (up1.trans up2))
theorem again {M : Model} {A : Around} {E' : Value → Shared → Prop} {Q : Unit → Shared → Prop} (L : Land X pins σ H s H' ea C s3) (k : ∀ s4, Land X pins σ H s H' ea C s4 → Q () s4) :
    wpAny M A (setFlight (.ref ea) none) Q E' s3 := by
  obtain ⟨B, a0, fly, cov, trk, new, free⟩ := L.fly
  exact lands_againW fly fun h2 fl up => k _ (L.step fly cov trk new free fl up)
theorem Land.track (L : Land X pins σ H s H' ea C s3) : Inv X pins σ (upd H' ea (.ext (ExcO ea C))) s3 ∧ H' ea = none := by
  obtain ⟨B, a0, fly, cov, trk, new, free⟩ := L.fly
  have ne : ∀ b u, H' b = some u → b ≠ ea := fun b u e z => by rw [z, free] at e; cases e
  have ne0 : ∀ b o, s.heap.get? b = some o → b ≠ ea := fun b o e z => by rw [z, new] at e; cases e
  refine ⟨L.at0.call' (ch := []) L.os ⟨L.un.keep, L.un.slot, fun b o q n hx => ?_, L.un.there, fun b xs q => ?_, fun b o u q => ?_, fun b ps q => ?_⟩ (fun b u q => ?_) L.bare fun b z => absurd z (by simp), free⟩
  · rw [upd_ne (ne0 b o q)]; exact L.un.free b o q n hx
  · have := L.un.tups b xs q
    rw [upd_ne (ne b _ this)]; exact this
  · have := L.un.frzs b o u q
    rw [upd_ne (ne b _ this)]; exact this
  · obtain ⟨more, e⟩ := L.un.tbls b ps q
    exact ⟨more, by rw [upd_ne (ne b _ e)]; exact e⟩
  · by_cases hb : b = ea
    · subst hb
      rw [upd_same] at q; cases q
      obtain ⟨oe, vs, he, hc, hd, _⟩ := fly.first
      exact ⟨⟨oe, he, hc, vs, hd⟩, ⟨oe, he⟩, fun h1 h2 p k => p.stable h1 h2 k⟩
    · rw [upd_ne hb] at q
      exact (L.hok b u q).stay (fun _ _ _ z => z) (fun c z => by rw [upd_ne (ne c _ z)]; exact z) fun c xs z => by rw [upd_ne (ne c _ z)]; exact z
end
abbrev TH := Addr → Ends → St → Hp → Prop
def PH (X : Cx) (hs : List ExceptHandler) (t : TH) : Prop :=
  ∀ (pins : List (Addr × Obj)) (σ : St) (H : Hp) (s : Shared) (H' : Hp) (ea C : Addr) (s3 : Shared) (D : Ends) (E : Value → Shared → Prop), Land X pins σ H s H' ea C s3 → t C D σ H' →
    wpAny (model X.prog X.w) X.A (handleBy (.ref ea) X.env hs) (SP X pins D) E s3
def Ends.fgt (D : Ends) (i : Nat) : Ends := { nx := fun σ H => D.nx (σ.set i none) H, rt := D.rt, bk := fun σ H => D.bk (σ.set i none) H, ct := fun σ H => D.ct (σ.set i none) H }
def tHN (K : PySem.W.Frag) (Cx : Addr) (i : Nat) (ts : TS) (tr : TH) : TH := fun C D σ H => ∃ b, PySem.W.exmOne K (.ref C) (.ref Cx) = some b ∧ if b = true then ∀ ea, H ea = none → ts (D.fgt i) (σ.set i (some (.ref ea))) (upd H ea (.ext (ExcO ea C))) else tr C D σ H
section
variable {X : Cx}
theorem ph_nil : PH X [] (fun _ _ _ _ => False) := fun _ _ _ _ _ _ _ _ _ _ _ h => h.elim
theorem SP.uncaught {pins : List (Addr × Obj)} {D : Ends} {e : Value} {f : Flow} {s' : Shared} (h : SP (X.caught e).nox pins D f s') (ok : X.Ok) : SP X pins D f s' := by
  cases f with
  | next => obtain ⟨σ', H', I, q⟩ := h; exact ⟨σ', H', I.unwish.uncaught ok, q⟩
  | brk => obtain ⟨σ', H', I, q⟩ := h; exact ⟨σ', H', I.unwish.uncaught ok, q⟩
  | cont => obtain ⟨σ', H', I, q⟩ := h; exact ⟨σ', H', I.unwish.uncaught ok, q⟩
  | ret u => obtain ⟨v, σ', H', I, r, q⟩ := h; exact ⟨v, σ', H', I.unwish.uncaught ok, r, q⟩
theorem Inv.forget {pins : List (Addr × Obj)} {σ : St} {H : Hp} {s : Shared} {i : Nat} {n : Str} {m : Str → Option Value} {v : Option Value} {h' : Heap} {t' : Nat} (I : Inv X pins σ H s) (hN : X.N.Nodup) (hi : X.N[i]? = some n)
    (hl : ∀ (i : Nat) (x : Str) (v : V), X.N[i]? = some x → σ[i]? = some (some v) → Vis X.env.scope x → ∃ u, RelV v u ∧ Look X.env s.heap m x u)
    (hn' : h'.Ns X.env.locals (fun x => if x = n then v else m x)) (hs : Heap.SameBut X.env.locals s.heap h') : Inv X pins (σ.set i none) H { s with heap := h', toks := t' } := by
  obtain ⟨m0, ⟨oL, _, _, hoL, _⟩, _⟩ := id I.loc
  have hiσ : i < σ.length := by rw [I.len]; exact (List.getElem?_eq_some_iff.mp hi).1
  have nb : ∀ b o, X.s₀.heap.get? b = some o → b ≠ X.env.locals := fun b o e => Nat.ne_of_lt (Nat.lt_of_lt_of_le (Heap.lt_size e) I.ok.above)
  refine ⟨I.ok, I.os, I.bare, ⟨fun b o e n hb hx => ?_, fun b o e n hb hx => ?_, I.base.free, fun b o e hx => ?_, I.base.tups, I.base.frzs, I.base.tbls⟩, ⟨_, hn', fun j y v' e1 e2 e3 => ?_⟩, fun y c e => ?_, I.free, I.freeC, fun p hp => ?_, fun b ob e => ?_, by simpa using I.len⟩
  · exact (hs.2 b (nb b o e)).trans (I.base.keep b o e n hb hx)
  · obtain ⟨sl, e1⟩ := I.base.slot b o e n hb hx
    exact ⟨sl, (hs.2 b (nb b o e)).trans e1⟩
  · obtain ⟨o', e1⟩ := I.base.there b o e hx
    exact ⟨o', (hs.2 b (nb b o e)).trans e1⟩
  · by_cases hj : j = i
    · subst hj
      rw [List.getElem?_set_self hiσ] at e2
      cases e2
    · rw [List.getElem?_set_ne (Ne.symm hj)] at e2
      obtain ⟨u', r', q⟩ := hl j y v' e1 e2 e3
      have hy : y ≠ n := fun e => hj (nodup_ix hN e1 (e ▸ hi))
      refine ⟨u', r', ?_⟩
      rcases q with ⟨k, e⟩ | ⟨k, c, e, z⟩
      · exact .inl ⟨k, by simp [hy, e]⟩
      · exact .inr ⟨k, c, e, z.sameBut hs (I.cne y c e)⟩
  · obtain ⟨w', z⟩ := I.cell y c e
    exact ⟨w', z.sameBut hs (I.cne y c e)⟩
  · obtain ⟨e, n, ne, nf, d⟩ := I.pin p hp
    exact ⟨(hs.2 p.1 ne).trans e, n, ne, nf, d⟩
  · refine (I.hok b ob e).stay (fun c w' hc q => (hs.2 c ?_).trans q) (fun _ q => q) fun _ _ q => q
    rintro rfl
    have hfree := I.free
    rcases hc with hc | hc
    · rw [← hc, hfree] at e; cases e
    · rw [hfree] at hc; cases hc
theorem ph_consN {x n : Str} {Cx : Addr} {i : Nat} {np pos : Pos} {b0 : Stmt} {suite : List Stmt} {rest : List ExceptHandler} {ts : TS} {tr : TH} (hg : Gl X x) (hm : X.mg x = some (.ref Cx)) (hN : X.N.Nodup) (hi : X.N[i]? = some n) (hlo : X.env.scope.names.lookup n = some .local)
    (hs : ∀ e, PSs (X.caught e).nox (b0 :: suite) ts) (hr : PH X rest tr) (hd : (x == ("__debug__" : Str)) = false := by decide) : PH X (.ExceptHandler (some (.Name x np)) (some n) (b0 :: suite) pos :: rest) (tHN X.K Cx i ts tr) := by
  intro pins σ H s H' ea C s3 D E L h
  obtain ⟨b, hb, h⟩ := h
  refine wpAny_handleBy_cons (codeAny_handlers_test (ld_glob (L.inv.caught (.ref ea)) hg hm ?_ hd)) (by intro q; cases q)
  refine PySem.W.exm_one L.inv.kIn L.ty hb _ _ _ _ (fun _ _ q => q) ?_
  cases b with
  | false => exact hr pins σ H s H' ea C s3 D E L h
  | true =>
    refine codeAny_handlers_suite_as (again L fun s4 L4 => ?_)
    obtain ⟨I4, hf⟩ := L4.track
    refine store_ok (X := X.caught (.ref ea)) (v := .ref ea) (I4.caught _) hN hi (.inl hlo) rfl (fun s5 I5 => ?_) (.inr hlo)
    refine wpAny_mono (hs (.ref ea) pins s5 _ _ (D.fgt i) (I5.wish _) (h ea hf)) (fun f s6 q => ?_) fun _ _ z => False.elim z
    have ok := L.at0.ok
    have go : ∀ {σ' : St} {H2 : Hp}, Inv X pins σ' H2 s6 → (∀ s7, Inv X pins (σ'.set i none) H2 s7 → SP X pins D f s7) → wpAny (model X.prog X.w) X.A (do bindName X.env n .none; unbindBehindTheSuite X.env n pos) (fun _ s₅ => SP X pins D f s₅) E s6 := fun {σ' H2} I6 k => by
      obtain ⟨m, hn, hl⟩ := id I6.loc
      exact wpAny_nameGoes_keeps hlo hn (by rw [ok.kind]; rfl) fun h' v hn' hsb => k _ (I6.forget hN hi hl hn' hsb)
    cases f with
    | next => obtain ⟨σ', H2, I6, q⟩ := q; exact go (I6.unwish.uncaught ok) fun s7 I7 => ⟨_, H2, I7, q⟩
    | brk => obtain ⟨σ', H2, I6, q⟩ := q; exact go (I6.unwish.uncaught ok) fun s7 I7 => ⟨_, H2, I7, q⟩
    | cont => obtain ⟨σ', H2, I6, q⟩ := q; exact go (I6.unwish.uncaught ok) fun s7 I7 => ⟨_, H2, I7, q⟩
    | ret u => obtain ⟨v, σ', H2, I6, r, q⟩ := q; exact go (I6.unwish.uncaught ok) fun s7 I7 => ⟨v, _, H2, I7, r, q⟩
end
end L2
namespace L2
open PySem PySem.Spec PyProof.Rows
structure CalleeX (P : Program) (w : World) (K : PySem.W.Frag) (mg : Str → Option Value) (base : Heap) (k : Nat) (x : Str) (ps : List Str) (sp : Sp) : Prop where
  ex : ∃ (f : Addr) (fd : FuncData), FnOk P w K mg base (CXE P w) k f fd ps sp ∧ mg x = some (.ref f) ∧ PySem.W.keepIn K (.ref f) = true ∧ Binds K fd ps []
theorem DefAt.okX {P : Program} {w : World} {K : PySem.W.Frag} {mg : Str → Option Value} {base : Heap} {x : Str} {st : Stmt} {N ps : List Str} {k : Nat} {sp : Sp} (D : DefAt K mg x st ps) (S : FnScope N ps (defScope st)) (len : ∀ vs H Q E, sp vs H Q E → vs.length = ps.length)
    (hbody : ∀ (f : Addr) (cdv : Value) (A : Around) (outer : List Env) (s : Shared) (H : Hp) (vs : List V) (Q : VK) (E : XK), Room k (A.deeper (envOfC x (defScope st) s.heap.objs.size f cdv)) → sp vs H Q E →
      ∃ t, PSs (cxOf (CXE P w) P w K mg base N x (defScope st) f cdv A outer s H E) (defBody st) t ∧ t { nx := fun _ H' => Q .non H', rt := Q } (start N vs) H) : CalleeX P w K mg base (k + 1) x ps sp := by
  obtain ⟨f, fd, F, hm, hb⟩ := D.ex
  obtain ⟨oc, od, kV, doc, pm, an, cdv, ct, osl, rfl, lk, hcd⟩ := F.ex
  exact ⟨f, _, fn_of lk hcd S len fun A outer s H vs Q E hr hsp => hbody f cdv A outer s H vs Q E hr hsp, hm, F.kp, hb⟩
section
variable {X : Cx} {k : Nat} {x : Str} {ps : List Str} {sp : Sp} {p pos : Pos} {e : Expr} {es : List Expr} {t : TA} {E : XK}
theorem pe_callX (R : RaiseTo X E) (C : CalleeX X.prog X.w X.K X.mg X.base k x ps sp) (hr : Room k X.A) (hg : Gl X x) (ha : PA X (e :: es) t)
    (hdb : (x == ("__debug__" : Str)) = false := by decide) (he : starEach (e :: es) X.env = (false, eval e X.env) :: starEach es X.env := by rfl) (hpl : (backTo pos (starEach es X.env)).any (·.1) = false := by rfl) :
    PE X (.Call (.Name x p) (e :: es) [] pos) (tCall sp [] E t) := by
  obtain ⟨f, fd, F, hm, hk, hb⟩ := C.ex
  exact pe_call F hr hg hm hk hb .nil R.pass ha hdb he hpl
theorem call_at {pins : List (Addr × Obj)} {s : Shared} {σ : St} {H : Hp} {Q : VK} (C : CalleeX X.prog X.w X.K X.mg X.base k x ps sp) (hr : Room k X.A) (hg : Gl X x) (ha : PA X (e :: es) t)
    (hx : ∀ H1 s1 v s', Inv X pins σ H1 s1 → CXE X.prog X.w X.stack H1 s1 E v s' → X.xe v s') (I : Inv X pins σ H s) (h : tCall sp [] E t σ H Q)
    (hdb : (x == ("__debug__" : Str)) = false) (he : starEach (e :: es) X.env = (false, eval e X.env) :: starEach es X.env) (hpl : (backTo pos (starEach es X.env)).any (·.1) = false) :
    wpAny (model X.prog X.w) X.A (eval (.Call (.Name x p) (e :: es) [] pos) X.env) (EP X pins σ Q) X.xe s := by
  obtain ⟨f, fd, F, hm, hk, hb⟩ := C.ex
  refine wpAny_Call_Name_kw (ld_glob I hg hm (PySem.W.callWith_K (h₀ := X.base) I.ok.mod.kin hk (thn (ha pos pins s σ H _ I h) fun us s1 ⟨vs, H1, I1, r, q⟩ => ⟨I1.kIn, ?_⟩) he hpl) hdb)
  have q : sp (vs ++ []) H1 Q E := q
  rw [List.append_nil] at q
  have hl : us.length = ps.length := by rw [← r.length]; exact F.len _ _ _ _ q
  have hb1 := hb s1 us I1.kIn (by rw [List.append_nil]; exact hl)
  rw [List.append_nil] at hb1
  refine wpAny_call (codeAny_mono (F.run X.A X.stack s1 H1 ⟨us, []⟩ us vs Q E hr I1.env0 hb1 r q) fun r s' hq => ?_)
  cases r with
  | error v => exact hx H1 s1 v s' I1 hq
  | ok fl =>
    cases fl with
    | ret u => exact I1.after hq
    | next => exact False.elim hq
    | brk => exact False.elim hq
    | cont => exact False.elim hq
def tTry (sp : Sp) (t : TA) (nx : V → Ends → St → Hp → Prop) (th : TH) : TS := fun D σ H => t σ H fun vs H1 => sp vs H1 (fun v H2 => nx v D σ H2) (fun c _ H2 => ∃ C, c = .ref C ∧ th C D σ H2)
theorem land_of (O : Own X) {pins : List (Addr × Obj)} {σ : St} {H1 : Hp} {s1 : Shared} {v : Value} {s' : Shared} {D : Ends} {hs : List ExceptHandler} {th : TH} {E0 : Value → Shared → Prop} (hh : PH X hs th)
    (I : Inv X pins σ H1 s1) (hc : CXE X.prog X.w X.stack H1 s1 (fun c _ H2 => ∃ C, c = .ref C ∧ th C D σ H2) v s') :
    wpAny (model X.prog X.w) X.A (noteFrame v X.env) (fun _ s₂ => wpAny (model X.prog X.w) X.A (setFlight v none) (fun _ s₃ => wpAny (model X.prog X.w) X.A (handleBy v X.env hs) (SP X pins D) E0 s₃) E0 s₂) E0 s' := by
  obtain ⟨ea, C, H', rfl, os, bare, un, hok, fl, C', hC, ht⟩ := hc
  cases hC
  exact lands O ⟨I, os, bare, un, hok, fl⟩ fun s4 L4 => hh pins σ H1 s1 H' ea C s4 D E0 L4 ht
theorem ps_tryE {h0 : ExceptHandler} {hs : List ExceptHandler} {th : TH} {pos1 pos2 : Pos} (O : Own X) (C : CalleeX X.prog X.w X.K X.mg X.base k x ps sp) (hr : Room k X.A) (hg : Gl X x) (ha : ∀ E, PA (X.wish E) (e :: es) t) (hh : PH X (h0 :: hs) th)
    (hsw : swapsWith (.Call (.Name x p) (e :: es) [] pos) none pos1.line X.env = pure false := by rfl)
    (hdb : (x == ("__debug__" : Str)) = false := by decide) (he : starEach (e :: es) X.env = (false, eval e X.env) :: starEach es X.env := by rfl) (hpl : (backTo pos (starEach es X.env)).any (·.1) = false := by rfl) :
    PS X (.Try [.Expr (.Call (.Name x p) (e :: es) [] pos) pos1] (h0 :: hs) [] [] pos2) (tTry sp t (fun _ D σ H => D.nx σ H) th) := by
  intro pins s σ H D I h
  let E2 : Value → Shared → Prop := fun v s₁ => wpAny (model X.prog X.w) X.A (noteFrame v X.env) (fun _ s₂ => wpAny (model X.prog X.w) X.A (setFlight v none) (fun _ s₃ => wpAny (model X.prog X.w) X.A (handleBy v X.env (h0 :: hs)) (SP X pins D) X.xe s₃) X.xe s₂) X.xe s₁
  refine wpAny_Try_except ?_
  refine wpAny_execs_cons ?_
  have hd : tCall sp [] (fun c _ H2 => ∃ C, c = .ref C ∧ th C D σ H2) t σ H (fun _ H2 => D.nx σ H2) := by
    show t σ H fun vs H1 => sp (vs ++ []) H1 _ _
    have e : (fun vs H1 => sp (vs ++ []) H1 (fun _ H2 => D.nx σ H2) (fun c _ H2 => ∃ C, c = .ref C ∧ th C D σ H2)) = (fun vs H1 => sp vs H1 (fun _ H2 => D.nx σ H2) (fun c _ H2 => ∃ C, c = .ref C ∧ th C D σ H2)) := by
      funext vs H1; rw [List.append_nil]
    rw [e]; exact h
  refine wpAny_Expr_any (thn (call_at (X := X.wish E2) (p := p) C hr hg (ha E2) (fun H1 s1 v s' I1 hc => land_of O hh I1.unwish hc) (I.wish _) hd hdb he hpl) fun v s1 ⟨y, H1, I1, r1, q1⟩ => ?_) I.quiet hsw
  exact wpAny_execs_nil (wpAny_execs_nil ⟨σ, H1, I1.unwish, q1⟩)
end
abbrev veB : List Value := [.type "ValueError", .type "Exception", .type "BaseException", .type "object"]
theorem exc_obj {K : PySem.W.Frag} {C : Addr} (q : PySem.W.excIn K C veB "ValueError.__new__" = true) :
    ∃ bm N nm qn bs hd sn sub ab col dd k0 k1 k2 k3 k5, ∀ h : Heap, K.In h → ∃ mN, h.get? C = some (excClassObj nm qn C N bs bm hd sn sub ab col dd k0 k1 k2 k3 k5 "ValueError.__new__") ∧ h.Ns N mN ∧ mN "__init__" = none ∧ OwnTail h veB bm := by
  unfold PySem.W.excIn at q
  split at q
  case h_2 => cases q
  rename_i dd cd sl ho
  split at q
  case h_2 => cases q
  rename_i C' bm k0 k1 k2 k3 n k5 hm hs
  simp only [Bool.and_eq_true, beq_iff_eq, Bool.not_eq_true'] at q
  obtain ⟨⟨⟨⟨⟨rfl, rfl⟩, hdel⟩, ht⟩, hok⟩, hni⟩ := q
  obtain ⟨nm, bs, mro, ns, qn, hd, sn, sub, ab, col, del⟩ := cd
  have hm' : mro = .ref C' :: bm := hm
  have hdel' : del = false := hdel
  subst hm' hdel'
  obtain ⟨l⟩ := sl
  have hl : l = [k0, k1, k2, k3, some (.builtin "ValueError.__new__"), k5] := hs
  subst hl
  exact ⟨bm, ns, nm, qn, bs, hd, sn, sub, ab, col, dd, k0, k1, k2, k3, k5, fun h X => ⟨_, X _ _ ho, .of_isNs (PySem.W.isNs_of_in X hok), PySem.W.nsMap_none_of_in X hok hni, PySem.W.tail_of_in X ht⟩⟩
def tRaise (C : Addr) (E : XK) (ta : TA) : TS := fun _ σ H => ta σ H fun vs H1 => vs.length ≤ 1000 ∧ E (.ref C) none H1
theorem ps_raise {X : Cx} {E : XK} {x : Str} {C : Addr} {np cpos pos : Pos} {e : Expr} {es : List Expr} {ta : TA} (R : RaiseTo X E) (hc : X.calm = true) (hg : Gl X x) (hm : X.mg x = some (.ref C)) (hq : PySem.W.excIn X.K C veB "ValueError.__new__" = true) (ha : PA X (e :: es) ta)
    (hd : (x == ("__debug__" : Str)) = false := by decide) (he : starEach (e :: es) X.env = (false, eval e X.env) :: starEach es X.env := by rfl) (hpl : (backTo cpos (starEach es X.env)).any (·.1) = false := by rfl) :
    PS X (.Raise (some (.Call (.Name x np) (e :: es) [] cpos)) none pos) (tRaise C E ta) := by
  intro pins s σ H D I h
  obtain ⟨bm, N, nm, qn, bs, hdct, sn, sub, ab, col, dd, k0, k1, k2, k3, k5, obj⟩ := exc_obj hq
  obtain ⟨mN, _, _, hni, TL⟩ := obj s.heap I.kIn
  have hp : (backTo cpos (starEach (e :: es) X.env)).any (·.1) = false := by rw [he]; show (false || (backTo cpos (starEach es X.env)).any (·.1)) = false; rw [hpl]; rfl
  have keepNs : ∀ h', (∀ b o, X.base.get? b = some o → h'.get? b = some o) → ∃ mN, h'.get? C = some (excClassObj nm qn C N bs bm hdct sn sub ab col dd k0 k1 k2 k3 k5 "ValueError.__new__") ∧ h'.Ns N mN ∧ mN "__init__" = none ∧ OwnTail h' veB bm := fun h' k => obj h' (I.ok.mod.kin.keeps k)
  obtain ⟨mB, hB⟩ := obj X.base I.ok.mod.kin
  refine wpAny_Raise_call_subT (env := X.env) (mN := mB) (nm := nm) (q := qn) (N := N) (bs := bs) (hdct := hdct) (sn := sn) (sub := sub) (ab := ab) (col := col) (dd := dd) (k0 := k0) (k1 := k1) (k2 := k2) (k3 := k3) (k5 := k5) PySem.F.excBase_ValueError (TL.hasType rfl) (I.ok.hd hc) hp hB.2.2.1 (ld_glob I hg hm ⟨rfl, ?_⟩ hd)
  have := ha cpos pins s σ H _ I h
  rw [he] at this ⊢
  refine Calls.evalArgs_plain (wpAny_mono this (fun us s2 ⟨vs, H2, I2, rv, hl, hE⟩ => ?_) fun _ _ y => y)
  refine ⟨rfl, ?_, I2.bk _ _ hB.1, hB.2.1.keeps I2.bk, hB.2.2.2.keeps I2.bk, fun h' ea hx => R.made pins σ H2 s2 h' ea C us I2 hx hE⟩
  show us.length ≤ sizeLine
  rw [← rv.length]
  exact Nat.le_trans hl (by decide)
theorem pe_gref {X : Cx} {x : Str} {C : Addr} {pos : Pos} (hg : Gl X x) (hm : X.mg x = some (.ref C)) (hd : (x == ("__debug__" : Str)) = false := by decide) : PE X (.Name x pos) (tC (.ref C)) := fun pins s σ H Q I h => ld_glob I hg hm ⟨.ref C, H, I, rfl, h⟩ hd
end L2
namespace L2
open PySem PySem.Spec PyProof.Rows
structure KEx (K : PySem.W.Frag) (C : Addr) : Prop where
  cl : (PySem.W.clsIn K C).isSome = true
  ga : PySem.W.findIn K (.ref C) "__getattribute__" = some (some (.builtin "BaseException.__getattribute__"))
  gn : PySem.W.findIn K (.ref C) "__getattr__" = some none
  mb : PySem.W.mroIn K C (.type "BaseException") = some true
  a : PySem.W.findIn K (.ref C) "__class__" = some (some (.builtin "object.__class__"))
  n : PySem.W.specialIn K (.builtin "object.__class__") "__get__" = some (some (.builtin "getset_descriptor.__get__"))
  tk : PySem.W.takesIn K (.builtin "object.__class__") = some true
  m : PySem.W.mroIn K C (.type "object") = some true
section
variable {prog : Program} {w : World} {A : Around} {E : Value → Shared → Prop} {s : Shared} {K : PySem.W.Frag} {x C : Addr}
open PySem.W Builtin Builtin.ObjectAttr Builtin.Getset_descriptor
theorem exc_find {M : Model} {h : Heap} (k : KEx K C) (X : K.In h) : Looks M h (find (.ref x) (.ref C) "__class__") (.bind (.builtin "getset_descriptor.__get__") (.builtin "object.__class__")) :=
  (looks_findIn (M := M) X k.a).andThen ((show Looks M h (getOf (some (.builtin "object.__class__"))) _ from looks_specialIn X k.n).andThen
    ((show Looks M h (dataDescriptor? (some (.builtin "object.__class__")) (some (.builtin "getset_descriptor.__get__"))) (some (.builtin "getset_descriptor.__get__", .builtin "object.__class__")) from (looks_takesIn (M := M) X k.tk).andThen .now).andThen (Looks.tag .now)))
theorem exc_get {R : Result → Shared → Prop} {tp : Value} (k : KEx K C) (X : K.In s.heap) (L0 : Looks (model prog w) s.heap (typeOf (.ref x)) (.ref C)) (h : R (.ok (.ret (.ref C))) s) :
    codeAny (model prog w) A (.call (.builtin "getset_descriptor.__get__") ⟨[.builtin "object.__class__", .ref x, tp], []⟩) R s := by
  obtain ⟨hp, gs, dr, tt, oo⟩ := s
  have LM := looks_mroIn (M := model prog w) X k.m
  refine codeAny_call_builtin KF.slot_gs.plain KF.entry_gs <| KF.slot_gs.check _ _ _ _ _ _ _ _ KF.type_class (KF.args_gs _ _ _) ?_
  unfold «getset_descriptor.__get__» descrGet; rw [dga_obj]; refine wpAny_bind (wpAny_pure ?_)
  unfold descrGetter descrCheckInstance descrNameAndClass isInstance; simp only [KF.owner_class]; (repeat lk)
  refine ⟨Code.quiet_builtin _ (by decide +kernel), codeAny_builtin KF.entry_class ?_⟩
  unfold «object.__class__» shownTypeOf; (repeat lk); exact h
theorem exc_entry {Q : Fin → Shared → Prop} {tk : Tok} (k : KEx K C) (X : K.In s.heap) (L0 : ∀ M, Looks M s.heap (typeOf (.ref x)) (.ref C)) (h : Q (.done (.ret (.ref C))) s) :
    wpAny (model prog w) A («object.__getattribute__» ⟨[.ref x, .str "__class__" tk], []⟩) Q E s := by
  have N0 := exc_get (prog := prog) (w := w) (A := A) (tp := .ref C) (R := fun r s' => match r with | .ok (.ret v) => Q (.done (.ret v)) s' | _ => False) k X (L0 _) h
  obtain ⟨hp, gs, dr, tt, oo⟩ := s
  have M0 := L0 (model prog w)
  have M3 := exc_find (M := model prog w) (x := x) k X
  unfold «object.__getattribute__»
  refine wpAny_bind (wpAny_pure (wpAny_bind (wpAny_pure (wpAny_bind (M0.at (wpAny_bind (M3.at ?_)))))))
  show wpAny _ _ (holding [Value.builtin "object.__class__"] (call (.builtin "getset_descriptor.__get__") [.builtin "object.__class__", .ref x, .ref C]) >>= ret) _ _ _
  refine wpAny_bind (wpAny_holding (wpAny_call (codeAny_mono N0 fun r s' q => ?_)))
  cases r with
  | error e => exact q.elim
  | ok f => cases f with
    | ret v => exact wpAny_pure q
    | next => exact q.elim
    | brk => exact q.elim
    | cont => exact q.elim
theorem exc_check {M : Model} {nameV : Value} {Q : Unit → Shared → Prop} (k : KEx K C) (X : K.In s.heap) (L0 : ∀ M, Looks M s.heap (typeOf (.ref x)) (.ref C)) (h : Q () s) :
    wpAny M A (checkBuiltinCall "BaseException.__getattribute__" ⟨[.ref x, nameV], []⟩) Q E s := by
  have e1 : builtinKind "BaseException.__getattribute__" = some .slot := by decide +kernel
  have e2 : splitId "BaseException.__getattribute__" = some ("BaseException", "__getattribute__") := by decide +kernel
  have L1 : Looks M s.heap (isInstance (.ref x) (.type "BaseException")) true := (L0 M).andThen (looks_mroIn X k.mb)
  have ha := F.args_bexc_ga (.ref x) nameV
  simp only [checkBuiltinCall, e1, e2]
  refine wpAny_bind (L1.here ?_)
  rw [if_neg (by decide)]
  unfold argsOk at ha
  revert ha
  cases Manifest.signature? "BaseException.__getattribute__" with
  | none => exact fun _ => wpAny_pure h
  | some sig => exact fun ha => wpAny_of_eq ha h
theorem exc_cls {Q : Option Value → Shared → Prop} (k : KEx K C) (X : K.In s.heap) (L0 : ∀ M, Looks M s.heap (typeOf (.ref x)) (.ref C)) (h : Q (some (.ref C)) { s with toks := s.toks + 1 }) :
    wpAny (model prog w) A (getAttr? (.ref x) "__class__") Q E s := by
  have N0 : ∀ (A : Around) (tk : Tok) (R : Result → Shared → Prop) (s' : Shared), s'.heap = s.heap → R (.ok (.ret (.ref C))) s' → codeAny (model prog w) A (.call (.builtin "BaseException.__getattribute__") ⟨[.ref x, .str "__class__" tk], []⟩) R s' := fun A tk R s' e q =>
    codeAny_call_builtin F.attr_ValueError.ga.plain F.entry_bexc_ga (exc_check k (e ▸ X) (fun M => e ▸ L0 M) (exc_entry k (e ▸ X) (fun M => e ▸ L0 M) q))
  obtain ⟨hp, gs, dr, tt, oo⟩ := s
  have M0 := L0 (model prog w)
  have M1 := looks_findIn (M := model prog w) X k.ga
  have M2 := looks_findIn (M := model prog w) X k.gn
  have B0 := F.attr_ValueError.ga.bind (.ref x)
  unfold getAttr? getAttrBy? getAttrBy; refine wpAny_bind (wpAny_mkText (wpAny_bind (wpAny_attempt (wpAny_holding (wpAny_bind (M0.at (wpAny_bind (M1.at ?_))))))))
  show wpAny _ _ (getAttrByItsOwn (.ref x) (.str "__class__" tt) (.ref C) (.builtin "BaseException.__getattribute__") false false) _ _ _
  unfold getAttrByItsOwn hookBefore
  refine wpAny_bind (M2.at (wpAny_bind (wpAny_attempt (wpAny_holding ?_))))
  show wpAny _ _ (boundAndCalled (.builtin "BaseException.__getattribute__") (.ref x) (.str "__class__" tt)) _ _ _
  unfold boundAndCalled
  rw [B0]
  refine wpAny_bind (wpAny_pure (wpAny_call (N0 A tt _ _ rfl ?_)))
  exact handed_on rfl (wpAny_pure h)
theorem kitx_exc (k : KEx K C) : KitX K (.ref x) (.ref C) (ExcO x C) where
  ty := fun M h _ ⟨o, e, c, _⟩ => c ▸ (Looks.ld e).andThen .now
  it := fun M h X _ => by
    obtain ⟨cd, hc⟩ := Option.isSome_iff_exists.mp k.cl
    unfold clsIn at hc
    split at hc
    case h_2 => cases hc
    rename_i ho
    intro A' Q' E' s' kk q; unfold isType loadHead; exact wpAny_bind (wpAny_loadPart (kk _ _ (X _ _ ho)) (wpAny_pure q))
  ne := fun h tp dd its n sl X htp => by
    obtain ⟨cd, hc⟩ := Option.isSome_iff_exists.mp k.cl
    cases q : (Value.ref C == Value.ref tp) with
    | false => rfl
    | true =>
      have e : C = tp := Value.ref.inj (beq_iff_eq.mp q)
      subst e
      unfold clsIn at hc
      split at hc
      case h_2 => cases hc
      rename_i ho
      have z := (X _ _ ho).symm.trans htp
      cases z
  ca := fun X p h => by
    obtain ⟨o, e, c, _⟩ := p
    exact exc_cls k X (fun M => c ▸ (Looks.ld e).andThen .now) h
end
section
variable {X : Cx}
theorem call_isE : CallR X (.builtin "isinstance") (fun xs H Q => ∃ ea C c b, xs = [.ref ea, .ref c] ∧ PySem.W.kitOne X.K (.ref C) (.ref c) = some b ∧ H ea = some (.ext (ExcO ea C)) ∧ KEx X.K C ∧ Q (.bl b) H) := by
  intro pins s σ H xs us Q I rv h
  obtain ⟨ea, C, c, b, rfl, hk, he, k, q⟩ := h
  obtain ⟨u, v, rfl, ru, rw'⟩ := vals2 rv
  cases (show u = Value.ref ea from ru)
  cases (show v = Value.ref c from rw')
  obtain ⟨p, _⟩ := (show ObjOk X.prog X.w H s.heap ea (.ext (ExcO ea C)) from I.hok ea _ he)
  exact PySem.W.kia_one (kitx_exc k) I.kIn p hk (fun z => nomatch z) fun tk => ⟨.bl _, H, I.tok tk, rfl, q⟩
theorem call_isB : CallR X (.builtin "isinstance") (fun xs H Q => ∃ ea C T b, xs = [.ref ea, .ty T] ∧ PySem.W.kitOne X.K (.ref C) (.type T) = some b ∧ H ea = some (.ext (ExcO ea C)) ∧ KEx X.K C ∧ Q (.bl b) H) := by
  intro pins s σ H xs us Q I rv h
  obtain ⟨ea, C, T, b, rfl, hk, he, k, q⟩ := h
  obtain ⟨u, v, rfl, ru, rw'⟩ := vals2 rv
  cases (show u = Value.ref ea from ru)
  cases (show v = Value.type T from rw')
  obtain ⟨p, _⟩ := (show ObjOk X.prog X.w H s.heap ea (.ext (ExcO ea C)) from I.hok ea _ he)
  exact PySem.W.kia_one (kitx_exc k) I.kIn p hk (fun z => nomatch z) fun tk => ⟨.bl _, H, I.tok tk, rfl, q⟩
end
structure ECls (K : PySem.W.Frag) (mg : Str → Option Value) (x : Str) (C : Addr) : Prop where
  m : mg x = some (.ref C)
  q : PySem.W.excIn K C veB "ValueError.__new__" = true
  k : KEx K C
theorem bt_ValueError : bootBuiltins "ValueError" = some (.type "ValueError") := by decide +kernel
theorem call_isEK {X : Cx} {K : PySem.W.Frag} (h : X.K = K) : CallR X (.builtin "isinstance") (fun xs H Q => ∃ ea C c b, xs = [.ref ea, .ref c] ∧ PySem.W.kitOne K (.ref C) (.ref c) = some b ∧ H ea = some (.ext (ExcO ea C)) ∧ KEx K C ∧ Q (.bl b) H) := h ▸ call_isE
theorem call_isBK {X : Cx} {K : PySem.W.Frag} (h : X.K = K) : CallR X (.builtin "isinstance") (fun xs H Q => ∃ ea C T b, xs = [.ref ea, .ty T] ∧ PySem.W.kitOne K (.ref C) (.type T) = some b ∧ H ea = some (.ext (ExcO ea C)) ∧ KEx K C ∧ Q (.bl b) H) := h ▸ call_isB
end L2
namespace L2
open PySem PySem.Spec PyProof.Rows
theorem rel_bls : ∀ {bs : List Bool} {us : List Value}, Vals (bs.map V.bl) us → us = bs.map Value.bool
  | [], _, .nil => rfl
  | b :: bs, _, .cons h t => by
    rw [rel_bls t]
    cases (show _ = Value.bool b from h)
    rfl
end L2
namespace L2
open PySem PySem.Spec PyProof.Rows
theorem vals_strs : ∀ l : List (Str × Tok), Vals ((l.map (·.1)).map V.str) (strValues l)
  | [] => .nil
  | p :: l => .cons ⟨p.2, rfl⟩ (vals_strs l)
theorem strs_vals : ∀ {ts : List Str} {us : List Value}, Vals (ts.map V.str) us → ∃ l : List (Str × Tok), us = strValues l ∧ l.map (·.1) = ts
  | [], _, .nil => ⟨[], rfl, rfl⟩
  | t :: ts, _, .cons h r => by
    obtain ⟨l, rfl, e⟩ := strs_vals r
    obtain ⟨k, rfl⟩ := h
    exact ⟨(t, k) :: l, rfl, by rw [List.map_cons, e]⟩
section
variable {X : Cx}
def rSplit : V → List V → Hp → VK → Prop := fun x vs H Q => ∃ z y : Str, x = .str z ∧ vs = [.str y] ∧ (y.length == 0) = false ∧ z.length ≤ sizeLine ∧ (Txt.split z y).length ≤ sizeLine ∧ ∀ l, H l = none → Q (.ref l) (upd H l (.lst ((Txt.split z y).map V.str)))
theorem mt_split : MtM X "str.split" rSplit := by
  intro pins s σ H x vs v us Q I rx rv h
  obtain ⟨z, y, rfl, rfl, hy, hz, hn, q⟩ := h
  obtain ⟨t, rfl⟩ := rx
  obtain ⟨u, rfl, k, rfl⟩ := rv.one
  have itself : Txt.split z y = [z] → EP X pins σ Q (.ref s.heap.objs.size) { s with heap := s.heap.push { cls := .type "list", data := .seq [Value.str z t].toArray } } := fun e => by
    rw [e] at q
    exact ⟨.ref s.heap.objs.size, _, I.lnew (ys := [.str z]) (its := [Value.str z t]) (t' := s.toks) (.cons ⟨t, rfl⟩ .nil) (by show 1 ≤ sizeLine; decide), rfl, q _ I.fresh⟩
  cases h1 : (decide (z.length < y.length) || decide (Builtin.Str.strKind z < Builtin.Str.strKind y)) with
  | true => exact call_meets F.slot_str_split (typeIs_str _ _ _) F.entry_str_split (F.args_str_split_2 _ _) (meets_str_split_cannot_occur z y t k h1) (itself (by unfold Txt.split; rw [if_pos h1]))
  | false =>
    cases hf : (Builtin.Str.occurrences z y 0 z.length (z.length + 1)).isEmpty with
    | true => exact call_meets F.slot_str_split (typeIs_str _ _ _) F.entry_str_split (F.args_str_split_2 _ _) (meets_str_split_not_found z y t k h1 hy hf) (itself (by unfold Txt.split; rw [if_neg (by rw [h1]; decide), if_pos hf]))
    | false =>
      have e : Txt.split z y = Builtin.Str.partsBetween z (Builtin.Str.occurrences z y 0 z.length (z.length + 1)) y.length := by unfold Txt.split; rw [if_neg (by rw [h1]; decide), if_neg (by rw [hf]; decide)]
      rw [e] at hn q
      refine call_meets F.slot_str_split (typeIs_str _ _ _) F.entry_str_split (F.args_str_split_2 _ _) (meets_str_split_sep z y t k h1 hy hf hz hn) ?_
      refine ⟨.ref s.heap.objs.size, _, I.lnew (ys := (Builtin.Str.partsBetween z (Builtin.Str.occurrences z y 0 z.length (z.length + 1)) y.length).map V.str) (its := strsFrom s.toks (Builtin.Str.partsBetween z (Builtin.Str.occurrences z y 0 z.length (z.length + 1)) y.length)) ?_ (by rw [List.length_map]; exact hn), rfl, q _ I.fresh⟩
      rw [strsFrom_eq]
      have := vals_strs (numbered s.toks (Builtin.Str.partsBetween z (Builtin.Str.occurrences z y 0 z.length (z.length + 1)) y.length))
      rw [numbered_texts] at this
      exact this
def rJoin (K : PySem.W.Frag) : V → List V → Hp → VK → Prop := fun x vs H Q => ∃ (z : Str) (p : Addr) (ts : List Str), x = .str z ∧ vs = [.ref p] ∧ SqL K H p (ts.map V.str) ∧ JoinOk z ts = true ∧ Q (.str (Txt.join z ts)) H
theorem mt_join : MtM X "str.join" (rJoin X.K) := by
  intro pins s σ H x vs v us Q I rx rv h
  obtain ⟨z, p, ts, rfl, rfl, hp, hok, q⟩ := h
  obtain ⟨t, rfl⟩ := rx
  obtain ⟨u, rfl, ru⟩ := rv.one
  cases (show u = Value.ref p from ru)
  obtain ⟨its, r, pl, hz⟩ := I.list hp
  obtain ⟨l, rfl, e⟩ := strs_vals r
  exact SC.join pl.isList e hok fun t' k => ⟨.str _, H, I.tok _, ⟨t', rfl⟩, q⟩
def rStarts : V → List V → Hp → VK → Prop := fun x vs H Q => ∃ z y : Str, x = .str z ∧ vs = [.str y] ∧ Q (.bl (Txt.startswith z y)) H
theorem mt_startswith : MtM X "str.startswith" rStarts := by
  intro pins s σ H x vs v us Q I rx rv h
  obtain ⟨z, y, rfl, rfl, q⟩ := h
  obtain ⟨t, rfl⟩ := rx
  obtain ⟨u, rfl, k, rfl⟩ := rv.one
  exact SC.startswith ⟨.bl _, H, I, rfl, q⟩
def rZfill : V → List V → Hp → VK → Prop := fun x vs H Q => ∃ (z : Str) (i : Int), x = .str z ∧ vs = [.int i] ∧ PadOk i = true ∧ Q (.str (Txt.zfill z i)) H
theorem mt_zfill : MtM X "str.zfill" rZfill := by
  intro pins s σ H x vs v us Q I rx rv h
  obtain ⟨z, i, rfl, rfl, hp, q⟩ := h
  obtain ⟨t, rfl⟩ := rx
  obtain ⟨u, rfl, k, rfl⟩ := rv.one
  exact SC.zfill hp fun t' k => ⟨.str _, H, I.tok _, ⟨t', rfl⟩, q⟩
def rSlS : V → Option Int → Option Int → Hp → VK → Prop := fun x lo hi H Q => ∃ z : Str, x = .str z ∧ z.length ≤ sizeLine ∧ Q (.str (Txt.slice z lo hi)) H
theorem part_val {v : Value} {o : Option Int} (h : IsPart v o) : ∃ l : Option (Int × Tok), v = partValue l ∧ l.map (·.1) = o := by
  cases h with
  | none => exact ⟨none, rfl, rfl⟩
  | int i t => exact ⟨some (i, t), rfl, rfl⟩
theorem sl_str : SlR X rSlS := by
  intro pins s σ H x v vl vu lo hi sl Q I rx hs pl pu h
  obtain ⟨z, rfl, hz, q⟩ := h
  obtain ⟨t, rfl⟩ := rx
  obtain ⟨l, rfl, rfl⟩ := part_val pl
  obtain ⟨u, rfl, rfl⟩ := part_val pu
  refine ⟨"str", _, F.slot_str_getitem.lookup, typeIs_str _ _ _, wpAny_getItem_str_slice (l := l) (u := u) (st := none) hs rfl ?_⟩
  exact post_val_or_str ⟨Nat.le_trans (Txt.slice_le z _ _) hz, fun t' k => ⟨.str _, H, I.tok _, ⟨t', rfl⟩, q⟩⟩
theorem call_int_text : CallR X (.type "int") (fun xs H Q => ∃ (z : Str) (n : Int), xs = [.str z] ∧ PySem.intText? z = some n ∧ z.length ≤ 640 ∧ Q (.int n) H) := by
  intro pins s σ H xs us Q I r h
  obtain ⟨z, n, rfl, hn, hz, q⟩ := h
  obtain ⟨u, rfl, t, rfl⟩ := vals1 r
  exact PySem.W.KIN.call_text hn hz ⟨.int n, H, I.tok _, ⟨_, rfl⟩, q⟩
theorem bt_all : bootBuiltins "all" = some (.builtin "all") := by decide +kernel
theorem call_all (hc : X.calm = true) : CallR X (.builtin "all") (fun xs H Q => ∃ (a : Addr) (bs : List Bool), xs = [.ref a] ∧ H a = some (.lst (bs.map V.bl)) ∧ Q (.bl (bs.all id)) H) := by
  intro pins s σ H xs us Q I r h
  obtain ⟨a, bs, rfl, ha, q⟩ := h
  obtain ⟨u, rfl, ru⟩ := vals1 r
  cases (show u = Value.ref a from ru)
  obtain ⟨z, its, n, rv, hl, e⟩ := I.lstM ha
  have hi := rel_bls rv
  subst hi
  have hL : s.heap.IsList a (bs.map Value.bool).toArray := ⟨_, e, rfl, n, rfl⟩
  refine call_all_walk (wpAny_pyIter_list hL ?_)
  refine ⟨s.heap.objs.size, [s.heap.objs.size, a], [s.heap.objs.size], _, _, _, fun i => (bs[i]?).getD true, rfl, Walks.list (A := X.A.in1) (I.ok.hd hc) _ a (Nat.ne_of_lt (Heap.lt_size e)) (bs.map Value.bool).toArray, ⟨⟨_, Heap.get?_push_size _ rfl, rfl, rfl⟩, hL.push _⟩, ?_, ?_⟩
  · intro i v s' Q' E' hP hQ
    have hP' : (bs.map Value.bool)[i]? = some v := by simpa using hP
    rw [List.getElem?_map] at hP'
    cases eb : bs[i]? with
    | none => rw [eb] at hP'; cases hP'
    | some b =>
      rw [eb] at hP'
      cases hP'
      simp only [eb, Option.getD_some] at hQ
      exact wpAny_truthy_bool hQ
  · intro h' tk hk
    have ea : ((List.range (bs.map Value.bool).toArray.size).all fun i => (bs[i]?).getD true) = bs.all id := by
      rw [List.size_toArray, List.length_map, Bool.eq_iff_iff, List.all_eq_true, List.all_eq_true]
      constructor
      · intro g b hb
        obtain ⟨i, hi, rfl⟩ := List.getElem_of_mem hb
        have := g i (List.mem_range.mpr hi)
        rw [List.getElem?_eq_getElem hi] at this
        exact this
      · intro g i hi
        have hi' := List.mem_range.mp hi
        rw [List.getElem?_eq_getElem hi']
        exact g _ (List.getElem_mem hi')
    rw [ea]
    exact ⟨.bl _, H, I.kept fun b o eo => hk b o (fun hm => by rw [List.mem_singleton.mp hm] at eo; exact Nat.lt_irrefl _ (Heap.lt_size eo)) (Heap.get?_push_of_some _ eo), rfl, q⟩
theorem call_minL (hc : X.calm = true) : CallR X (.builtin "min") (fun xs H Q => ∃ (a : Addr) (ns : List Int), xs = [.ref a] ∧ H a = some (.lst (ns.map V.int)) ∧ ns ≠ [] ∧ ∀ M ∈ ns, (∀ b ∈ ns, M ≤ b) → Q (.int M) H) := by
  intro pins s σ H xs us Q I r h
  obtain ⟨a, ns, rfl, ha, hne, q⟩ := h
  obtain ⟨u, rfl, ru⟩ := vals1 r
  cases (show u = Value.ref a from ru)
  obtain ⟨z, its, n, rv, hl, e⟩ := I.lstM ha
  have hi := intsAre_of rv
  obtain ⟨ps, hx⟩ := hi.allInts.items
  have hns : ns = ps.toList.map (·.1) := by rw [← hi.numsOf, ← nums_intItems, ← hx]
  have hL : s.heap.IsList a (intItems ps) := hx ▸ ⟨_, e, rfl, n, rfl⟩
  have hsz : 0 < ps.size := by
    cases ns with
    | nil => exact absurd rfl hne
    | cons m ms =>
      have q0 : ms.length + 1 = ps.size := by
        have := congrArg List.length hns
        simpa using this
      (first | lia | omega)
  refine min_intList (I.ok.hd hc) hL hsz fun v h' tk hv hk => ?_
  obtain ⟨t, rfl⟩ := intItems_at hv
  obtain ⟨h1, h2⟩ := argBest_lt (numAt ps) (ps.size - 1)
  refine ⟨.int _, H, I.kept hk, ⟨t, rfl⟩, q _ ?_ fun b hb => ?_⟩
  · rw [hns, numAt_eq]; exact getD_mem (by rw [List.length_map, Array.length_toList]; (first | lia | omega))
  · rw [hns] at hb
    obtain ⟨j, hj, rfl⟩ := mem_getD hb
    rw [List.length_map, Array.length_toList] at hj
    rw [← numAt_eq]; exact h2 j (by (first | lia | omega))
end
def Its (z : Str) : It := ⟨fun i _ => i < z.cps.size, fun i H x H' => H' = H ∧ ∃ c, z.cps[i]? = some c ∧ x = .str ⟨#[c]⟩, fun i _ => i = z.cps.size⟩
theorem turn_str {P : Program} {w : World} {K : PySem.W.Frag} {tg : Expr} (it : Addr) (z : Str) (t : Tok) : Turn P w K tg (Its z) [it] it (fun i h => h.IsStrIter it "str_ascii_iterator" z t i) where
  mem := by simp
  obj := fun i h st b hb => by
    have e : b = it := by simpa using hb
    subst e
    obtain ⟨o, e, c, d⟩ := st
    exact ⟨o, e, fun v z => by rw [d] at z; cases z⟩
  keep := fun i h h' st k => by
    obtain ⟨o, e, r⟩ := st
    exact ⟨o, k it (by simp) o e, r⟩
  item := by
    intro X hP hw hK hc i pins s σ H E I hf st hg
    subst hP hw hK
    obtain ⟨f0, f1, f2, f3, f4, f5⟩ := hf it (by simp)
    refine (Walks.strAscii (prog := X.prog) (w := X.w) (I.ok.hd hc) it z t).item i s _ _ hg st fun v h' tk hv st' kk => ?_
    obtain ⟨c, u, hcv, rfl⟩ := hv
    have I1 : Inv X pins σ H { s with heap := h', toks := tk } := I.turned (fun b o hb e => kk b o (by simpa using hb) e) f0 f1 f3 f4 f5
    obtain ⟨o, e, c', d⟩ := id st'
    exact ⟨_, rfl, go_of (s := { s with heap := h', toks := tk }) e c' d (by decide) ⟨.str ⟨#[c]⟩, H, I1, ⟨u, rfl⟩, ⟨rfl, c, hcv, rfl⟩, st', fun b hb => (hf b hb).1⟩⟩
  done := by
    intro X hP hw hK hc i pins s σ H E I hf st hg
    subst hP hw hK
    obtain ⟨f0, f1, f2, f3, f4, f5⟩ := hf it (by simp)
    have hi : i = z.cps.size := hg
    subst hi
    exact (Walks.strAscii (prog := X.prog) (w := X.w) (I.ok.hd hc) it z t).done s _ _ st fun h' tk eb => ⟨rfl, I.turned (t' := tk) (fun b o hb e => eb b o (by simpa using hb) e) f0 f1 f3 f4 f5⟩
  self := fun _ _ _ _ _ st h => wpAny_pyIter_striter_ascii st h
section
variable {X : Cx} {tg : Expr}
def iStr (tl : TE) : TI := fun σ H R => tl σ H fun x H1 => ∃ z : Str, x = .str z ∧ z.cps.all (· < 128) = true ∧ R (Its z) H1
theorem pi_str {l : Expr} {tl : TE} (hl : PE X l tl) : PI X tg l (iStr tl) := by
  intro pins s σ H R I h
  refine thn (hl pins s σ H _ I h) fun v s1 ⟨x, H1, I1, r1, q1⟩ => ?_
  obtain ⟨z, e, ha, q⟩ := q1
  subst e
  obtain ⟨t, rfl⟩ := r1
  refine wpAny_pyIter_ascii ha ?_
  refine ⟨s1.heap.objs.size, [s1.heap.objs.size], _, _, H1, rfl, I1.kept (t' := s1.toks) fun b o e => Heap.get?_push_of_some _ e, turn_str _ z t, ⟨_, Heap.get?_push_size _ rfl, rfl, rfl⟩, fun b hb => ?_, q⟩
  have e : b = s1.heap.objs.size := by simpa using hb
  subst e
  exact I1.fpOk (Nat.le_refl _) (I1.hok.fresh (Nat.le_refl _))
end
def Itp (lo c : Int) (n : Nat) : It := ⟨fun i _ => i < n, fun i H x H' => H' = H ∧ x = .int (lo + (i : Nat) * c), fun i _ => n ≤ i⟩
theorem turn_step {P : Program} {w : World} {K : PySem.W.Frag} {tg : Expr} (it : Addr) (lo c : Int) (n : Nat) : Turn P w K tg (Itp lo c n) [it] it (fun i h => IsRangeIter h it (lo + (i : Nat) * c) ((n : Int) - (i : Nat)) c) where
  mem := by simp
  obj := fun i h st b hb => by
    have e : b = it := by simpa using hb
    subst e
    exact ⟨_, st, fun v z => by
      have z' : Data.fields _ = Data.cell v := z
      cases z'⟩
  keep := fun i h h' st k => k it (by simp) _ st
  item := by
    intro X hP hw hK hc i pins s σ H E I hf st hg
    subst hP hw hK
    obtain ⟨f0, f1, f2, f3, f4, f5⟩ := hf it (by simp)
    have W := Walks.range (prog := X.prog) (w := X.w) (I.ok.hd hc) it lo c n
    refine W.item i s _ _ hg st fun v h' tk hv st' kk => ?_
    obtain ⟨t, rfl⟩ := hv
    have I1 : Inv X pins σ H { s with heap := h', toks := tk } := I.turned (fun b o hb e => kk b o (by simpa using hb) e) f0 f1 f3 f4 f5
    exact ⟨_, rfl, go_of (s := { s with heap := h', toks := tk }) (n := "range_iterator") st' rfl rfl (by decide) ⟨.int (lo + (i : Nat) * c), H, I1, ⟨t, rfl⟩, ⟨rfl, rfl⟩, st', fun b hb => (hf b hb).1⟩⟩
  done := by
    intro X hP hw hK hc i pins s σ H E I hf st hg
    subst hP hw hK
    obtain ⟨f0, f1, f2, f3, f4, f5⟩ := hf it (by simp)
    exact wpAny_pyNext_range_end (I.ok.hd hc) st (by have : n ≤ i := hg; (first | lia | omega)) fun h' eb => ⟨rfl, I.turned (t' := s.toks) (fun b o hb e => eb b o hb e) f0 f1 f3 f4 f5⟩
  self := fun _ _ _ _ _ st h => wpAny_pyIter_rangeiter st h
section
variable {X : Cx} {tg : Expr}
def iRngS (ta : TA) : TI := fun σ H R => ta σ H fun vs H1 => ∃ (i j c : Int) (n : Nat), vs = [.int i, .int j, .int c] ∧ (c ≠ 0 ∧ c.natAbs < 1073741824) ∧ Builtin.Range.small i j c = true ∧ Builtin.Range.rangeSize i j c = (n : Int) ∧ R (Itp i c n) H1
theorem pi_rangeS {a b c : Expr} {ta : TA} {p pos : Pos} (hg : Gl X "range") (hm : X.mg "range" = none) (ha : PA X [a, b, c] ta) (hs : starEach [a, b, c] X.env = [(false, eval a X.env), (false, eval b X.env), (false, eval c X.env)] := by rfl) (hs2 : starEach [b, c] X.env = [(false, eval b X.env), (false, eval c X.env)] := by rfl) :
    PI X tg (.Call (.Name "range" p) [a, b, c] [] pos) (iRngS ta) := by
  intro pins s σ H R I h
  refine Call_ (ld_blt I hg hm boot_range (PyProof.Rows.callWith_type1 (thn (ha pos pins s σ H _ I h) fun us s1 ⟨vs, H1, I1, r1, q1⟩ => ?_) (by rw [hs, hs2]) (by rw [hs2]; rfl)))
  obtain ⟨i, j, st, n, e, hst, hsm, hn, q⟩ := q1
  subst e
  cases r1 with
  | cons r rr =>
    cases rr with
    | cons r' rr =>
      cases rr with
      | cons r'' rr =>
        cases rr
        obtain ⟨t, rfl⟩ := r
        obtain ⟨t', rfl⟩ := r'
        obtain ⟨t'', rfl⟩ := r''
        refine call_range_3 hst.1 ?_ (Or.inl (PyProof.noPylong_small hst.2))
        refine wpAny_pyIter_range (IsRange.new ..) hsm ?_
        generalize hpu : s1.heap.push { cls := .type "range", data := .fields #[.int i t, .int j t', .int st t''] } = hp
        have I2 : Inv X pins σ H1 { s1 with heap := hp, toks := s1.toks } := I1.kept fun b o e => by rw [← hpu]; exact Heap.get?_push_of_some _ e
        refine ⟨hp.objs.size, [hp.objs.size], _, _, H1, rfl, I2.kept (t' := s1.toks) fun b o e => Heap.get?_push_of_some _ e, turn_step _ i st n, ?_, fun b hb => ?_, q⟩
        · have e1 : i + ((0 : Nat) : Int) * st = i := by simp
          have e2 : (n : Int) - ((0 : Nat) : Int) = Builtin.Range.rangeSize i j st := by rw [hn]; simp
          show IsRangeIter _ _ (i + ((0 : Nat) : Int) * st) ((n : Int) - ((0 : Nat) : Int)) st
          rw [e1, e2]
          exact Heap.get?_push_size _ rfl
        · have e : b = hp.objs.size := by simpa using hb
          subst e
          exact I2.fpOk (Nat.le_refl _) (I2.hok.fresh (Nat.le_refl _))
end
def datV : V → PyData
  | .int i => .int i
  | .str z => .str z
  | _ => .none
def plV : V → Bool
  | .int _ => true
  | .str z => PyData.strOk z
  | _ => false
section
variable {X : Cx} {pins : List (Addr × Obj)} {σ : St} {H : Hp} {s : Shared}
theorem reads_flat : ∀ {xs : List V} {us : List Value}, Vals xs us → xs.all plV = true → ReadsAll s.heap us (xs.map datV) []
  | _, _, .nil, _ => .nil
  | x :: xs, u :: us, .cons r t, h => by
    rw [List.all_cons, Bool.and_eq_true] at h
    cases x with
    | int i => obtain ⟨k, rfl⟩ := r; exact .cons (.int _ _) (reads_flat t h.2)
    | str z => obtain ⟨k, rfl⟩ := r; exact .cons (.str _ _) (reads_flat t h.2)
    | _ => exact absurd (show false = true from h.1) Bool.false_ne_true
theorem shaped_flat {xs : List V} (h : xs.all plV = true) : SeqAt.shaped (PyData.tuple (xs.map datV)) = true := by
  have h1 : ∀ xs : List V, xs.all plV = true → PyData.canLayAll0 (xs.map datV) = true := fun xs => by
    induction xs with
    | nil => intro _; rfl
    | cons x xs ih =>
      intro h
      rw [List.all_cons, Bool.and_eq_true] at h
      cases x <;> first | exact absurd (show false = true from h.1) Bool.false_ne_true | (have h1 := h.1; simp [plV] at h1; simp [PyData.canLayAll0, PyData.canLay0, datV, ih h.2, h1]) | simp [PyData.canLayAll0, PyData.canLay0, datV, ih h.2]
  have h2 : ∀ xs : List V, xs.all plV = true → PyData.depthAll (xs.map datV) = 0 := fun xs => by
    induction xs with
    | nil => intro _; rfl
    | cons x xs ih =>
      intro h
      rw [List.all_cons, Bool.and_eq_true] at h
      cases x <;> first | exact absurd (show false = true from h.1) Bool.false_ne_true | simp [PyData.depthAll, PyData.depth, datV, ih h.2]
  simp [SeqAt.shaped, PyData.canLay0, PyData.depth, h1 xs h, h2 xs h]
theorem eqv_flat : ∀ {xs : List V}, xs.all plV = true → PyData.eqvAll (xs.map datV) (xs.map datV) = true
  | [], _ => rfl
  | x :: xs, h => by
    rw [List.all_cons, Bool.and_eq_true] at h
    cases x <;> first | exact absurd (show false = true from h.1) Bool.false_ne_true | simp [PyData.eqvAll, PyData.eqv, datV, eqv_flat h.2]
def rNeSame : R2 := fun x y H Q => ∃ a b xs, x = .ref a ∧ y = .ref b ∧ H a = some (.tup xs) ∧ H b = some (.tup xs) ∧ xs.all plV = true ∧ Q (.bl false) H
theorem op_neSame (hu : X.A.units + 64 < cLine) : OpR X (compareOp .NotEq) rNeSame := by
  intro pins s σ H x y v u Q I rx ry h
  obtain ⟨a, b, xs, rfl, rfl, ha, hb, hp, q⟩ := h
  cases rx
  cases ry
  have rd : ∀ {c : Addr}, H c = some (.tup xs) → Reads s.heap (.ref c) (.tuple (xs.map datV)) [] := fun {c} hc => by
    obtain ⟨_, its, rv, o, ho, hcl, n, hd⟩ := (show ObjOk X.prog X.w H s.heap c (.tup xs) from I.hok c _ hc)
    exact .tuple ho hcl hd (by simpa using reads_flat (s := s) rv hp)
  refine ne_dataH (rd ha) (rd hb) (shaped_flat hp) (shaped_flat hp) hu ?_
  refine ⟨.bl false, H, I, ?_, q⟩
  show Value.bool (!(PyData.eqvAll _ _)) = _
  rw [eqv_flat hp]
  rfl
end
def keyNum (e : DictEntry) : Option (Str × Int) := match e.key, e.val with
  | .str x _, .int i _ => some (x, i)
  | _, _ => none
def dictIn (K : PySem.W.Frag) (a : Addr) (D : List (Str × Int)) : Bool := match K.lookup a with
  | some ⟨.type "dict", none, .dict es _, sl⟩ => es.toList.map keyNum == D.map some && !(a == sysModules) && decide (sl.size = 0)
  | _ => false
def getN (z : Str) : List (Str × Int) → V
  | [] => .non
  | (x, i) :: D => if z = x then .int i else getN z D
theorem rows_of : ∀ {es : List DictEntry} {D : List (Str × Int)} {h : Heap}, es.map keyNum = D.map some → KTD.Rows (KTD.Dat.At h) es (D.map fun p => (p.1, KTD.Dat.flat (.int p.2)))
  | [], [], _, _ => .nil
  | [], _ :: _, _, h => by simp at h
  | _ :: _, [], _, h => by simp at h
  | ⟨hs, k, v⟩ :: es, (x, i) :: D, hp, h => by
    rw [List.map_cons, List.map_cons, List.cons.injEq] at h
    obtain ⟨h1, h2⟩ := h
    cases k <;> cases v <;> simp [keyNum] at h1
    obtain ⟨rfl, rfl⟩ := h1
    exact .cons rfl (.int _ _) (rows_of h2)
theorem each_of {h : Heap} {z : Str} {P : Value → Prop} {els : Prop} : ∀ {D : List (Str × Int)}, (∀ i t, getN z D = .int i → P (.int i t)) → (getN z D = .non → els) → KTD.Each h z P els (D.map fun p => (p.1, KTD.Dat.flat (.int p.2)))
  | [], _, h2 => h2 rfl
  | (x, i) :: D, h1, h2 => by
    show if decide (z = x) = true then _ else _
    by_cases hz : z = x
    · rw [if_pos (decide_eq_true hz)]
      have e : getN z ((x, i) :: D) = .int i := by show (if z = x then _ else _) = _; rw [if_pos hz]
      intro v
      exact h1 i v e
    · rw [if_neg (by simp [hz])]
      have e : getN z ((x, i) :: D) = getN z D := by show (if z = x then _ else _) = _; rw [if_neg hz]
      rw [e] at h1 h2
      exact each_of h1 h2
theorem getN_is (z : Str) : ∀ D : List (Str × Int), getN z D = .non ∨ ∃ i, getN z D = .int i
  | [] => .inl rfl
  | (x, i) :: D => by
    by_cases hz : z = x
    · exact .inr ⟨i, by show (if z = x then _ else _) = _; rw [if_pos hz]⟩
    · rcases getN_is z D with h | ⟨j, h⟩
      · exact .inl (by show (if z = x then _ else _) = _; rw [if_neg hz]; exact h)
      · exact .inr ⟨j, by show (if z = x then _ else _) = _; rw [if_neg hz]; exact h⟩
section
variable {X : Cx}
def tKGet (D : List (Str × Int)) (ta : TA) : TE := fun σ H Q => ta σ H fun vs H1 => ∃ z : Str, vs = [.str z] ∧ Q (getN z D) H1
theorem pe_kget {x : Str} {a : Addr} {D : List (Str × Int)} {np apos cpos : Pos} {e : Expr} {t : TA} (hg : Gl X x) (hm : X.mg x = some (.ref a)) (hK : dictIn X.K a D = true) (ha : PA X [e] t)
    (hdb : (x == ("__debug__" : Str)) = false := by decide)
    (hbase : attributeBase (.Name x np) "get" X.env (eval (.Name x np) X.env) = eval (.Name x np) X.env := by rfl)
    (hfew : ((backTo cpos (starEach [e] X.env)).all (fun x => !x.1) && (backToKw cpos (keywordEach [] X.env)).all (fun x => x.1.isSome)
      && decide ([e].length + ([] : List Keyword).length + (if ([] : List Keyword).isEmpty then 0 else 1) < 30)) = true := by rfl)
    (hline : (apos.endLine == cpos.line) = true := by rfl) (hs : starEach [e] X.env = [(false, eval e X.env)] := by rfl) :
    PE X (.Call (.Attribute (.Name x np) "get" apos) [e] [] cpos) (tKGet D t) := by
  intro pins s σ H Q I h
  unfold dictIn at hK
  split at hK
  case h_2 => cases hK
  rename_i es ep sl ho
  rw [Bool.and_eq_true, Bool.and_eq_true, beq_iff_eq, Bool.not_eq_true', decide_eq_true_eq] at hK
  obtain ⟨hK, hsl⟩ := hK
  have hsl := Array.eq_empty_of_size_eq_zero hsl
  subst hsl
  refine wpAny_Call_method_late hbase hfew hline rfl (ld_glob I hg hm ?_ hdb)
  have h0 := I.kIn _ _ ho
  have T : ∀ s' : Shared, X.K.In s'.heap → KTD.Here s'.heap s'.heap a (D.map fun p => (p.1, KTD.Dat.flat (.int p.2))) := fun s' ks => ⟨⟨hK.2, _, es, ep, ks _ _ ho, ⟨rfl, rfl, rfl⟩, rfl, rows_of hK.1⟩, fun _ _ e => e⟩
  refine ⟨"dict", "dict.get", PySem.F.plainAttrs_dict, PySem.F.slot_dict_get, PySem.F.type_dict_get, (T s I.kIn).typeIs, fun b q => ?_, ?_⟩
  · cases q; exact ⟨_, h0, rfl⟩
  · have hA := ha cpos pins s σ H _ I h
    rw [hs] at hA ⊢
    refine Calls.callWith_builtin rfl (Calls.evalArgs_plain ?_)
    refine thn hA fun us s2 ⟨vs, H2, I2, r2, z, ev, q2⟩ => ?_
    subst ev
    obtain ⟨u, rfl, t', rfl⟩ := vals1 r2
    refine KTD.get1_text (T s2 I2.kIn) (each_of (fun i tk ei => ?_) fun en => ?_)
    · rw [ei] at q2; exact ⟨.int i, H2, I2.tok _, ⟨tk, rfl⟩, q2⟩
    · rw [en] at q2; exact ⟨.non, H2, I2.tok _, rfl, q2⟩
end
def strV : Value → Option Str
  | .str x _ => some x
  | _ => none
def tupIn (K : PySem.W.Frag) (a : Addr) (ts : List Str) : Bool := match K.lookup a with
  | some ⟨.type "tuple", _, .seq its _, _⟩ => its.toList.map strV == ts.map some && decide (its.size ≤ 1000)
  | _ => false
theorem vals_of : ∀ {us : List Value} {ts : List Str}, us.map strV = ts.map some → Vals (ts.map V.str) us
  | [], [], _ => .nil
  | [], _ :: _, h => by simp at h
  | _ :: _, [], h => by simp at h
  | u :: us, t :: ts, h => by
    rw [List.map_cons, List.map_cons, List.cons.injEq] at h
    refine .cons ?_ (vals_of h.2)
    have h1 := h.1
    unfold strV at h1
    split at h1
    · rename_i x k
      cases h1
      exact ⟨k, rfl⟩
    · cases h1
theorem tupIn_ok {K : PySem.W.Frag} {a : Addr} {ts : List Str} (h : tupIn K a ts = true) (H : Hp) : SqT K H a (ts.map V.str) := by
  unfold tupIn at h
  split at h
  case h_2 => cases h
  rename_i d its n sl ho
  rw [Bool.and_eq_true, beq_iff_eq, decide_eq_true_eq] at h
  exact .inr ⟨_, its, n, ho, rfl, rfl, Nat.le_trans h.2 (by decide), vals_of h.1⟩
end L2
namespace L2
open PySem PySem.Spec PyProof.Rows
theorem lri_len : typeLookup (.type "list_reverseiterator") "__len__" = pure none := by rw [typeLookup_type, builtinLookup_eq_fast]; kernel_rfl
theorem lri_hint : typeLookup (.type "list_reverseiterator") "__length_hint__" = pure (some (.builtin "list_reverseiterator.__length_hint__")) := by rw [typeLookup_type, builtinLookup_eq_fast]; kernel_rfl
section
variable {prog : Program} {w : World} {A : Around} {E : Value → Shared → Prop} {s : Shared}
theorem collect_rev {it l : Addr} {items : Array Value} {Q : List Value → Shared → Prop} (hh : A.handled = none) (hne : l ≠ it) (hit : s.heap.IsRevIter it l ((items.size : Int) - 1)) (hl : s.heap.IsList l items) (hn : items.size ≤ sizeLine)
    (hQ : ∀ s' acc, Moved [it] (fun a b => b = a) s s' → ItemsOf (fun i v => items[items.size - 1 - i]? = some v) acc items.size → Q acc.toList s') : wpAny (model prog w) A (collect (.ref it)) Q E s := by
  have W := (Walks.listRev (prog := prog) (w := w) (A := A.in1) hh it l hne items).toS
  have st : (0 ≤ items.size ∧ s.heap.IsRevIter it l ((items.size : Int) - 1 - ((0 : Nat) : Int)) ∧ s.heap.IsList l items) := ⟨Nat.zero_le _, by simpa using hit, hl⟩
  have ti : ∀ {s' : Shared} {i : Int}, s'.heap.IsRevIter it l i → s'.TypeIs (.ref it) "list_reverseiterator" := fun x => x.typeIs
  have hlt : it < s.heap.objs.size := by obtain ⟨o, e, _⟩ := hit; exact Heap.lt_size e
  have hlt2 : l < s.heap.objs.size := by obtain ⟨o, e, _⟩ := hl; exact Heap.lt_size e
  have new : s.heap.objs.size ∉ [it, l] := fun hm => by
    simp only [List.mem_cons, List.not_mem_nil, or_false] at hm
    rcases hm with e | e
    · rw [← e] at hlt; exact Nat.lt_irrefl _ hlt
    · rw [← e] at hlt2; exact Nat.lt_irrefl _ hlt2
  unfold collect
  refine wpAny_bind (wpAny_runValue (codeAny_builtin F.entry_proto_collect (by
    rw [Around.under_plainId F.plain_proto_collect _]
    refine wpAny_bind (m := newList []) (wpAny_newObj_type (wpAny_pure ⟨plainId_quiet F.plain_list_iadd _, codeAny_builtin F.entry_list_iadd ?_⟩))
    rw [Around.under_plainId F.plain_list_iadd _]
    generalize hh1 : s.heap.push { cls := .type "list", data := .seq ([] : List Value).toArray } = h1
    have hS : h1.get? s.heap.objs.size = some { cls := .type "list", data := .seq ([] : List Value).toArray } := by rw [← hh1]; exact Heap.get?_push_size _ rfl
    have st1 := W.frame 0 s h1 s.toks st (Nat.le_refl _) fun b _ o e => by rw [← hh1]; exact Heap.get?_push_of_some _ e
    have same : Builtin.List.listSameRef (.ref s.heap.objs.size) (.ref it) = false := by simp [Builtin.List.listSameRef, Nat.ne_of_gt hlt]
    show wpAny _ A.in1 (Builtin.List.listExtendWith (.ref s.heap.objs.size) (.ref it) (.ref s.heap.objs.size)) _ _ _
    unfold Builtin.List.listExtendWith
    refine wpAny_bind (wpAny_typeOf (ti st1.2.1) ?_)
    rw [if_neg (by rw [same]; decide)]
    refine wpAny_bind (W.self 0 _ _ _ st1 (wpAny_bind (wpAny_holding ?_)))
    unfold Builtin.List.listLengthHint
    refine wpAny_bind (wpAny_specialOf (ti st1.2.1) lri_len ?_)
    show wpAny _ A.in1 (specialOf (Value.ref it) (Str.ofString "__length_hint__") >>= _) _ _ _
    refine wpAny_bind (wpAny_specialOf (ti st1.2.1) lri_hint ?_)
    generalize hid : ("list_reverseiterator.__length_hint__" : String) = id0
    wp_delta
    rw [show splitId id0 = some ("list_reverseiterator", "__length_hint__") from by subst hid; decide +kernel]
    subst hid
    refine wpAny_bind (wpAny_isInstance (b := true) (ti st1.2.1) (by rw [isSubtype_type]; kernel_rfl) (wpAny_pure ?_))
    rw [if_neg (by decide)]
    refine wpAny_pure ⟨plainId_quiet F.plain_extend_loop _, codeAny_extend_loopS W hn _ new _ items.size 0 _ _ _ rfl (Nat.zero_le _) st1 hS (ItemsOf.nil _) fun s' acc' c' hm hS' hacc => ?_⟩
    show wpAny _ A (load s.heap.objs.size >>= _) _ _ s'
    refine wpAny_bind (wpAny_load hS' (wpAny_pure (hQ s' acc' ?_ hacc)))
    rw [← hh1] at hm
    exact Moved.drop_new (o := { cls := .type "list", data := .seq ([] : List Value).toArray }) (tk := s.toks) hm (Nat.le_refl _))))
theorem joinTail_made (x : Str) : ∀ {l : List (Str × Tok)}, Builtin.Str.tooLong ((l.map (·.1)).toArray.foldl (· + ·.length + x.length) 0) = false → Gives (joinTail x (strValues l)) (joinMade x l)
  | [], h => gives_joinTail x [] h
  | [p], h => gives_joinTail x [p] h
  | p :: q :: r, h => gives_joinTail x (p :: q :: r) h
theorem join_rev {it l : Addr} {ps : List (Str × Tok)} {x : Str} {t : Tok} {Q : Value → Shared → Prop} (hh : A.handled = none) (hne : l ≠ it) (hit : s.heap.IsRevIter it l ((ps.length : Int) - 1)) (hl : s.heap.IsList l (strValues ps).toArray) (hn : ps.length ≤ sizeLine) (hok : JoinOk x (ps.map (·.1)).reverse = true)
    (hQ : ∀ s' t' k, Moved [it] (fun a b => b = a) s s' → Q (.str (Txt.join x (ps.map (·.1)).reverse) t') { s' with toks := k }) : wpAny (model prog w) A (call (.builtin "str.join") [.str x t, .ref it]) Q E s := by
  have hlen : (strValues ps).toArray.size = ps.length := by unfold strValues; simp
  refine wpAny_call (codeAny_call_builtin F.slot_str_join.plain F.entry_str_join (F.slot_str_join.check _ _ _ _ _ _ _ _ (typeIs_str _ _ _) (F.args_str_join_2 _ _) ?_))
  rw [join_tree_other]
  refine wpAny_bind (wpAny_typeOf hit.typeIs ?_)
  rw [if_neg (by decide)]
  refine wpAny_bind (wpAny_tryCatch (wpAny_pyIter_revIter hit ?_))
  refine wpAny_bind (collect_rev (A := A.in1) hh hne (by rw [hlen]; exact hit) hl (by rw [hlen]; exact hn) fun s' acc hm hacc => ?_)
  have ea : acc.toList = strValues ps.reverse := by
    refine List.ext_getElem? fun j => ?_
    rw [Array.getElem?_toList]
    by_cases hj : j < ps.length
    · have hja : j < acc.size := by rw [hacc.1, hlen]; exact hj
      have h2 := hacc.2 j _ (Array.getElem?_eq_getElem hja)
      rw [hlen] at h2
      rw [Array.getElem?_eq_getElem hja]
      have e3 : (strValues ps.reverse)[j]? = (strValues ps)[ps.length - 1 - j]? := by
        unfold strValues
        rw [List.getElem?_map, List.getElem?_map, List.getElem?_reverse hj]
      rw [e3, ← h2]
      simp
    · rw [Array.getElem?_eq_none (by rw [hacc.1, hlen]; (first | lia | omega)), List.getElem?_eq_none (by unfold strValues; simp; (first | lia | omega))]
  rw [ea]
  have em : ps.reverse.map (·.1) = (ps.map (·.1)).reverse := List.map_reverse
  have hok' : JoinOk x (ps.reverse.map (·.1)) = true := by rw [em]; exact hok
  unfold JoinOk at hok'
  rw [Bool.not_eq_true'] at hok'
  have g := joinTail_made x hok'
  exact g prog w A (wants Q E) s' (post_join ps.reverse ⟨joinFit_length hok', fun t' k => by rw [em]; exact hQ s' t' k hm⟩)
end
section
variable {X : Cx}
def tJoinRev (z : Str) (ta : TA) : TE := fun σ H Q => ta σ H fun vs H1 => ∃ (a : Addr) (ts : List Str), vs = [.ref a] ∧ H1 a = some (.lst (ts.map V.str)) ∧ JoinOk z ts.reverse = true ∧ Q (.str (Txt.join z ts.reverse)) H1
theorem pe_joinRev {z : Str} {j : Nat} {cp np rp apos cpos : Pos} {e : Expr} {t : TA} (hc : X.calm = true) (hg : Gl X "reversed") (hm : X.mg "reversed" = none) (ha : PA X [e] t)
    (hbase : attributeBase (.Constant (.str z) j cp) "join" X.env (eval (.Constant (.str z) j cp) X.env) = eval (.Constant (.str z) j cp) X.env := by rfl)
    (hfew : ((backTo cpos (starEach [Expr.Call (.Name "reversed" np) [e] [] rp] X.env)).all (fun x => !x.1) && (backToKw cpos (keywordEach [] X.env)).all (fun x => x.1.isSome)
      && decide ([Expr.Call (.Name "reversed" np) [e] [] rp].length + ([] : List Keyword).length + (if ([] : List Keyword).isEmpty then 0 else 1) < 30)) = true := by rfl)
    (hline : (apos.endLine == cpos.line) = true := by rfl) (hs0 : starEach [Expr.Call (.Name "reversed" np) [e] [] rp] X.env = [(false, eval (.Call (.Name "reversed" np) [e] [] rp) X.env)] := by rfl)
    (hs : starEach [e] X.env = [(false, eval e X.env)] := by rfl) :
    PE X (.Call (.Attribute (.Constant (.str z) j cp) "join" apos) [.Call (.Name "reversed" np) [e] [] rp] [] cpos) (tJoinRev z t) := by
  intro pins s σ H Q I h
  refine wpAny_Call_method_late hbase hfew hline rfl (Calls.Constant_str ?_)
  refine ⟨"str", "str.join", F.plainAttrs_str, F.slot_str_join, F.type_str_join, typeIs_str _ _ _, (fun _ q => nomatch q), ?_⟩
  rw [hs0]
  refine Calls.callWith_builtin rfl (Calls.evalArgs_plain (Calls.spliced_cons ?_))
  have I0 := I.tok (s.toks + 1)
  refine Call_ (ld_blt I0 hg hm PyProof.Rows.boot_reversed (PyProof.Rows.callWith_type1 (thn (ha rp pins _ σ H _ I0 h) fun us s1 ⟨vs, H1, I1, r1, q1⟩ => ?_) hs rfl))
  obtain ⟨a, ts, ev, hH, hok, q⟩ := q1
  subst ev
  obtain ⟨u, rfl, ru⟩ := vals1 r1
  cases (show u = Value.ref a from ru)
  obtain ⟨hz, its, n, rv, hlen, el⟩ := I1.lstM hH
  obtain ⟨l, rfl, el2⟩ := strs_vals rv
  subst el2
  have hlv : (strValues l).length = l.length := by unfold strValues; simp
  refine RV.call_rev el (Calls.spliced_nil ?_)
  have hlt := Heap.lt_size el
  refine join_rev (I1.ok.hd hc) (Nat.ne_of_lt hlt) (l := a) (ps := l) ⟨_, Heap.get?_push_size _ rfl, rfl, by simp [hlv]⟩ ⟨_, Heap.get?_push_of_some _ el, rfl, n, rfl⟩ (by rw [List.length_map, List.length_map] at hz; exact hz) hok fun s' t' k hm' => ?_
  have kp : ∀ b o, s1.heap.get? b = some o → s'.heap.get? b = some o := fun b o e => hm'.heap b o (fun hb => by rw [List.mem_singleton.mp hb] at e; exact Nat.lt_irrefl _ (Heap.lt_size e)) (Heap.get?_push_of_some _ e)
  obtain ⟨hp', g', d', tk', o'⟩ := s'
  have e1 : g' = s1.gens := hm'.gens
  have e2 : d' = s1.drawn := hm'.drawn
  have e3 : o' = s1.os := hm'.os
  subst e1 e2 e3
  exact ⟨.str _, H1, I1.kept (h' := hp') (t' := k) kp, ⟨t', rfl⟩, q⟩
end
end L2
namespace L2
open PySem PySem.Spec PyProof.Rows
def XEc (X : Cx) (scope : Scope) (N : List Str) (C : Addr) (s₀ : Shared) (H₀ : Hp) (ex : List Addr) (EK : XK) : Value → Shared → Prop := fun v s' => ∃ (pins : List (Addr × Obj)) (σ : St) (H : Hp) (s : Shared), Inv (cxComp X scope N C s₀ H₀ ex) pins σ H s ∧ CXE X.prog X.w X.stack H s EK v s'
def Away (X : Cx) (pins : List (Addr × Obj)) (σ : St) (C : Addr) (EK : XK) : Value → Shared → Prop := fun v s' => ∃ (H1 : Hp) (s1 : Shared) (m : Str → Option Value), Inv X pins σ H1 s1 ∧ s1.heap.Ns C m ∧ H1 C = none ∧ C ∉ frs X.stack ∧ X.s₀.heap.objs.size ≤ C ∧ CXE X.prog X.w X.stack H1 s1 EK v s'
def XeL (X : Cx) (EK : XK) : Value → Shared → Prop := fun e s' => wpAny (model X.prog X.w) X.A (leaving X.env e) (fun _ s'' => CXE X.prog X.w X.outer X.H₀ X.s₀ EK e s'') (fun e' s'' => CXE X.prog X.w X.outer X.H₀ X.s₀ EK e' s'') s'
theorem held_but {B h2 h3 : Heap} {l : List Env} {ea L C : Addr} {cls a0 : Value} {oC : Obj} (hh : Heap.HeldW B l ea cls a0 L h2) (hC : h2.get? C = some oC) (hd : ∀ vs, oC.data ≠ .fields vs) (hf : C ∉ frs l) (sb : Heap.SameBut C h2 h3) : Heap.HeldW (PySem.W.hideAll B [C]) l ea cls a0 L h3 := by
  obtain ⟨k1, k2, k3, oe, vs, T, oT, ts, he, hcls, hde, h1, hnT, hTe, hT, hdT, hfl⟩ := hh
  have nb : ∀ b, B.get? b = none → (PySem.W.hideAll B [C]).get? b = none := fun b q => by
    cases e : (PySem.W.hideAll B [C]).get? b with
    | none => rfl
    | some o => rw [PySem.W.of_hideAll _ e] at q; cases q
  have ne : ∀ b o vs, h2.get? b = some o → o.data = .fields vs → b ≠ C := fun b o vs q d z => by
    rw [z, hC] at q; cases q
    exact hd vs d
  have ff : ∀ l : List Env, C ∉ frs l → h2.FunFrames B l → h3.FunFrames (PySem.W.hideAll B [C]) l := fun l => by
    induction l with
    | nil => intro _ _; trivial
    | cons env rest ih =>
      intro hf hl
      obtain ⟨hk, ⟨L, o, hfr, hn, ho, hdo⟩, hr⟩ := hl
      have hLC : L ≠ C := fun z => hf (by unfold frs; rw [List.filterMap_cons, hfr, z]; exact List.mem_cons_self)
      refine ⟨hk, ⟨L, o, hfr, nb L hn, (sb.2 L hLC).trans ho, hdo⟩, ih (fun z => hf ?_) hr⟩
      unfold frs at z ⊢
      rw [List.filterMap_cons, hfr]
      exact List.mem_cons_of_mem _ z
  refine ⟨fun b o q => ?_, nb ea k2, ff l hf k3, oe, vs, T, oT, ts, (sb.2 ea (ne ea oe vs he hde)).trans he, hcls, hde, h1, nb T hnT, hTe, (sb.2 T (ne T oT ts hT hdT)).trans hT, hdT, hfl⟩
  have hb : b ≠ C := fun z => by rw [z, PySem.W.hideAll_none [C] List.mem_cons_self] at q; cases q
  exact (sb.2 b hb).trans (k1 b o (PySem.W.of_hideAll _ q))
section
variable {X : Cx} {pins : List (Addr × Obj)} {σ : St}
theorem leaves_fin {H H' : Hp} {s s' : Shared} {ea C Cl : Addr} {B h5 : Heap} {a0 : Value} {EK : XK} {oC : Obj} (I : Inv X pins σ H s) (O : Own X) (hC : s.heap.get? C = some oC) (hfree : H C = none) (hC0 : X.s₀.heap.objs.size ≤ C)
    (os : s'.os = s.os) (bare : AllBare s'.gens) (un : Un (frs X.stack) [] H H' s.heap s'.heap) (hok : HOk X.prog X.w H' s'.heap) (cov : ∀ b o, (∃ u, s.heap.get? b = some u) → b ∉ frs X.stack → s'.heap.get? b = some o → B.get? b = some o)
    (trk : ∀ b u o, H' b = some u → s'.heap.get? b = some o → B.get? b = some o) (new : s.heap.get? ea = none) (free : H' ea = none) (hE : EK (.ref Cl) none H') (fl : Heap.FlyingW (PySem.W.hideAll B [C]) X.outer ea (.ref Cl) a0 h5)
    (hfr : ∀ b o, s'.heap.get? b = some o → b ∈ frs X.stack → ∃ sl, h5.get? b = some { o with slots := sl }) : CXE X.prog X.w X.outer X.H₀ X.s₀ EK (.ref ea) { s' with heap := h5 } := by
  have nx : ∀ b : Addr, b ∉ X.ex := fun b => by rw [O.ex]; simp
  have hH' : H' C = none := un.free C oC hC hfree (by simp)
  have hid : ∀ b o, B.get? b = some o → b ≠ C → (PySem.W.hideAll B [C]).get? b = some o := fun b o q n => PySem.W.hideAll_get _ q (by simpa using n)
  have keep : ∀ b o, (∃ u, s.heap.get? b = some u) → s'.heap.get? b = some o → b ∉ frs X.stack → b ≠ C → h5.get? b = some o := fun b o hu q n nc => fl.1 _ _ (hid _ _ (cov b o hu n q) nc)
  have oldC : ∀ b o, X.s₀.heap.get? b = some o → b ≠ C := fun b o q z => by
    have := Heap.lt_size q
    rw [z] at this
    exact Nat.lt_irrefl _ (Nat.lt_of_lt_of_le this hC0)
  have trkC : ∀ b u, H' b = some u → b ≠ C := fun b u q z => by rw [z, hH'] at q; cases q
  have sub : ∀ b, b ∈ X.fs → b ∈ frs X.stack := fun b hb => by rw [O.stk]; exact frs_mem O.fr hb
  refine ⟨ea, Cl, H', rfl, os.trans I.os, bare, ⟨fun b o q n hb _ => ?_, fun b o q n hb _ => ?_, fun b o q n _ => ?_, fun b o q _ => ?_, fun b xs q => un.tups b xs (I.base.tups b xs q), fun b o xs q => un.frzs b o xs (I.base.frzs b o xs q), fun b ps q => ?_⟩, hok.tracked fun b u o hu q => fl.1 _ _ (hid _ _ (trk b u o hu q) (trkC b u hu)), ⟨_, a0, fl, fun b o hb hn q => ?_, fun b u o hu q => ?_, ?_, free⟩, hE⟩
  · have e1 := I.base.keep b o q n hb (nx b)
    exact keep b o ⟨_, e1⟩ (un.keep b o e1 (I.base.free b o q n (nx b)) (I.old O q hb) (by simp)) (I.old O q hb) (oldC b o q)
  · obtain ⟨sl, e1⟩ := I.base.slot b o q n hb (nx b)
    obtain ⟨sl', e2⟩ := un.any e1 (I.base.free b o q n (nx b)) (by simp)
    obtain ⟨sl2, e3⟩ := hfr b _ e2 (sub b hb)
    exact ⟨sl2, e3⟩
  · obtain ⟨o', e1⟩ := I.there O q
    exact un.free b o' e1 (I.base.free b o q n (nx b)) (by simp)
  · obtain ⟨o', e1⟩ := I.there O q
    obtain ⟨o2, e2⟩ := un.there b o' e1 (by simp)
    by_cases hb : b ∈ frs X.stack
    · obtain ⟨sl, e3⟩ := hfr b _ e2 hb
      exact ⟨_, e3⟩
    · exact ⟨o2, keep b o2 ⟨_, e1⟩ e2 hb (oldC b o q)⟩
  · obtain ⟨m1, e1⟩ := I.base.tbls b ps q
    obtain ⟨m2, e2⟩ := un.tbls b _ e1
    exact ⟨m1 ++ m2, by rw [e2, Array.append_assoc]⟩
  · obtain ⟨u, hu⟩ := hb
    obtain ⟨o', e1⟩ := I.there O hu
    obtain ⟨o2, e2⟩ := un.there b o' e1 (by simp)
    have e3 := hid _ _ (cov b o2 ⟨_, e1⟩ (I.old O hu hn) e2) (oldC b u hu)
    have e4 := fl.1 _ _ e3
    have q' : h5.get? b = some o := q
    rw [q'] at e4; cases e4
    exact e3
  · obtain ⟨o', e1⟩ := (hok b u hu).somed
    have e2 := hid _ _ (trk b u o' hu e1) (trkC b u hu)
    have e3 := fl.1 _ _ e2
    have q' : h5.get? b = some o := q
    rw [q'] at e3; cases e3
    exact e2
  · cases q : X.s₀.heap.get? ea with
    | none => rfl
    | some o =>
      obtain ⟨o', e1⟩ := I.there O q
      rw [new] at e1; cases e1
def cPostX (M : Model) (A : Around) (E : Value → Shared → Prop) (use : Option (Value → Sem Unit)) (Q : Value → Shared → Prop) (acc : Value) (C : Addr) (fr : Option Addr) : Result → Shared → Prop
  | .ok f, s' => compPost M A E use Q acc C (.ok f) s'
  | .error x, s' => ∃ m, s'.heap.Ns C m ∧ ∀ h', Heap.SameBut C s'.heap h' → ∀ cenv : Env, cenv.frame = fr → wpAny M A (PySem.passOn "comprehension.variables-let-go" x cenv : Sem Value) (fun _ _ => False) E { s' with heap := h' }
theorem note_comp {scope : Scope} {cl : List (Str × Addr)} {C : Addr} {env : Env} {v : Value} : noteFrame v (compEnvC scope cl C env) = noteFrame v env := rfl
theorem comp_leaves {scope : Scope} {cl : List (Str × Addr)} {C : Addr} {s' : Shared} {v acc : Value} {EK : XK} {use : Option (Value → Sem Unit)} {Q : Value → Shared → Prop} (O : Own X) (hxe : ∀ e s', XeL X EK e s' → X.xe e s') (hA : Away X pins σ C EK v s') :
    notedBy (model X.prog X.w) X.A (compEnvC scope cl C X.env) (fun x s'' => cPostX (model X.prog X.w) X.A X.xe use Q acc C X.env.frame (.error x) s'') v s' := by
  obtain ⟨H1, s1, m, I, hns, hfree, hfr0, hs0, ea, Cl, H', rfl, os, bare, un, hok, ⟨B, a0, fly, cov, trk, new, free⟩, hE⟩ := hA
  obtain ⟨oC, esC, epC, hoC, hdC, rC⟩ := id hns
  have hC1 : s'.heap.get? C = some oC := un.keep C oC hoC hfree hfr0 (by simp)
  have hCB : B.get? C = some oC := cov C oC ⟨_, hoC⟩ hfr0 hC1
  unfold notedBy
  rw [note_comp]
  have fly' := fly
  rw [O.stk] at fly'
  refine wpAny_looks_onW (I.frames O) O.fr fly' fun h2 hh up => ?_
  have hC2 : h2.get? C = some oC := hh.1 _ _ hCB
  refine ⟨m, ⟨oC, esC, epC, hC2, hdC, rC⟩, fun h3 hsb cenv hcf => ?_⟩
  have held := held_but hh hC2 (fun vs z => by rw [hdC] at z; cases z) (by rw [← O.stk]; exact hfr0) hsb
  obtain ⟨k1, k2, k3, oe, vs, T, oT, ts, he, hcls, hd, h1, hnT, hTe, hT, hdT, hfl⟩ := id held
  have go : wpAny (model X.prog X.w) X.A (setFlight (.ref ea) cenv.frame >>= fun _ => (throw (.ref ea) : Sem Value)) (fun _ _ => False) X.xe { s' with heap := h3 } := by
    rw [hcf, O.fr]
    unfold setFlight
    refine wpAny_bind (wpAny_bind (wpAny_field he hd h1 ?_))
    rw [if_pos (show (Value.ref T != Value.none) = true from by simp)]
    refine wpAny_setField hT hdT (Array.getElem?_eq_some_iff.mp hfl).1 ?_
    have e0 : h3.update T (Obj.mapFields (·.setIfInBounds 3 ((some X.env.locals).elim Value.none fun f => rawInt f))) = h3 := Heap.update_setField_same h3 T oT ts 3 _ hT hdT hfl
    show wpAny _ _ (throw (.ref ea) : Sem Value) _ _ { s' with heap := h3.update T (Obj.mapFields (·.setIfInBounds 3 ((some X.env.locals).elim Value.none fun f => rawInt f))) }
    rw [e0]
    refine wpAny_throw (hxe _ _ ?_)
    unfold XeL leaving
    refine wpAny_bind (wpAny_noteFrame_againW O.fr held.2.2.2 ?_)
    refine wpAny_landsW held fun h5 fl5 up5 => ?_
    refine leaves_fin (s' := s') I O hoC hfree hs0 os bare un hok cov trk new free hE ⟨fl5.1, fl5.2.1, fl5.2.2.1.2.2, fl5.2.2.2⟩ fun b o q hb => ?_
    obtain ⟨_, o', ho', hdo⟩ := fly.2.2.1.mem hb
    rw [q] at ho'; cases ho'
    obtain ⟨sl, e2⟩ := up b o q hdo
    have hbC : b ≠ C := fun z => hfr0 (z ▸ hb)
    obtain ⟨sl', e3⟩ := up5 b _ ((hsb.2 b hbC).trans e2) hdo
    exact ⟨sl', e3⟩
  unfold PySem.passOn
  refine wpAny_bind (wpAny_field he hd h1 ?_)
  rw [if_neg (show ¬ ((Value.ref T == Value.none) = true) from by simp)]
  first
    | exact wpAny_bind (wpAny_pure go)
    | exact go
end
theorem comprehension_freeX {M : Model} {A : Around} {E : Value → Shared → Prop} {s : Shared} {env : Env} {e : Expr} {scope : Scope} {pos : Pos} {newAcc first : Sem Value} {g : Comprehension} {gs : List Comprehension} {cl : List (Str × Addr)} {use : Option (Value → Sem Unit)} {Q : Value → Shared → Prop}
    (hcl : clausesOf e = g :: gs) (hs : ∀ x, foldedSetIterable g.iter env x = pure x) (hclos : closureFor scope env = pure cl) (hk : scope.kind = .function) (hnm : ∀ x ∈ scope.names, x.2 = .local → scope.names.lookup x.1 = some .local)
    (h : wpAny M A first (fun x s₁ => wpAny M A (pyIter x) (fun it s₂ => wpAny M A newAcc (fun acc s₃ => wpAny M A (newFunctionEnv scope env.globals cl [] env.qual none .none (some env)) (fun cenv s₄ =>
        codeAny M A (.compStart e 0 it acc { cenv with scope := relabel scope env }) (cPostX M A E use Q acc cenv.locals cenv.frame) s₄) E s₃) E s₂) E s₁) E s) :
    wpAny M A (comprehension e scope env pos newAcc false first use) Q E s := by
  unfold comprehension
  rw [hclos, hcl]
  refine wpAny_bind (wpAny_mono h (fun x s₁ h₁ => wpAny_bind (wpAny_standAt (wpAny_bind (wpAny_of_eq (hs x) (wpAny_bind (wpAny_holding (wpAny_mono h₁ (fun it s₂ h₂ => wpAny_standIf (wpAny_bind (wpAny_mono h₂ (fun acc s₃ h₃ => wpAny_bind (wpAny_pure (wpAny_bind (wpAny_mono h₃ (fun cenv s₄ h₄ => ?_) fun _ _ h' => h')))) fun _ _ h' => h'))) fun _ _ h' => h'))))))) fun _ _ h' => h')
  dsimp only
  have hv : ∀ x ∈ (scope.names.filter fun x => (x.2 == .local || x.2 == .cell) && x.1 != (".0" : Str)).reverse, x.2 = .local → Env.kindOf { cenv with scope := relabel scope env } x.1 = some .local := fun x hx hl => lookup_relabel_local (hnm x (List.mem_filter.mp (List.mem_reverse.mp hx)).1 hl)
  have hv' : ∀ x ∈ (scope.names.filter fun x => (x.2 == .local || x.2 == .cell) && x.1 != (".0" : Str)).reverse.drop 1 ++ (scope.names.filter fun x => (x.2 == .local || x.2 == .cell) && x.1 != (".0" : Str)).reverse.take 1, x.2 = .local → Env.kindOf { cenv with scope := relabel scope env } x.1 = some .local := fun x hx hl =>
    (List.mem_append.mp hx).elim (fun h1 => hv x (List.mem_of_mem_drop h1) hl) fun h1 => hv x (List.mem_of_mem_take h1) hl
  refine wpAny_holding (wpAny_bind (wpAny_attempt (wpAny_holding (wpAny_run (codeAny_mono h₄ fun r s' hr => ?_)))))
  cases r with
  | ok f =>
    cases use with
    | none =>
      obtain ⟨m, hn, hr⟩ := hr
      exact wpAny_bind (wpAny_holding (wpAny_comp_letGo (cenv := { cenv with scope := relabel scope env }) hk _ s' m hv hn fun h' m' _ hs' => wpAny_pure (hr h' hs')))
    | some u =>
      refine wpAny_bind (wpAny_rule (wpAny_bind (wpAny_holding (wpAny_mono hr (fun _ s'' ⟨m, hn, hr'⟩ => ?_) fun _ _ h' => h'))))
      exact wpAny_bind (wpAny_comp_letGo (cenv := { cenv with scope := relabel scope env }) hk _ s'' m hv' hn fun h' m' _ hs' => wpAny_pure (hr' h' hs'))
  | error x =>
    obtain ⟨m, hn, hr⟩ := (show cPostX M A E use Q acc cenv.locals cenv.frame (.error x) s' from hr)
    exact wpAny_bind (wpAny_holding (wpAny_comp_letGo (cenv := { cenv with scope := relabel scope env }) hk _ s' m hv hn fun h' m' _ hs' => wpAny_mono (hr h' hs' _ rfl) (fun _ _ f => f.elim) fun _ _ y => y))
theorem compLoop_anyX {prog : Program} {w : World} {A : Around} {R : Result → Shared → Prop} {s : Shared} {elt target iter : Expr} {scope : Scope} {pos : Pos} {it acc : Value} {env : Env} (I : Nat → Shared → Prop)
    (turn : ∀ n s, I n s → wpAny (model prog w) A (pyNext it) (fun r s₁ => match r with
      | none => R (.ok .next) s₁
      | some v => wpAny (model prog w) A (letOwnedTupleGo target it v) (fun _ s₂ => wpAny (model prog w) A (assign target env v) (fun _ s₃ => wpAny (model prog w) A (eval elt env) (fun x s₄ =>
          wpAny (model prog w) A (call (.builtin "list.append") [acc, x]) (fun _ s₅ => ∃ m, m < n ∧ I m s₅) (fun _ _ => False) s₄)
          (notedBy (model prog w) A env fun x s' => R (.error x) s') s₃) (fun _ _ => False) s₂) (fun _ _ => False) s₁) (fun _ _ => False) s)
    (n : Nat) (h : I n s) :
    codeAny (model prog w) A (.compLoop (.ListComp elt [⟨target, iter, [], 0⟩] scope pos) 0 it acc env) R s := by
  refine codeAny_loop rfl I (fun n s hI => ?_) n h
  show wpAny _ _ ((compTurn (.ListComp elt [⟨target, iter, [], 0⟩] scope pos) 0 it acc env).onRaise (fun x => do noteFrame x env; theTreesLotGoes x)) _ _ s
  refine wpAny_noted ?_
  rw [compTurn_list1]
  refine wpAny_bind (wpAny_standAt (wpAny_bind (wpAny_mono (turn n s hI) (fun r s₁ h₁ => ?_) fun _ _ h' => h'.elim)))
  cases r with
  | none => exact wpAny_pure h₁
  | some v =>
    refine wpAny_bind (wpAny_mono h₁ (fun _ s₂ h₂ => ?_) fun _ _ h' => h'.elim)
    exact wpAny_bind (wpAny_mono h₂ (fun _ s₃ h₃ => wpAny_bind (wpAny_bind (wpAny_mono h₃ (fun x s₄ h₄ => wpAny_bind (wpAny_mono h₄
      (fun _ s₅ h₅ => wpAny_pure (wpAny_pure ⟨rfl, h₅⟩)) fun _ _ h' => h'.elim)) fun _ _ h' => h'))) fun _ _ h' => h'.elim)
section
variable {X : Cx} {elt tg iter : Expr} {scope : Scope} {pos : Pos} {N : List Str} {cap : List Nat} {k : Nat} {wi : TI} {g : TG} {te : TE}
theorem comp_blockX {EK : XK} (S : CompScope X scope N cap k) (hc : X.calm = true)
    (hg : ∀ C s₀ H₀ ex, PG (cxComp X scope N C s₀ H₀ ex) tg g) (he : ∀ C s₀ H₀ ex, PE ((cxComp X scope N C s₀ H₀ ex).wish (XEc X scope N C s₀ H₀ ex EK)) elt te)
    {pins : List (Addr × Obj)} {σ : St} {H : Hp} {s : Shared} {it : Addr} {fp : List Addr} {tn : Nat → Heap → Prop} {J : It} {Q : VK} {RR : Value → Addr → Option Addr → Result → Shared → Prop} {E : Value → Shared → Prop}
    (I : Inv X pins σ H s) (T : Turn X.prog X.w X.K tg J fp it tn) (st : tn 0 s.heap) (hf : ∀ b ∈ fp, FpOk X pins H b)
    (W : Nat → Nat → List V → Hp → Prop) (w0 : ∃ m, W 0 m [] H)
    (turn : ∀ i m ys H, W i m ys H →
      (J.stop i H ∧ ∀ D, H D = none → Q (.ref D) (upd H D (.lst ys))) ∨
      (J.go i H ∧ ys.length < sizeLine ∧ ∃ Nx : VK, (∀ y H3, Nx y H3 → ∃ m', m' < m ∧ W (i + 1) m' (ys ++ [y]) H3) ∧ ∀ x H', J.yld i H x H' → g x (capσ σ cap k) H' fun σ2 H2 => σ2.take cap.length = (capσ σ cap k).take cap.length ∧ te σ2 H2 Nx))
    (hRR : ∀ D C s' m', (∃ H', s'.heap.Ns C m' ∧ (∀ h', Heap.SameBut C s'.heap h' → Inv X pins σ H' { s' with heap := h' } ∧ X.env.locals ≠ C ∧ (∀ x c, X.env.cells.lookup x = some c → c ≠ C)) ∧ FpOk X pins H' C ∧ Q (.ref D) H') → RR (.ref D) C X.env.frame (.ok .next) s')
    (hRX : ∀ D C cl s' v, Away X pins σ C EK v s' → notedBy (model X.prog X.w) X.A (compEnvC scope cl C X.env) (fun x s'' => RR (.ref D) C X.env.frame (.error x) s'') v s') :
    wpAny (model X.prog X.w) X.A (newList []) (fun acc s₃ => wpAny (model X.prog X.w) X.A (newFunctionEnv scope X.env.globals (clOf X.env scope.names []) [] X.env.qual none .none (some X.env)) (fun cenv s₄ =>
      codeAny (model X.prog X.w) X.A (.compStart (.ListComp elt [⟨tg, iter, [], 0⟩] scope pos) 0 (.ref it) acc { cenv with scope := relabel scope X.env }) (RR acc cenv.locals cenv.frame) s₄) E s₃) E s := by
  refine wpAny_newObj_type (wpAny_newFunctionEnv S.nocell (by intro y hy; simp at hy) (fun h₁ hns₁ hsb₁ => ?_) S.kind)
  have I3 : Inv X pins σ H { s with heap := s.heap.push { cls := .type "list", dict := none, data := .seq ([] : List Value).toArray } } := I.kept (t' := s.toks) fun b u e => Heap.get?_push_of_some _ e
  have hD0 : (s.heap.push { cls := .type "list", dict := none, data := .seq ([] : List Value).toArray }).get? s.heap.objs.size = some { cls := .type "list", data := .seq ([] : List Value).toArray } := Heap.get?_push_size _ rfl
  have hfpl : ∀ b ∈ fp, b < s.heap.objs.size := fun b hb => by
    obtain ⟨o, e, _⟩ := T.obj _ _ st b hb
    exact Heap.lt_size e
  have hDf : s.heap.objs.size ∉ fp := fun hm => Nat.lt_irrefl _ (hfpl _ hm)
  have fD : FpOk X pins H s.heap.objs.size := I.fpOk (Nat.le_refl _) (I.hok.fresh (Nat.le_refl _))
  dsimp only at hns₁ hsb₁ ⊢
  generalize hH2 : s.heap.push { cls := .type "list", dict := none, data := .seq ([] : List Value).toArray } = H2 at hns₁ hsb₁ I3 hD0 ⊢
  have hsz : H2.objs.size = s.heap.objs.size + 1 := by rw [← hH2, Heap.size_push]
  have hle : s.heap.objs.size ≤ H2.objs.size := by rw [hsz]; exact Nat.le_succ _
  have st3 : tn 0 H2 := T.keep _ _ _ st fun b _ o e => by rw [← hH2]; exact Heap.get?_push_of_some _ e
  generalize hD : s.heap.objs.size = D at hD0 hDf fD hsz ⊢
  have hCD : H2.objs.size ≠ D := by (first | lia | omega)
  have IC := inv_comp (t := s.toks + ([] : List (Str × Value)).length) (ex := D :: fp) S I3 (fun b hb => by
    rcases List.mem_cons.mp hb with rfl | hb
    · exact ⟨fD, by show _ < H2.objs.size; (first | lia | omega)⟩
    · exact ⟨hf b hb, Nat.lt_of_lt_of_le (hfpl b hb) hle⟩) hns₁ hsb₁
  have old : ∀ b u, H2.get? b = some u → h₁.get? b = some u := fun b u e => hsb₁.extBut b u (Nat.ne_of_lt (Heap.lt_size e)) (Heap.get?_push_of_some _ e)
  have st4 : tn 0 h₁ := T.keep _ _ _ st3 fun b _ o e => old b o e
  have hD1 := old _ _ hD0
  generalize hXC : cxComp X scope N H2.objs.size { s with heap := H2 } H (D :: fp) = XC at IC
  have fpC : ∀ {H' : Hp} {pl : List (Addr × Obj)}, (∀ p ∈ pl, p.1 ∉ fp) → (∀ b ∈ fp, H' b = none) → ∀ b ∈ fp, FpOk XC pl H' b := fun {H' pl} hpl hn b hb => by
    subst hXC
    obtain ⟨f0, f1, f2, f3, f4, f5⟩ := hf b hb
    refine ⟨hn b hb, Nat.ne_of_lt (Nat.lt_of_lt_of_le (hfpl b hb) hle), fun z => ?_, .inl (List.mem_cons_of_mem _ hb), fun x c e => ?_, fun p hp z => ?_⟩
    · rcases List.mem_cons.mp (I3.stkSub b z) with e | e
      · exact f1 e
      · exact f2 e
    · exact f4 x c (clOf_sub (env := X.env) scope.names [] (fun _ z => nomatch z) (x, c) (PySem.mem_of_lookup e))
    · have hp' : p ∈ pl := by simpa [cxComp] using hp
      exact hpl p hp' (by rw [z]; exact hb)
  have fpD : ∀ {H' : Hp}, H' D = none → FpOk XC [] H' D := fun {H'} hn => by
    subst hXC
    obtain ⟨f0, f1, f2, f3, f4, f5⟩ := fD
    refine ⟨hn, Ne.symm hCD, fun z => ?_, .inl List.mem_cons_self, fun x c e => ?_, fun p hp z => by simp [cxComp] at hp⟩
    · rcases List.mem_cons.mp (I3.stkSub D z) with e | e
      · exact f1 e
      · exact f2 e
    · exact f4 x c (clOf_sub (env := X.env) scope.names [] (fun _ z => nomatch z) (x, c) (PySem.mem_of_lookup e))
  have hgC : PG XC tg g := by rw [← hXC]; exact hg _ _ _ _
  have heC : PE (XC.wish (XEc X scope N H2.objs.size { s with heap := H2 } H (D :: fp) EK)) elt te := by rw [← hXC]; exact he _ _ _ _
  have e1 : XC.prog = X.prog := by rw [← hXC]; rfl
  have e2 : XC.w = X.w := by rw [← hXC]; rfl
  have e3 : XC.K = X.K := by rw [← hXC]; rfl
  have e4 : XC.A = X.A := by rw [← hXC]; rfl
  have e5 : XC.calm = true := by rw [← hXC]; exact hc
  have e6 : XC.xe = fun _ _ => False := by rw [← hXC]; rfl
  have e7 : XC.env = compEnvC scope (clOf X.env scope.names []) H2.objs.size X.env := by rw [← hXC]; rfl
  have fin : ∀ (ys : List V) (its : List Value) (n : Nat) (H' : Hp) (s' : Shared), Inv XC [] (capσ σ cap k) H' s' → H' D = none → s'.heap.get? D = some { cls := .type "list", data := .seq its.toArray n } → Vals ys its → ys.length ≤ sizeLine →
      Q (.ref D) (upd H' D (.lst ys)) → RR (.ref D) H2.objs.size X.env.frame (.ok .next) s' := fun ys its n H' s' I' hn hd hv hz q => by
    obtain ⟨m', hm', _⟩ := I'.loc
    have hm'' : s'.heap.Ns H2.objs.size m' := by rw [e7] at hm'; exact hm'
    have hfree : H' H2.objs.size = none := by have := I'.free; rw [e7] at this; exact this
    have hos : s'.os = s.os := by have := I'.os; rw [← hXC] at this; exact this
    have hun : Un (frs X.stack) (D :: fp) H H' H2 s'.heap := by have := I'.base; rw [← hXC] at this; exact this
    have hok : HOk X.prog X.w H' s'.heap := by have := I'.hok; rw [e1, e2] at this; exact this
    have IP : Inv X pins σ H' s' := I3.call' (ch := D :: fp) hos hun hok I'.bare (fun b hb => by
      have hb' : FpOk X pins H b := by
        rcases List.mem_cons.mp hb with rfl | hb
        · exact fD
        · exact hf b hb
      exact ⟨hb'.2.2.2.1, hb'.2.1, hb'.2.2.2.2.1, hb'.2.2.2.2.2⟩)
    have fC : FpOk X pins H' H2.objs.size := I3.fpOk (Nat.le_refl _) hfree
    refine hRR D H2.objs.size s' m' ⟨upd H' D (.lst ys), hm'', fun h' hs' => ⟨?_, Ne.symm fC.2.1, fC.2.2.2.2.1⟩, ⟨by rw [upd_ne hCD]; exact fC.1, fC.2⟩, q⟩
    have I4 : Inv X pins σ H' { s' with heap := h' } := IP.turned (t' := s'.toks) (it := H2.objs.size) (fun b o hb e => hs'.extBut b o hb e) hfree (Ne.symm (Ne.symm fC.2.1)) fC.2.2.2.1 fC.2.2.2.2.1 fC.2.2.2.2.2
    refine I4.track hn (hs'.extBut D _ (Ne.symm hCD) hd) hv hz ?_ fD.2.1 fD.2.2.2.2.1 fD.2.2.2.2.2
    have := I.sz
    (first | lia | omega)
  have away : ∀ v s', XEc X scope N H2.objs.size { s with heap := H2 } H (D :: fp) EK v s' → Away X pins σ H2.objs.size EK v s' := fun v s' ⟨pl, σ1, H1, s1, I1, hcx⟩ => by
    rw [hXC] at I1
    obtain ⟨m', hm', _⟩ := I1.loc
    have hm'' : s1.heap.Ns H2.objs.size m' := by rw [e7] at hm'; exact hm'
    have hfree : H1 H2.objs.size = none := by have := I1.free; rw [e7] at this; exact this
    have hos : s1.os = s.os := by have := I1.os; rw [← hXC] at this; exact this
    have hun : Un (frs X.stack) (D :: fp) H H1 H2 s1.heap := by have := I1.base; rw [← hXC] at this; exact this
    have hok : HOk X.prog X.w H1 s1.heap := by have := I1.hok; rw [e1, e2] at this; exact this
    have IP : Inv X pins σ H1 s1 := I3.call' (ch := D :: fp) hos hun hok I1.bare (fun b hb => by
      have hb' : FpOk X pins H b := by
        rcases List.mem_cons.mp hb with rfl | hb
        · exact fD
        · exact hf b hb
      exact ⟨hb'.2.2.2.1, hb'.2.1, hb'.2.2.2.2.1, hb'.2.2.2.2.2⟩)
    have f0 := I3.fpOk (Nat.le_refl _) (I3.hok.fresh (Nat.le_refl _))
    refine ⟨H1, s1, m', IP, hm'', hfree, fun z => ?_, I3.sz, hcx⟩
    rcases List.mem_cons.mp (I3.stkSub _ z) with e | e
    · exact f0.2.1 e
    · exact f0.2.2.1 e
  have loop : ∀ s₄ : Shared, s₄ = { s with heap := h₁, toks := s.toks + ([] : List (Str × Value)).length } →
      codeAny (model X.prog X.w) X.A (.compLoop (.ListComp elt [⟨tg, iter, [], 0⟩] scope pos) 0 (.ref it) (.ref D) (compEnvC scope (clOf X.env scope.names []) H2.objs.size X.env)) (RR (.ref D) H2.objs.size X.env.frame) s₄ := by
    rintro s₄ rfl
    obtain ⟨m0, w0⟩ := w0
    refine compLoop_anyX (fun n s' => ∃ i ys its n' H', Inv XC [] (capσ σ cap k) H' s' ∧ tn i s'.heap ∧ (∀ b ∈ fp, H' b = none) ∧ H' D = none ∧ s'.heap.get? D = some { cls := .type "list", data := .seq its.toArray n' } ∧ Vals ys its ∧ ys.length ≤ sizeLine ∧ W i n ys H') ?_ m0
      ⟨0, [], [], _, H, IC, st4, fun b hb => (hf b hb).1, fD.1, hD1, .nil, Nat.zero_le _, w0⟩
    rintro n s5 ⟨i, ys, its, n', H5, I5, st5, fr5, hn5, hd5, hv5, hz5, w5⟩
    have IP5 : Inv XC [(D, { cls := .type "list", data := .seq its.toArray n' })] (capσ σ cap k) H5 s5 := I5.pins_of fun p hp => by
      have ep : p = (D, { cls := .type "list", data := .seq its.toArray n' }) := by simpa using hp
      subst ep
      obtain ⟨f0, f1, f2, _⟩ := fpD hn5
      exact ⟨hd5, f0, f1, f2, fun v z => by cases z⟩
    have nofp : ∀ p ∈ [(D, ({ cls := .type "list", data := .seq its.toArray n' } : Obj))], p.1 ∉ fp := fun p hp => by
      have ep : p = (D, { cls := .type "list", data := .seq its.toArray n' }) := by simpa using hp
      subst ep
      exact hDf
    rcases turn i n ys H5 w5 with ⟨stop, qn⟩ | ⟨go, hlen, Nx, hNx, step⟩
    · have hd := T.done XC e1 e2 e3 e5 i _ s5 _ H5 (fun _ _ => False) IP5 (fpC nofp fr5) st5 stop
      rw [e4] at hd
      refine thn hd fun r s6 ⟨hr, I6⟩ => ?_
      subst hr
      have p6 := I6.pin (D, { cls := .type "list", data := .seq its.toArray n' }) (List.mem_append_right _ (by simp))
      exact fin ys its n' H5 s6 (I6.pins_of fun p hp => nomatch hp) hn5 p6.1 hv5 hz5 (qn D hn5)
    · have hi := T.item XC e1 e2 e3 e5 i _ s5 _ H5 (fun _ _ => False) IP5 (fpC nofp fr5) st5 go
      rw [e4] at hi
      refine thn hi fun r s6 ⟨u, hr, h6⟩ => ?_
      subst hr
      refine thn h6 fun _ s7 ⟨x, H7, I7, r7, y7, st7, fr7⟩ => ?_
      have p7 := I7.pin (D, { cls := .type "list", data := .seq its.toArray n' }) (List.mem_append_right _ (by simp))
      have IP7 := I7.pinned (fpC nofp fr7) (T.obj _ _ st7)
      have hg7 := hgC _ s7 _ H7 x u _ IP7 r7 (step x H7 y7)
      rw [e1, e2, e4, e6, e7] at hg7
      refine thn hg7 fun _ s8 ⟨σ8, H8, I8, q8⟩ => ?_
      have he8 := heC _ s8 σ8 H8 _ (I8.wish _) q8.2
      have w1 : ∀ Z, (XC.wish Z).prog = X.prog := fun _ => e1
      have w2 : ∀ Z, (XC.wish Z).w = X.w := fun _ => e2
      have w4 : ∀ Z, (XC.wish Z).A = X.A := fun _ => e4
      have w7 : ∀ Z, (XC.wish Z).env = compEnvC scope (clOf X.env scope.names []) H2.objs.size X.env := fun _ => e7
      rw [w1, w2, w4, w7] at he8
      refine wpAny_mono he8 (fun v s9 ⟨y, H9, I9w, r9, q9⟩ => ?_) fun v s9 hx => hRX D _ _ s9 v (away v s9 hx)
      have I9 := I9w.unwish
      obtain ⟨m', hm', w9⟩ := hNx y H9 q9
      have p9 := I9.pin (D, { cls := .type "list", data := .seq its.toArray n' }) (List.mem_append_right _ (List.mem_append_left _ (by simp)))
      have st9 : tn (i + 1) s9.heap := T.keep _ _ _ st7 fun b hb o e => (I9.pin (b, o) (List.mem_append_right _ (List.mem_append_right _ (mem_pinsAt hb e)))).1
      have fr9 : ∀ b ∈ fp, H9 b = none := fun b hb => by
        obtain ⟨o, e, d⟩ := T.obj _ _ st7 b hb
        exact (I9.pin (b, o) (List.mem_append_right _ (List.mem_append_right _ (mem_pinsAt hb e)))).2.1
      have hlv := hv5.length
      refine call_meets F.slot_list_append ⟨_, p9.1, rfl⟩ F.entry_list_append (F.args_list_append_2 _ _) (PySem.list_append D its.toArray n' v (by rw [List.size_toArray]; (first | lia | omega))) ⟨p9.1, ?_⟩
      have q := PySem.IsL.update p9.1 (·.push v)
      have eo : (its.toArray.push v) = (its ++ [v]).toArray := by simp
      rw [eo] at q
      have I9' : Inv XC [] (capσ σ cap k) H9 s9 := (I9.pins_of (pins' := []) fun p hp => nomatch hp).weak (by
        have a := I9.len
        have b := IC.len
        rw [b, a]) (fun j z hz => by
          have hj : j < cap.length := by
            by_cases hj : j < cap.length
            · exact hj
            · unfold capσ at hz
              rw [List.getElem?_append_right (by simpa using hj), List.getElem?_replicate] at hz
              split at hz <;> cases hz
          have q := congrArg (fun l => l[j]?) q8.1
          simp only [List.getElem?_take_of_lt hj] at q
          rw [q]
          exact hz)
      refine ⟨m', hm', i + 1, ys ++ [y], its ++ [v], _, H9, I9'.turned (it := D) (fun b o hb e => (Heap.get?_update_other s9.heap _ (Ne.symm hb)).trans e) p9.2.1 p9.2.2.1 (fpD p9.2.1).2.2.2.1 (fpD p9.2.1).2.2.2.2.1 (fun p hp => by rw [← hXC] at hp; simp [cxComp] at hp), ?_, fr9, p9.2.1, q, hv5.append (.cons r9 .nil), ?_, w9⟩
      · exact T.keep _ _ _ st9 fun b hb o e => (Heap.get?_update_other s9.heap _ (by rintro rfl; exact hDf hb)).trans e
      · rw [List.length_append, List.length_singleton]; (first | lia | omega)
  exact codeAny_compStart_list (loop _ rfl) (T.self _ 0 _ _ _ st4 (loop _ rfl))
theorem ps_setCompX {i : Nat} {x : Str} {pos' spos : Pos} {EK : XK} (hN : X.N.Nodup) (hi' : X.N[i]? = some x) (hx : Loc X.env.scope x) (S : CompScope X scope N cap k) (hc : X.calm = true) (O : Own X) (hxe : ∀ e s', XeL X EK e s' → X.xe e s') (hi : PI X tg iter wi)
    (hg : ∀ C s₀ H₀ ex, PG (cxComp X scope N C s₀ H₀ ex) tg g) (he : ∀ C s₀ H₀ ex, PE ((cxComp X scope N C s₀ H₀ ex).wish (XEc X scope N C s₀ H₀ ex EK)) elt te)
    (hsw : swapsWith (.ListComp elt [⟨tg, iter, [], 0⟩] scope pos) (some (.Name x pos')) spos.line X.env = pure true := by rfl)
    (hs : ∀ x, foldedSetIterable iter X.env x = pure x := by intro _; rfl) (hf : X.fn x = true ∨ X.env.scope.names.lookup x = some .local := by first | exact .inl rfl | exact .inr rfl | assumption) :
    PS X (.Assign [.Name x pos'] (.ListComp elt [⟨tg, iter, [], 0⟩] scope pos) spos) (tAsg (tComp wi cap k g te) (gName i)) := by
  intro pins s σ H D I h
  rw [exec_Assign_Name_used _ _ _ _ hsw]
  refine wpAny_bind (wpAny_standAt (wpAny_bind ?_))
  show wpAny _ X.A (do let _ ← comprehension (.ListComp elt [⟨tg, iter, [], 0⟩] scope pos) scope X.env _ (newList []) false (eval iter X.env) (some (assign (.Name x pos') X.env))) _ _ s
  refine wpAny_bind (wpAny_mono (comprehension_freeX (use := some (assign (.Name x pos') X.env)) (Q := fun _ s' => SP X pins D .next s') rfl hs (closureFor_eq fun x hx hf => I.ok.has x.1 (S.free x hx hf)) S.kind S.loc
    (thn (hi pins s σ H _ I h) fun xv s1 h1 => thn h1 fun itv s2 h2 => ?_)) (fun _ s' hq => wpAny_pure (wpAny_pure hq)) fun _ _ e => e)
  obtain ⟨it, fp, tn, J, H2, e, I2, T, st2, f2, W, w0, turn⟩ := h2
  subst e
  refine comp_blockX (EK := EK) (Q := fun v H' => D.nx (σ.set i (some v)) H') (RR := fun acc C fr => cPostX (model X.prog X.w) X.A X.xe (some (assign (.Name x pos') X.env)) (fun _ s' => SP X pins D .next s') acc C fr) S hc hg he I2 T st2 f2 W w0 turn ?_ fun DD C cl s' v hA => comp_leaves O hxe hA
  rintro DD C s' m' ⟨H', hn, hk, fC, q⟩
  obtain ⟨IP, hL, hcl⟩ := hk s'.heap ⟨rfl, fun _ _ => rfl⟩
  show wpAny _ X.A (assign (.Name x pos') X.env (.ref DD)) _ _ s'
  refine wpAny_assign_Name (store_ok2 (v := .ref DD) IP hN hi' hx rfl (fun s2 I2 ⟨a, hsb, ha⟩ => ?_) hf)
  have hCa : C ≠ a := by
    rcases ha with z | z
    · rw [z]; exact Ne.symm hL
    · exact Ne.symm (hcl x a z)
  refine ⟨m', hn.sameBut hsb hCa, fun h' hs' => ?_⟩
  exact ⟨_, H', I2.turned (t' := s2.toks) (it := C) (fun b o hb e => hs'.extBut b o hb e) fC.1 fC.2.1 fC.2.2.2.1 fC.2.2.2.2.1 fC.2.2.2.2.2, q⟩
end
theorem pe_callP {Y : Cx} {k : Nat} {x : Str} {ps : List Str} {sp : Sp} {p pos : Pos} {e : Expr} {es : List Expr} {t : TA} {E : XK} (hx : Passes (CXE Y.prog Y.w) Y E) (C : CalleeX Y.prog Y.w Y.K Y.mg Y.base k x ps sp) (hr : Room k Y.A) (hg : Gl Y x) (ha : PA Y (e :: es) t)
    (hdb : (x == ("__debug__" : Str)) = false := by decide) (he : starEach (e :: es) Y.env = (false, eval e Y.env) :: starEach es Y.env := by rfl) (hpl : (backTo pos (starEach es Y.env)).any (·.1) = false := by rfl) :
    PE Y (.Call (.Name x p) (e :: es) [] pos) (tCall sp [] E t) := by
  obtain ⟨f, fd, F, hm, hk, hb⟩ := C.ex
  exact pe_call F hr hg hm hk hb .nil hx ha hdb he hpl
theorem pass_c {X : Cx} {scope : Scope} {N : List Str} {C : Addr} {s₀ : Shared} {H₀ : Hp} {ex : List Addr} {EK : XK} : Passes (CXE X.prog X.w) ((cxComp X scope N C s₀ H₀ ex).wish (XEc X scope N C s₀ H₀ ex EK)) EK := fun pins σ H s e s' I h => ⟨pins, σ, H, s, I.unwish, h⟩
theorem DefAt.both {P : Program} {w : World} {K : PySem.W.Frag} {mg : Str → Option Value} {base : Heap} {x : Str} {st : Stmt} {N ps : List Str} {k : Nat} {sp : Sp} (D : DefAt K mg x st ps) (S : FnScope N ps (defScope st)) (len : ∀ vs H Q E, sp vs H Q E → vs.length = ps.length)
    (hbody : ∀ (f : Addr) (cdv : Value) (A : Around) (outer : List Env) (s : Shared) (H : Hp) (vs : List V) (Q : VK) (E : XK), Room k (A.deeper (envOfC x (defScope st) s.heap.objs.size f cdv)) → sp vs H Q E →
      ∃ t, PSs (cxOf (CXE P w) P w K mg base N x (defScope st) f cdv A outer s H E) (defBody st) t ∧ t { nx := fun _ H' => Q .non H', rt := Q } (start N vs) H) : CalleeX P w K mg base (k + 1) x ps sp ∧ Callee P w K mg base (k + 1) x ps (fun vs H Q _ => sp vs H Q fun _ _ _ => False) := by
  obtain ⟨f, fd, F, hm, hb⟩ := D.ex
  obtain ⟨oc, od, kV, doc, pm, an, cdv, ct, osl, rfl, lk, hcd⟩ := F.ex
  have G := fn_of (P := P) (w := w) (mg := mg) (base := base) (CX := CXE P w) (sp := sp) lk hcd S len fun A outer s H vs Q E hr hsp => hbody f cdv A outer s H vs Q E hr hsp
  refine ⟨⟨f, _, G, hm, F.kp, hb⟩, f, _, ⟨fun vs H Q E h => len _ _ _ _ h, fun A outer s H args us vs Q E hr he hbd hv hs => codeAny_mono (G.run A outer s H args us vs Q (fun _ _ _ => False) hr he hbd hv hs) fun r s' q => ?_⟩, hm, F.kp, hb, oc, od, osl, lk⟩
  cases r with
  | ok fl => cases fl <;> exact q
  | error e =>
    obtain ⟨_, _, _, _, _, _, _, _, _, hE⟩ := q
    exact hE.elim
end L2
namespace X1
open PySem L2
theorem sc_q00 : FnScope ["change"] ["change"] (defScope s_q00) := ⟨rfl, rfl, rfl, by decide +kernel, rfl, by decide +kernel, by decide +kernel⟩
theorem sc_q01 : FnScope ["line", "parts", "numbers"] ["line"] (defScope s_q01) := ⟨rfl, rfl, rfl, by decide +kernel, rfl, by decide +kernel, by decide +kernel⟩
theorem sc_q02 : FnScope ["places"] ["places"] (defScope s_q02) := ⟨rfl, rfl, rfl, by decide +kernel, rfl, by decide +kernel, by decide +kernel⟩
theorem sc_q03 : FnScope ["number", "scale", "rest", "pieces"] ["number"] (defScope s_q03) := ⟨rfl, rfl, rfl, by decide +kernel, rfl, by decide +kernel, by decide +kernel⟩
theorem sc_q04 : FnScope ["text", "figures", "size"] ["text"] (defScope s_q04) := ⟨rfl, rfl, rfl, by decide +kernel, rfl, by decide +kernel, by decide +kernel⟩
theorem sc_q05 : FnScope ["text"] ["text"] (defScope s_q05) := ⟨rfl, rfl, rfl, by decide +kernel, rfl, by decide +kernel, by decide +kernel⟩
theorem sc_q06 : FnScope ["figures", "scale", "size", "whole_pieces", "start"] ["figures"] (defScope s_q06) := ⟨rfl, rfl, rfl, by decide +kernel, rfl, by decide +kernel, by decide +kernel⟩
theorem sc_q07 : FnScope ["_law_found"] ["_law_found"] (defScope s_q07) := ⟨rfl, rfl, rfl, by decide +kernel, rfl, by decide +kernel, by decide +kernel⟩
theorem sc_q08 : FnScope ["_law_cell", "_law_k", "_law_high", "_law_wide", "_law_side", "_law_many", "_law_one", "_law_way", "_law_two"] ["_law_cell", "_law_k", "_law_high", "_law_wide"] (defScope s_q08) := ⟨rfl, rfl, rfl, by decide +kernel, rfl, by decide +kernel, by decide +kernel⟩
theorem sc_q09 : FnScope ["_law_found", "_law_high", "_law_wide", "_law_change", "_law_number", "_law_many", "_law_place"] ["_law_found", "_law_high", "_law_wide"] (defScope s_q09) := ⟨rfl, rfl, rfl, by decide +kernel, rfl, by decide +kernel, by decide +kernel⟩
theorem sc_q0a : FnScope ["_law_line", "e"] ["_law_line"] (defScope s_q0a) := ⟨rfl, rfl, rfl, by decide +kernel, rfl, by decide +kernel, by decide +kernel⟩
theorem sc_q0b : FnScope ["_law_k", "_law_bad"] ["_law_k"] (defScope s_q0b) := ⟨rfl, rfl, rfl, by decide +kernel, rfl, by decide +kernel, by decide +kernel⟩
theorem sc_q0c : FnScope ["_law_script", "_law_k", "_law_cell", "_law_change", "_law_far", "_law_line", "_law_number", "_law_found", "_law_back"] ["_law_script"] (defScope s_q0c) := ⟨rfl, rfl, rfl, by decide +kernel, rfl, by decide +kernel, by decide +kernel⟩
def IsCh (H : Hp) (t : Addr) (c : Ch) : Prop := H t = some (.tup (chV c))
def IsChs (H : Hp) (l : Addr) (ts : List Addr) (cs : List Ch) : Prop := H l = some (.lst (ts.map V.ref)) ∧ Paired (IsCh H) ts cs
theorem pimp {α β : Type} {F G : α → β → Prop} : ∀ {l : List α} {l' : List β}, Paired F l l' → (∀ a b, F a b → G a b) → Paired G l l'
  | _, _, .nil, _ => .nil
  | _, _, .cons h t, f => .cons (f _ _ h) (pimp t f)
theorem IsChs.same {H H' : Hp} {l : Addr} {ts : List Addr} {cs : List Ch} (h : IsChs H l ts cs) (s : Same H H') : IsChs H' l ts cs :=
  ⟨s _ _ h.1, pimp h.2 fun _ _ e => s _ _ e⟩
theorem pget {α β : Type} {F : α → β → Prop} : ∀ {l : List α} {l' : List β} {i : Nat} {a : α}, Paired F l l' → l[i]? = some a → ∃ b, l'[i]? = some b ∧ F a b
  | _, _, _, _, .nil, e => by simp at e
  | _, _, 0, _, .cons h _, e => by simp at e; subst e; exact ⟨_, rfl, h⟩
  | _, _, i + 1, a, .cons _ t, e => by
    obtain ⟨b, h1, h2⟩ := pget (i := i) (a := a) t (by simpa using e)
    exact ⟨b, by simpa using h1, h2⟩
theorem mref {rs : List Addr} {i : Nat} {y : V} (h : (rs.map V.ref)[i]? = some y) : ∃ r, rs[i]? = some r ∧ y = .ref r := by
  rw [List.getElem?_map] at h
  cases e : rs[i]? with
  | none => rw [e] at h; cases h
  | some r => rw [e] at h; exact ⟨r, rfl, (Option.some.inj h).symm⟩
theorem mint {xs : List Int} {i : Nat} {y : V} (h : (xs.map V.int)[i]? = some y) : ∃ r, xs[i]? = some r ∧ y = .int r := by
  rw [List.getElem?_map] at h
  cases e : xs[i]? with
  | none => rw [e] at h; cases h
  | some r => rw [e] at h; exact ⟨r, rfl, (Option.some.inj h).symm⟩
theorem iget {xs : List Int} {i : Nat} {x : Int} (h : xs[i]? = some x) : (xs.map V.int)[i]? = some (.int x) := by rw [List.getElem?_map, h]; rfl
inductive RowAt (H : Hp) (rs : List Addr) (T : Tb) (i n : Nat) : Prop
  | mk (r : Addr) (_ : rs[i]? = some r) (_ : T[i]? = some (T.getD i [])) (_ : IsRow H r (T.getD i [])) (_ : (T.getD i []).length = n) : RowAt H rs T i n
theorem _root_.L2.TabAt.at {H : Hp} {a : Addr} {rs : List Addr} {T : Tb} {m n i : Nat} (t : TabAt H a rs T) (hr : Rect m n T) (hi : i < m) : RowAt H rs T i n := by
  have hl : i < T.length := by rw [hr.1]; exact hi
  have e : T[i]? = some (T.getD i []) := by simp [hl]
  obtain ⟨r, h1, h2⟩ := t.tab.2.get e
  exact ⟨r, h1, e, h2, hr.row hi⟩
theorem _root_.L2.TabAt.len {H : Hp} {a : Addr} {rs : List Addr} {T : Tb} {m n : Nat} (t : TabAt H a rs T) (hr : Rect m n T) : rs.length = m := by rw [t.tab.2.length, hr.1]
theorem getD_some {row : List Int} {j n : Nat} (hl : row.length = n) (hj : j < n) : row[j]? = some (row.getD j 0) := by
  have : j < row.length := by (first | lia | omega)
  simp [this]
section
variable {P : Program} {w : World} {K : PySem.W.Frag} {mg : Str → Option Value} {base : Heap}
end
end X1
namespace X1
open PySem L2
theorem sd_col (s : Bool) : decide (V.str (sd s) = V.str "column") = !s := by
  cases s
  · exact decide_eq_true rfl
  · exact decide_eq_false (by decide +kernel)
theorem sd_in (s : Bool) : inV (V.str (sd s)) [V.str "row", V.str "column"] = true := by cases s <;> decide +kernel
def Ch.word : Ch → Str
  | .add _ _ _ _ => "add"
  | .swap _ _ _ => "swap"
  | .turn _ _ => "turn"
def Ch.parts : Ch → List Int
  | .add _ i j q => [i, j, q]
  | .swap _ i j => [i, j]
  | .turn _ i => [i]
theorem chV_0 (c : Ch) : atI (chV c) 0 = some (.str c.word) := by cases c <;> rfl
theorem cut_parts (c : Ch) : cutV (chV c) (some 2) none = c.parts.map V.int := by cases c <;> rfl
theorem ne_swap_add : ¬ V.str "swap" = V.str "add" := by decide +kernel
theorem ne_turn_add : ¬ V.str "turn" = V.str "add" := by decide +kernel
section
variable {P : Program} {w : World} {K : PySem.W.Frag} {mg : Str → Option Value} {base : Heap}
end
end X1
namespace X1
open PySem L2
theorem iteB {b : Bool} {A B : Prop} (hb : b = true) (h : A) : if b = true then A else B := by rw [hb]; exact iteT h
theorem iteB0 {b : Bool} {A B : Prop} (hb : b = false) (h : B) : if b = true then A else B := by rw [hb]; exact iteF h
theorem cut_all {xs : List V} (h : xs.length ≤ 500) : cutV xs none (some 500) = xs := by
  have e : HT.sIx xs.length xs.length (some 500) = xs.length := by
    have := HT.sIx_nat xs.length xs.length 500
    rw [show ((500 : Nat) : Int) = (500 : Int) from rfl] at this
    rw [this]; (first | lia | omega)
  unfold cutV
  rw [e, HT.sIx_none]
  simp
def Big (c : Nat) (T : Tb) : Prop := ∀ r ∈ T, ∀ x ∈ r, x.natAbs ≤ c
theorem Big.mono {c d : Nat} {T : Tb} (h : Big c T) (hd : c ≤ d) : Big d T := fun r hr x hx => Nat.le_trans (h r hr x hx) hd
theorem Big.set {c : Nat} {T : Tb} {row : List Int} (h : Big c T) (hr : ∀ x ∈ row, x.natAbs ≤ c) (i : Nat) : Big c (T.set i row) := fun r hm => by
  rcases List.mem_or_eq_of_mem_set hm with z | z
  · exact h r z
  · rw [z]; exact hr
theorem getD_mem {T : Tb} {i : Nat} (h : i < T.length) : T.getD i [] ∈ T := by
  have : T[i]? = some (T.getD i []) := by simp [h]
  exact List.mem_of_getElem? this
section
variable {P : Program} {w : World} {K : PySem.W.Frag} {mg : Str → Option Value} {base : Heap}
inductive SpWhole (vs : List V) (H : Hp) (Q : VK) : Prop
  | mk (i : Int) (_ : vs = [.int i]) (_ : Q (.bl true) H) : SpWhole vs H Q
def spWhole : Sp := fun vs H Q _ => SpWhole vs H Q
theorem ok_q07 (D : DefAt K mg "_law_whole" s_q07 ["_law_found"]) (T : Bt mg) : Callee P w K mg base 1 "_law_whole" ["_law_found"] spWhole := by
  refine D.ok (k := 0) sc_q07 (fun vs H Q E h => ?_) (fun f cdv A outer s H vs Q E hr h => ?_)
  · obtain ⟨_, rfl, _⟩ := h
    rfl
  · obtain ⟨i, rfl, k⟩ := h
    refine ⟨_, (pss_one (ps_ret (pe_and (pe_callB call_isi rfl T.isinstance bt_isinstance (pa_cons (pv 0) (pa_cons (pe_bltn (v := .ty "int") rfl T.int bt_int rfl) pa_nil))) (pe_one (pe_not (pe_callB call_isi rfl T.isinstance bt_isinstance (pa_cons (pv 0) (pa_cons (pe_bltn (v := .ty "bool") rfl T.bool bt_bool rfl) pa_nil)))))))), ?_⟩
    refine ⟨_, rfl, _, _, _, rfl, .int i, by simp, _, rfl, iteB (by decide) ?_⟩
    exact ⟨_, rfl, _, _, _, rfl, .int i, by simp, _, rfl, k⟩
end
end X1
namespace X1
open PySem L2
theorem chV_1 (c : Ch) : atI (chV c) 1 = some (.str (sd c.side)) := by cases c <;> rfl
theorem nd_get : (["add", "swap", "turn"] : List Str).Nodup := by decide +kernel
theorem len_ge3 (c : Ch) : ¬ (((chV c).length : Nat) : Int) < 3 := by
  cases c
  · show ¬ (5 : Int) < 3; decide
  · show ¬ (4 : Int) < 3; decide
  · show ¬ (3 : Int) < 3; decide
theorem word_len (c : Ch) : V.int (if c.word = ("add" : Str) then 5 else if c.word = ("swap" : Str) then 4 else if c.word = ("turn" : Str) then 3 else 0) = V.int (((chV c).length : Nat) : Int) := by
  cases c
  · show V.int (if ("add" : Str) = ("add" : Str) then 5 else if ("add" : Str) = ("swap" : Str) then 4 else if ("add" : Str) = ("turn" : Str) then 3 else 0) = V.int 5; decide +kernel
  · show V.int (if ("swap" : Str) = ("add" : Str) then 5 else if ("swap" : Str) = ("swap" : Str) then 4 else if ("swap" : Str) = ("turn" : Str) then 3 else 0) = V.int 4; decide +kernel
  · show V.int (if ("turn" : Str) = ("add" : Str) then 5 else if ("turn" : Str) = ("swap" : Str) then 4 else if ("turn" : Str) = ("turn" : Str) then 3 else 0) = V.int 3; decide +kernel
theorem nw2 (c : Ch) : ¬ (HT.sIx (chV c).length 0 (some 2) = 0 ∧ HT.sIx (chV c).length (chV c).length none = (chV c).length) := by
  cases c <;> exact fun z => nomatch z.1
theorem nw24 (c : Ch) : ¬ (HT.sIx (chV c).length 0 (some 2) = 0 ∧ HT.sIx (chV c).length (chV c).length (some 4) = (chV c).length) := by
  cases c <;> exact fun z => nomatch z.1
def Ch.places : Ch → List Nat
  | .add _ i j _ => [i, j]
  | .swap _ i j => [i, j]
  | .turn _ i => [i]
theorem cut_places (c : Ch) : cutV (chV c) (some 2) (some 4) = c.places.map fun (i : Nat) => V.int (i : Int) := by cases c <;> rfl
theorem places_ok {m n : Nat} {c : Ch} (h : c.ok m n) : ∀ i ∈ c.places, i < dim c.side m n := by
  cases c with
  | add s i j q => intro k hk; simp only [Ch.places, List.mem_cons, List.not_mem_nil, or_false] at hk; rcases hk with rfl | rfl; exact h.1; exact h.2.1
  | swap s i j => intro k hk; simp only [Ch.places, List.mem_cons, List.not_mem_nil, or_false] at hk; rcases hk with rfl | rfl; exact h.1; exact h.2.1
  | turn s i => intro k hk; simp only [Ch.places, List.mem_cons, List.not_mem_nil, or_false] at hk; subst hk; exact h
section
variable {P : Program} {w : World} {K : PySem.W.Frag} {mg : Str → Option Value} {base : Heap}
inductive SpAreC (vs : List V) (H : Hp) (Q : VK) : Prop
  | mk (l : Addr) (ts : List Addr) (cs : List Ch) (m n : Nat) (_ : vs = [.ref l, .int m, .int n]) (_ : IsChs H l ts cs) (_ : (∀ c ∈ cs, c.ok m n)) (_ : ∀ H', Same H H' → Q (.bl true) H') : SpAreC vs H Q
def spAreC : Sp := fun vs H Q _ => SpAreC vs H Q
set_option maxHeartbeats 4000000 in
theorem ok_q09 (D : DefAt K mg "_law_are_changes" s_q09 ["_law_found", "_law_high", "_law_wide"]) (T : Bt mg) (C_q07 : Callee P w K mg base 1 "_law_whole" ["_law_found"] spWhole) : Callee P w K mg base 2 "_law_are_changes" ["_law_found", "_law_high", "_law_wide"] spAreC := by
  refine D.ok (k := 1) sc_q09 (fun vs H Q E h => ?_) (fun f cdv A outer s H vs Q E hr h => ?_)
  · obtain ⟨_, _, _, _, _, rfl, _⟩ := h
    rfl
  · obtain ⟨l, ts, cs, m, n, rfl, hcs, hok, k⟩ := h
    refine ⟨_, (pss_cons (ps_if (pt_not (pt_val (pe_callB call_isi rfl T.isinstance bt_isinstance (pa_cons (pv 0) (pa_cons (pe_bltn (v := .ty "list") rfl T.list bt_list rfl) pa_nil))))) (pss_one (ps_ret pe_bl)) pss_nil)
        (pss_cons (ps_for PassesOwn.never rfl (pi_list (pv 0)) (pg_name (i := 3) sc_q09.nd rfl (Or.inl rfl)) (pss_cons (ps_if (PW.pt (pw_or (pt_not (pt_val (pe_callB call_isi rfl T.isinstance bt_isinstance (pa_cons (pv 3) (pa_cons (pe_bltn (v := .ty "tuple") rfl T.tuple bt_tuple rfl) pa_nil))))) (pw_or (pt_cmpR op_lt (pe_callB call_len_seq rfl T.len bt_len (pa_cons (pv 3) pa_nil)) pe_int (nomark _)) (pw_or1 (pt_not (pt_val (pe_callB call_isi rfl T.isinstance bt_isinstance (pa_cons (pe_ix ix_tup (pv 3) pe_int (fun _ _ => rfl)) (pa_cons (pe_bltn (v := .ty "str") rfl T.str bt_str rfl) pa_nil))))))))) (pss_one (ps_ret pe_bl)) pss_nil)
        (pss_cons (ps_if (PW.pt (pw_or (pt_not (pt_val (pe_callB call_isi rfl T.isinstance bt_isinstance (pa_cons (pe_ix ix_tup (pv 3) pe_int (fun _ _ => rfl)) (pa_cons (pe_bltn (v := .ty "str") rfl T.str bt_str rfl) pa_nil))))) (pw_or1 (pt_cmpR op_notIn_seq (pe_ix ix_tup (pv 3) pe_int (fun _ _ => rfl)) (pe_lst (pa_cons pe_str (pa_cons pe_str pa_nil))) rfl)))) (pss_one (ps_ret pe_bl)) pss_nil)
        (pss_cons (ps_if (pt_cmpR op_ne (pe_dget3 (k1 := "add") (k2 := "swap") (k3 := "turn") (n1 := 5) (n2 := 4) (n3 := 3) (pd_lit nd_get) (pa_cons (pe_ix ix_tup (pv 3) pe_int (fun _ _ => rfl)) (pa_cons pe_int pa_nil)) ab_dict) (pe_callB call_len_seq rfl T.len bt_len (pa_cons (pv 3) pa_nil)) (nomark _)) (pss_one (ps_ret pe_bl)) pss_nil)
        (pss_cons (ps_for PassesOwn.never rfl (pi_tup (pe_slice sl_tup (pv 3) (po_some pe_int) po_none)) (pg_name (i := 4) sc_q09.nd rfl (Or.inl rfl)) (pss_one (ps_if (pt_not (pt_val (pe_callC C_q07 (hr.mono (by decide)) rfl (pa_cons (pv 4) pa_nil)))) (pss_one (ps_ret pe_bl)) pss_nil)))
        (pss_cons (ps_set (i := 5) sc_q09.nd rfl (Or.inl rfl) (pe_ix ix_list (pe_lst (pa_cons (pv 1) (pa_cons (pv 2) pa_nil))) (pe_callTy call_int1 rfl T.int bt_int (pa_cons (pe_cmpR op_eq (pe_ix ix_tup (pv 3) pe_int (fun _ _ => rfl)) pe_str (nomark _)) pa_nil)) (fun _ _ => rfl)))
        (pss_cons (ps_for PassesOwn.never rfl (pi_tup (pe_slice sl_tup (pv 3) (po_some pe_int) (po_some pe_int))) (pg_name (i := 6) sc_q09.nd rfl (Or.inl rfl)) (pss_one (ps_if (PW.pt (pw_or (pt_cmpR op_lt (pv 6) pe_int (nomark _)) (pw_or1 (pt_cmpR op_ge (pv 6) (pv 5) (nomark _))))) (pss_one (ps_ret pe_bl)) pss_nil)))
        (pss_one (ps_if (PW.pt (pw_and (pt_cmpR op_gt (pe_callB call_len_seq rfl T.len bt_len (pa_cons (pv 3) pa_nil)) pe_int (nomark _)) (pw_and1 (pt_cmpR op_eq (pe_ix ix_tup (pv 3) pe_int (fun _ _ => rfl)) (pe_ix ix_tup (pv 3) pe_int (fun _ _ => rfl)) (nomark _))))) (pss_one (ps_ret pe_bl)) pss_nil)))))))))
        (pss_one (ps_ret pe_bl)))), ?_⟩
    refine ⟨_, rfl, _, _, _, rfl, .lst hcs.1, by simp, _, rfl, iteB0 (by decide) ?_⟩
    refine ⟨_, rfl, l, rfl, ⟨_, SqL.of hcs.1⟩, for_list (K := K) (a := l) (xs := ts.map V.ref) (fun i σ H2 => Same H H2 ∧ ∃ v3 v4 v5 v6, σ = [some (.ref l), some (.int m), some (.int n), v3, v4, v5, v6]) ⟨Same.refl H, none, none, none, none, rfl⟩ (fun i σ H2 _ h => SqL.of (h.1 _ _ hcs.1)) ?_ ?_⟩
    · rintro i y σ H2 hy ⟨s2, v3, v4, v5, v6, rfl⟩
      obtain ⟨t, et, rfl⟩ := mref hy
      obtain ⟨c, ec, hc0⟩ := pget hcs.2 et
      have hco := hok c (List.mem_of_getElem? ec)
      have hc : H2 t = some (.tup (chV c)) := s2 _ _ hc0
      refine ⟨_, rfl, _, _, _, rfl, .tup hc, by simp, _, rfl, iteB0 (by decide) ⟨_, rfl, t, _, rfl, .inr (SqT.of hc), _, _, rfl, rfl, _, rfl, iteN (len_ge3 c) ⟨_, rfl, t, _, _, _, rfl, rfl, SqT.of hc, chV_0 c, _, _, _, rfl, .str _, by simp, _, rfl, iteB0 (by decide) ?_⟩⟩⟩
      refine ⟨_, rfl, t, _, _, _, rfl, rfl, SqT.of hc, chV_1 c, _, _, _, rfl, .str _, by simp, _, rfl, iteB0 (by decide) ⟨_, rfl, t, _, _, _, rfl, rfl, SqT.of hc, chV_1 c, by show 2 ≤ sizeLine; decide, fun p hp => ⟨p, _, rfl, .inl (SqL.of upd_same), rfl, by decide, _, rfl, iteB0 (by show (!inV _ _) = false; rw [sd_in]; rfl) ?_⟩⟩⟩
      have s3 : Same H2 (upd H2 p (.lst [V.str "row", V.str "column"])) := same_upd hp
      have hc3 := s3 _ _ hc
      have hs3 := s2.trans s3
      generalize hH3 : upd H2 p (.lst [V.str "row", V.str "column"]) = H3 at s3 hc3 hs3 ⊢
      refine ⟨_, rfl, t, _, _, _, rfl, rfl, SqT.of hc3, chV_0 c, _, _, rfl, _, rfl, t, _, rfl, .inr (SqT.of hc3), rfl, _, rfl, iteNS (word_len c) ?_⟩
      refine ⟨_, rfl, _, rfl, t, _, rfl, SqT.of hc3, nw2 c, fun p2 hp2 => ?_⟩
      rw [cut_parts]
      have s4 : Same H3 (upd H3 p2 (.tup (c.parts.map V.int))) := same_upd hp2
      refine ⟨p2, rfl, ⟨_, SqT.of upd_same⟩, for_tup (K := K) (a := p2) (xs := c.parts.map V.int) (fun i σ H4 => H4 = upd H3 p2 (.tup (c.parts.map V.int)) ∧ ∃ v4 v5 v6, σ = [some (.ref l), some (.int m), some (.int n), some (.ref t), v4, v5, v6]) ⟨rfl, _, _, _, rfl⟩ (fun i σ H4 _ h => by rw [h.1]; exact SqT.of upd_same) ?_ ?_⟩
      · rintro j z σ H4 hj ⟨rfl, v4, v5, v6, rfl⟩
        obtain ⟨u, eu, rfl⟩ := mint hj
        exact ⟨_, rfl, u, rfl, _, rfl, iteF ⟨rfl, _, _, _, rfl⟩⟩
      · rintro σ H4 ⟨hH4, v4, v5, v6, rfl⟩
        rw [← hH4] at s4
        have hc4 := s4 _ _ hc3
        have hs4 := hs3.trans s4
        clear hH4 s4
        refine ⟨_, rfl, _, rfl, by show 2 ≤ sizeLine; decide, fun pl hpl => ?_⟩
        have s5 : Same H4 (upd H4 pl (.lst [V.int (m : Nat), V.int (n : Nat)])) := same_upd hpl
        refine ⟨_, rfl, t, _, _, _, rfl, rfl, SqT.of (s5 _ _ hc4), chV_1 c, rfl, .inr ⟨_, rfl, pl, _, _, .int (dim c.side m n : Nat), rfl, rfl, SqL.of upd_same, ?_, ?_⟩⟩
        · rw [sd_col]
          cases c.side <;> rfl
        have hc5 := s5 _ _ hc4
        have hs5 := hs4.trans s5
        generalize hH5 : upd H4 pl (.lst [V.int (m : Nat), V.int (n : Nat)]) = H5 at s5 hc5 hs5 ⊢
        refine ⟨_, rfl, _, rfl, _, rfl, t, _, rfl, SqT.of hc5, nw24 c, fun p6 hp6 => ?_⟩
        rw [cut_places]
        have s6 : Same H5 (upd H5 p6 (.tup (c.places.map fun (i : Nat) => V.int (i : Int)))) := same_upd hp6
        have hpl2 := places_ok hco
        refine ⟨p6, rfl, ⟨_, SqT.of upd_same⟩, for_tup (K := K) (a := p6) (xs := c.places.map fun (i : Nat) => V.int (i : Int)) (fun i σ H6 => H6 = upd H5 p6 (.tup (c.places.map fun (i : Nat) => V.int (i : Int))) ∧ ∃ v4 v6, σ = [some (.ref l), some (.int m), some (.int n), some (.ref t), v4, some (.int (dim c.side m n : Nat)), v6]) ⟨rfl, _, _, rfl⟩ (fun i σ H6 _ h => by rw [h.1]; exact SqT.of upd_same) ?_ ?_⟩
        · rintro j z σ H6 hj ⟨rfl, v4, v6, rfl⟩
          rw [List.getElem?_map] at hj
          cases e : c.places[j]? with
          | none => rw [e] at hj; cases hj
          | some pl' =>
            rw [e] at hj
            cases hj
            have := hpl2 pl' (List.mem_of_getElem? e)
            refine ⟨_, rfl, _, _, rfl, rfl, _, rfl, iteN (by (first | lia | omega)) ⟨_, rfl, _, rfl, _, _, rfl, rfl, _, rfl, iteN (by (first | lia | omega)) ?_⟩⟩
            exact ⟨rfl, _, _, rfl⟩
        · rintro σ H6 ⟨hH6, v4, v6, rfl⟩
          rw [← hH6] at s6
          have hc6 := s6 _ _ hc5
          have hs6 := hs5.trans s6
          refine ⟨_, rfl, t, _, rfl, .inr (SqT.of hc6), _, _, rfl, rfl, _, rfl, ?_⟩
          cases c with
          | turn sd i => exact iteN (by show ¬ (3 : Int) < 3; decide) ⟨hs6, _, _, _, _, rfl⟩
          | swap sd i j =>
            refine iteP (by show (3 : Int) < 4; decide) ⟨_, rfl, t, _, _, _, rfl, rfl, SqT.of hc6, rfl, _, rfl, t, _, _, _, rfl, rfl, SqT.of hc6, rfl, rfl, _, rfl, iteN (v_ne ?_) ?_⟩
            · have := hco.2.2; (first | lia | omega)
            · exact ⟨hs6, _, _, _, _, rfl⟩
          | add sd i j q =>
            refine iteP (by show (3 : Int) < 5; decide) ⟨_, rfl, t, _, _, _, rfl, rfl, SqT.of hc6, rfl, _, rfl, t, _, _, _, rfl, rfl, SqT.of hc6, rfl, rfl, _, rfl, iteN (v_ne ?_) ?_⟩
            · have := hco.2.2; (first | lia | omega)
            · exact ⟨hs6, _, _, _, _, rfl⟩
    · rintro σ H2 ⟨s2, _⟩
      exact k H2 s2
end
end X1
namespace X1
open PySem L2
theorem two_ne {one r many : Int} (h0 : 0 ≤ one) (h1 : one < many) (r0 : 0 ≤ r) (r1 : r < many - 1) : (one + 1 + r) % many ≠ one ∧ 0 ≤ (one + 1 + r) % many ∧ (one + 1 + r) % many < many := by
  have hm : 0 < many := by (first | lia | omega)
  refine ⟨?_, Int.emod_nonneg _ (by (first | lia | omega)), Int.emod_lt_of_pos _ hm⟩
  by_cases hx : one + 1 + r < many
  · rw [Int.emod_eq_of_lt (by (first | lia | omega)) hx]; (first | lia | omega)
  · have e : one + 1 + r = (one + 1 + r - many) + many := by (first | lia | omega)
    rw [e, Int.add_emod_right, Int.emod_eq_of_lt (by (first | lia | omega)) (by (first | lia | omega))]
    (first | lia | omega)
def Ch.tiny : Ch → Prop
  | .add _ _ _ q => -2 ≤ q ∧ q ≤ 2
  | _ => True
section
variable {P : Program} {w : World} {K : PySem.W.Frag} {mg : Str → Option Value} {base : Heap}
inductive SpChOf (vs : List V) (H : Hp) (Q : VK) : Prop
  | mk (cell : Int) (k m n : Nat) (_ : vs = [.int cell, .int k, .int m, .int n]) (_ : 0 < m) (_ : 0 < n) (_ : ∀ (p : Addr) (c : Ch) (H' : Hp), Same H H' → IsCh H' p c → c.ok m n → c.tiny → Q (.ref p) H') : SpChOf vs H Q
def spChOf : Sp := fun vs H Q _ => SpChOf vs H Q
theorem at_side (x : Int) : ∃ s : Bool, atI [V.str "row", V.str "column"] (x % 2) = some (.str (sd s)) := by
  have h1 : 0 ≤ x % 2 := Int.emod_nonneg _ (by decide)
  have h2 : x % 2 < 2 := Int.emod_lt_of_pos _ (by decide)
  have : x % 2 = 0 ∨ x % 2 = 1 := by (first | lia | omega)
  rcases this with h | h
  · exact ⟨true, by rw [h]; rfl⟩
  · exact ⟨false, by rw [h]; rfl⟩
theorem ok_q08 (D : DefAt K mg "_law_change_of" s_q08 ["_law_cell", "_law_k", "_law_high", "_law_wide"]) (T : Bt mg) : Callee P w K mg base 1 "_law_change_of" ["_law_cell", "_law_k", "_law_high", "_law_wide"] spChOf := by
  refine D.ok (k := 0) sc_q08 (fun vs H Q E h => ?_) (fun f cdv A outer s H vs Q E hr h => ?_)
  · obtain ⟨_, _, _, _, rfl, _⟩ := h
    rfl
  · obtain ⟨cell, i, m, n, rfl, hm, hn, k⟩ := h
    refine ⟨_, (pss_cons (ps_set (i := 4) sc_q08.nd rfl (Or.inl rfl) (pe_ix ix_list (pe_lst (pa_cons pe_str (pa_cons pe_str pa_nil))) (pe_op op_mod (pe_op op_add (pe_op op_fdiv (pv 0) pe_int) (pe_op op_fdiv (pv 1) pe_int)) pe_int) (fun _ _ => rfl)))
        (pss_cons (ps_set (i := 5) sc_q08.nd rfl (Or.inl rfl) (pe_ix ix_list (pe_lst (pa_cons (pv 2) (pa_cons (pv 3) pa_nil))) (pe_callTy call_int1 rfl T.int bt_int (pa_cons (pe_cmpR op_eq (pv 4) pe_str (nomark _)) pa_nil)) (fun _ _ => rfl)))
        (pss_cons (ps_set (i := 6) sc_q08.nd rfl (Or.inl rfl) (pe_op op_mod (pe_op op_add (pe_op op_fdiv (pv 0) pe_int) (pv 1)) (pv 5)))
        (pss_cons (ps_set (i := 7) sc_q08.nd rfl (Or.inl rfl) (pe_op op_mod (pe_op op_add (pv 0) (pv 1)) pe_int))
        (pss_cons (ps_if (PW.pt (pw_or (pt_cmpR op_eq (pv 7) pe_int (nomark _)) (pw_or1 (pt_cmpR op_eq (pv 5) pe_int (nomark _))))) (pss_one (ps_ret (pe_tup (pa_cons pe_str (pa_cons (pv 4) (pa_cons (pv 6) pa_nil)))))) pss_nil)
        (pss_cons (ps_set (i := 8) sc_q08.nd rfl (Or.inl rfl) (pe_op op_mod (pe_op op_add (pe_op op_add (pv 6) pe_int) (pe_op op_mod (pe_op op_add (pe_op op_fdiv (pv 0) pe_int) (pe_op op_fdiv (pv 1) pe_int)) (pe_op op_sub (pv 5) pe_int))) (pv 5)))
        (pss_cons (ps_if (pt_cmpR op_eq (pv 7) pe_int (nomark _)) (pss_one (ps_ret (pe_tup (pa_cons pe_str (pa_cons (pv 4) (pa_cons (pv 6) (pa_cons (pv 8) pa_nil))))))) pss_nil)
        (pss_one (ps_ret (pe_tup (pa_cons pe_str (pa_cons (pv 4) (pa_cons (pv 6) (pa_cons (pv 8) (pa_cons (pe_op op_sub (pe_op op_mod (pe_op op_add (pe_op op_fdiv (pv 0) pe_int) (pv 1)) pe_int) pe_int) pa_nil))))))))))))))), ?_⟩
    refine ⟨by show 2 ≤ sizeLine; decide, fun l1 hl1 => ?_⟩
    obtain ⟨sd', hsd⟩ := at_side (cell / 5 + (i : Int) / 3)
    refine ⟨_, rfl, _, _, rfl, rfl, ⟨by decide, by decide⟩, _, rfl, _, _, rfl, rfl, ⟨by decide, by decide⟩, _, _, rfl, rfl, _, _, rfl, rfl, (by show (0 : Int) < 2; decide), l1, _, _, _, rfl, rfl, SqL.of upd_same, hsd, ?_⟩
    refine ⟨_, rfl, _, rfl, by show 2 ≤ sizeLine; decide, fun l2 hl2 => ?_⟩
    refine ⟨_, rfl, rfl, .inr ⟨_, rfl, l2, _, _, .int (dim sd' m n : Nat), rfl, rfl, SqL.of upd_same, ?_, ?_⟩⟩
    · rw [sd_col]; cases sd' <;> rfl
    have hd0 : 0 < dim sd' m n := by unfold dim; cases sd' <;> simp <;> assumption
    have sm : Same H (upd (upd H l1 (.lst [V.str "row", V.str "column"])) l2 (.lst [V.int (m : Nat), V.int (n : Nat)])) := (same_upd hl1).laid hl2
    generalize hHx : upd (upd H l1 (.lst [V.str "row", V.str "column"])) l2 (.lst [V.int (m : Nat), V.int (n : Nat)]) = H2 at sm ⊢
    have hdI : (0 : Int) < (dim sd' m n : Nat) := by (first | lia | omega)
    refine ⟨_, rfl, _, _, rfl, rfl, ⟨by decide, by decide⟩, _, rfl, _, _, rfl, rfl, _, rfl, _, _, rfl, rfl, hdI, ?_⟩
    have o0 : 0 ≤ (cell / 10 + (i : Int)) % (dim sd' m n : Nat) := Int.emod_nonneg _ (by (first | lia | omega))
    have o1 : (cell / 10 + (i : Int)) % (dim sd' m n : Nat) < (dim sd' m n : Nat) := Int.emod_lt_of_pos _ hdI
    obtain ⟨one, hone⟩ := Int.eq_ofNat_of_zero_le o0
    dsimp only
    rw [hone] at o1 ⊢
    have hone1 : one < dim sd' m n := by (first | lia | omega)
    refine ⟨_, rfl, _, rfl, _, _, rfl, rfl, _, _, rfl, rfl, (by show (0 : Int) < 5; decide), ?_⟩
    have turnQ : ∀ p : Addr, H2 p = none → Q (.ref p) (upd H2 p (.tup [.str "turn", .str (sd sd'), .int (one : Nat)])) := fun p hp => k p (.turn sd' one) _ (sm.laid hp) upd_same hone1 True.intro
    refine ⟨_, rfl, rfl, _, rfl, ?_⟩
    by_cases hw : (cell + (i : Int)) % 5 = 0
    · refine iteP (congrArg V.int hw) (iteT ⟨_, rfl, _, rfl, by show 3 ≤ sizeLine; decide, turnQ⟩)
    · refine iteN (v_ne hw) ⟨_, rfl, rfl, _, rfl, ?_⟩
      by_cases hd1 : ((dim sd' m n : Nat) : Int) = 1
      · refine iteP (congrArg V.int hd1) ⟨_, rfl, _, rfl, by show 3 ≤ sizeLine; decide, turnQ⟩
      · refine iteN (v_ne hd1) ?_
        have hd2 : (0 : Int) < (dim sd' m n : Nat) - 1 := by (first | lia | omega)
        refine ⟨_, rfl, _, _, rfl, rfl, _, rfl, _, _, rfl, rfl, ⟨by decide, by decide⟩, _, rfl, _, _, rfl, rfl, ⟨by decide, by decide⟩, _, _, rfl, rfl, _, rfl, _, _, rfl, rfl, _, _, rfl, rfl, hd2, _, _, rfl, rfl, _, rfl, _, _, rfl, rfl, hdI, ?_⟩
        have r0 : 0 ≤ (cell / 2 + (i : Int) / 2) % ((dim sd' m n : Nat) - 1) := Int.emod_nonneg _ (by (first | lia | omega))
        have r1 : (cell / 2 + (i : Int) / 2) % ((dim sd' m n : Nat) - 1) < (dim sd' m n : Nat) - 1 := Int.emod_lt_of_pos _ hd2
        obtain ⟨t1, t2, t3⟩ := two_ne (one := (one : Int)) (many := (dim sd' m n : Nat)) (by (first | lia | omega)) o1 r0 r1
        obtain ⟨two, htwo⟩ := Int.eq_ofNat_of_zero_le t2
        dsimp only
        rw [htwo] at t1 t3 ⊢
        have htwo1 : two < dim sd' m n := by (first | lia | omega)
        have hne : one ≠ two := by (first | lia | omega)
        refine ⟨_, rfl, rfl, _, rfl, ?_⟩
        by_cases hw1 : (cell + (i : Int)) % 5 = 1
        · refine iteP (congrArg V.int hw1) ⟨_, rfl, _, rfl, _, rfl, by show 4 ≤ sizeLine; decide, fun p hp => ?_⟩
          exact k p (.swap sd' one two) _ (sm.laid hp) upd_same ⟨hone1, htwo1, hne⟩ True.intro
        · refine iteN (v_ne hw1) ⟨_, rfl, _, rfl, _, rfl, _, rfl, _, _, rfl, rfl, ⟨by decide, by decide⟩, _, rfl, _, _, rfl, rfl, _, _, rfl, rfl, (by show (0 : Int) < 5; decide), _, _, rfl, rfl, by show 5 ≤ sizeLine; decide, fun p hp => ?_⟩
          refine k p (.add sd' one two ((cell / 3 + (i : Int)) % 5 - 2)) _ (sm.laid hp) upd_same ⟨hone1, htwo1, hne⟩ ?_
          have a0 : 0 ≤ (cell / 3 + (i : Int)) % 5 := Int.emod_nonneg _ (by decide)
          have a1 : (cell / 3 + (i : Int)) % 5 < 5 := Int.emod_lt_of_pos _ (by decide)
          exact ⟨by (first | lia | omega), by (first | lia | omega)⟩
end
end X1
namespace X1
open PySem L2
def kD : List (Str × Int) := [("add", 5), ("swap", 4), ("turn", 3)]
def figB (f : Str) : Bool := f.cps.toList.all fun c => !(Builtin.Str.occurrences ("0123456789" : Str) ⟨#[c]⟩ 0 ("0123456789" : Str).length 1).isEmpty
def padW (f : Str) : Str := Txt.zfill f ((f.length : Int) + (-(f.length : Int)) % 64)
def padP (f : Str) : Str := Txt.slice (padW f) (some 0) (some (0 + 64))
def figOf (t : Str) : Str := if Txt.startswith t "-" = true then Txt.slice t (some 1) none else t
def sizeC (f : Str) (m : Int) : Bool := decide (1 ≤ f.length) && decide (f.length ≤ 60) && decide ((padW f).length = 64) && decide ((padP f).length ≤ 64) && decide (PySem.intText? (padP f) = some m)
def asc (f : Str) : Bool := f.cps.all (· < 128)
def sgn (t : Str) (m : Int) : Int := if Txt.startswith t "-" = true then -m else m
def numC (t : Str) (r : Option Int) : Bool :=
  decide (t.length ≤ 60) && asc (figOf t) && decide ((figOf t).length ≤ 60) &&
    (if (figOf t == ("" : Str)) || !figB (figOf t) then r == none
     else match (figOf t).cps.toList.head? with
       | none => false
       | some c => if c == 48 && !(t == ("0" : Str)) then r == none
         else match PySem.intText? (padP (figOf t)) with
           | none => false
           | some m => sizeC (figOf t) m && r == some (sgn t m))
def absI (n : Int) : Int := if n < 0 then -n else n
def wr (n : Int) : Str := Txt.join "" [if n < 0 then "-" else "", toString (absI n)]
def small : List Int := [-2, -1, 0, 1, 2, 3, 4, 5, 6, 7, 8, 9, 10, 100000000000000000000, -100000000000000000000]
theorem small_wr : ∀ n ∈ small, wr n = (toString n : Str) := by decide +kernel
theorem small_num : ∀ n ∈ small, numC (toString n : Str) (some n) = true := by decide +kernel
theorem small_free : ∀ n ∈ small, 32 ∉ (toString n : Str).cps.toList := by decide +kernel
theorem small_len : ∀ n ∈ small, (toString n : Str).length ≤ 22 := by decide +kernel
theorem small_log : ∀ n ∈ small, n.natAbs.log2 < 1920 ∧ (absI n).natAbs.log2 < 1920 ∧ ¬ (10 : Int) ^ 64 ≤ absI n := by decide +kernel
theorem small_join : ∀ n ∈ small, JoinOk "" [if n < 0 then "-" else "", toString (absI n)] = true := by decide +kernel
theorem numC_of {t : Str} {r : Option Int} (h : numC t r = true) : t.length ≤ 60 ∧ asc (figOf t) = true ∧ (figOf t).length ≤ 60 ∧
    ((((!(figOf t == ("" : Str))) && figB (figOf t)) = false ∧ r = none) ∨ (((!(figOf t == ("" : Str))) && figB (figOf t)) = true ∧ ∃ c, (figOf t).cps.toList.head? = some c ∧
      ((c = 48 ∧ t ≠ ("0" : Str) ∧ r = none) ∨ (¬ (c = 48 ∧ t ≠ ("0" : Str)) ∧ ∃ m, sizeC (figOf t) m = true ∧ r = some (sgn t m))))) := by
  unfold numC at h
  rw [Bool.and_eq_true, Bool.and_eq_true, Bool.and_eq_true, decide_eq_true_eq, decide_eq_true_eq] at h
  obtain ⟨⟨⟨h1, h2⟩, h3⟩, h4⟩ := h
  refine ⟨h1, h2, h3, ?_⟩
  split at h4
  · rename_i hc
    refine .inl ⟨?_, by simpa using h4⟩
    cases e1 : (figOf t == ("" : Str)) <;> cases e2 : figB (figOf t) <;> rw [e1, e2] at hc <;> first | rfl | cases hc
  · rename_i hc
    refine .inr ⟨?_, ?_⟩
    · cases e1 : (figOf t == ("" : Str)) <;> cases e2 : figB (figOf t) <;> rw [e1, e2] at hc <;> first | rfl | exact absurd rfl hc
    · split at h4
      · cases h4
      · rename_i c hcc
        refine ⟨c, hcc, ?_⟩
        split at h4
        · rename_i hz
          refine .inl ⟨?_, ?_, by simpa using h4⟩ <;> simp at hz <;> first | exact hz.1 | exact hz.2
        · rename_i hz
          refine .inr ⟨fun z => hz (by simp [z.1, z.2]), ?_⟩
          split at h4
          · cases h4
          · rename_i m hm
            rw [Bool.and_eq_true, beq_iff_eq] at h4
            exact ⟨m, h4.1, h4.2⟩
def joinL : List (List Nat) → List Nat
  | [] => []
  | [x] => x
  | x :: y :: r => x ++ 32 :: joinL (y :: r)
theorem join_inj : ∀ {xs ys : List (List Nat)}, xs ≠ [] → ys ≠ [] → (∀ x ∈ xs, 32 ∉ x) → (∀ y ∈ ys, 32 ∉ y) → joinL xs = joinL ys → xs = ys := by
  have cut : ∀ {a b u v : List Nat}, 32 ∉ a → 32 ∉ b → a ++ 32 :: u = b ++ 32 :: v → a = b ∧ u = v := fun {a b u v} => by
    induction a generalizing b with
    | nil =>
      intro _ hb e
      cases b with
      | nil => exact ⟨rfl, by simpa using e⟩
      | cons c b => exact absurd (show (32 : Nat) = c by simpa using (List.cons.inj e).1) (fun z => hb (by rw [← z]; exact List.mem_cons_self))
    | cons c a ih =>
      intro ha hb e
      cases b with
      | nil => exact absurd (show c = 32 by simpa using (List.cons.inj e).1) (fun z => ha (by rw [z]; exact List.mem_cons_self))
      | cons d b =>
        obtain ⟨e1, e2⟩ := List.cons.inj e
        obtain ⟨e3, e4⟩ := ih (fun z => ha (List.mem_cons_of_mem _ z)) (fun z => hb (List.mem_cons_of_mem _ z)) e2
        exact ⟨by rw [e1, e3], e4⟩
  intro xs
  induction xs with
  | nil => intro ys h; exact absurd rfl h
  | cons x xs ih =>
    intro ys _ hy fx fy e
    cases ys with
    | nil => exact absurd rfl hy
    | cons y ys =>
      cases xs with
      | nil =>
        cases ys with
        | nil => rw [show x = y from e]
        | cons y2 ys => exact absurd (show 32 ∈ x by rw [show x = y ++ 32 :: joinL (y2 :: ys) from e]; simp) (fx x List.mem_cons_self)
      | cons x2 xs =>
        cases ys with
        | nil => exact absurd (show 32 ∈ y by rw [show y = x ++ 32 :: joinL (x2 :: xs) from e.symm]; simp) (fy y List.mem_cons_self)
        | cons y2 ys =>
          obtain ⟨e1, e2⟩ := cut (fx x List.mem_cons_self) (fy y List.mem_cons_self) (show x ++ 32 :: joinL (x2 :: xs) = y ++ 32 :: joinL (y2 :: ys) from e)
          rw [e1, ih (by simp) (by simp) (fun z hz => fx z (List.mem_cons_of_mem _ hz)) (fun z hz => fy z (List.mem_cons_of_mem _ hz)) e2]
theorem join_cps : ∀ ps : List Str, (Str.join (" " : Str) ps).cps.toList = joinL (ps.map fun p => p.cps.toList)
  | [] => rfl
  | [x] => rfl
  | x :: y :: r => by
    have ih := join_cps (y :: r)
    show (x ++ (" " : Str) ++ Str.join (" " : Str) (y :: r)).cps.toList = x.cps.toList ++ 32 :: joinL ((y :: r).map fun p => p.cps.toList)
    rw [← ih]
    show (x.cps ++ (" " : Str).cps ++ (Str.join (" " : Str) (y :: r)).cps).toList = _
    rw [Array.toList_append, Array.toList_append, List.append_assoc]
    rfl
theorem map_cps_inj : ∀ {xs ys : List Str}, xs.map (fun p => p.cps.toList) = ys.map (fun p => p.cps.toList) → xs = ys
  | [], [], _ => rfl
  | [], _ :: _, h => by simp at h
  | _ :: _, [], h => by simp at h
  | ⟨a⟩ :: xs, ⟨b⟩ :: ys, h => by
    rw [List.map_cons, List.map_cons, List.cons.injEq] at h
    rw [map_cps_inj h.2, show a = b from Array.toList_inj.mp h.1]
theorem sp_one : (" " : Str) = ⟨#[32]⟩ := by decide +kernel
theorem split_of {z : Str} {ps : List Str} (hz : z.cps.toList = joinL (ps.map fun p => p.cps.toList)) (hne : ps ≠ []) (hf : ∀ p ∈ ps, 32 ∉ p.cps.toList) : Txt.split z (" " : Str) = ps := by
  have e := StrLaws.join_split z (" " : Str)
  have f := StrLaws.split_free z 32
  rw [← sp_one] at f
  have hs : Txt.split z (" " : Str) ≠ [] := by
    unfold Txt.split
    split
    · simp
    · split
      · simp
      · intro h
        have hh : z = Str.join (" " : Str) (Txt.split z (" " : Str)) := e.symm
        have e2 : Txt.split z (" " : Str) = [] := by
          unfold Txt.split
          rw [if_neg (by assumption), if_neg (by assumption)]; exact h
        rw [e2] at hh
        rename_i h1 h2
        apply h1
        rw [hh]
        decide +kernel
  refine map_cps_inj (join_inj (by simpa using hs) (by simpa using hne) ?_ ?_ ?_)
  · intro x hx
    obtain ⟨p, hp, rfl⟩ := List.mem_map.mp hx
    exact f p hp
  · intro x hx
    obtain ⟨p, hp, rfl⟩ := List.mem_map.mp hx
    exact hf p hp
  · rw [← join_cps, e, hz]
def badQ (ns : List Int) : Bool := ns.any (fun n => decide (n < 0)) || (decide (ns.length = 2) && decide (ns.getD 0 0 = ns.getD 1 0))
def numF (t : Str) : Option (Option Int) :=
  if numC t none = true then some none else match PySem.intText? (padP (figOf t)) with
    | none => none
    | some m => if numC t (some (sgn t m)) = true then some (some (sgn t m)) else none
theorem numF_ok {t : Str} {r : Option Int} (h : numF t = some r) : numC t r = true := by
  unfold numF at h
  split at h
  · cases h; assumption
  · split at h
    · cases h
    · split at h
      · cases h; assumption
      · cases h
def sidesV : List V := [.str "row", .str "column"]
inductive NoParts (ps : List Str) : Prop
  | a (w : Str) (rest : List Str) (e : ps = w :: rest) (h : getN w kD ≠ .int (ps.length : Nat)) : NoParts ps
  | b (w sd : Str) (ts : List Str) (e : ps = w :: sd :: ts) (h : getN w kD = .int (ps.length : Nat)) (hs : inV (.str sd) sidesV = false) : NoParts ps
  | c (w sd : Str) (ts : List Str) (rs : List (Option Int)) (e : ps = w :: sd :: ts) (h : getN w kD = .int (ps.length : Nat)) (hs : inV (.str sd) sidesV = true) (hn : ts ≠ []) (hp : Paired (fun t r => numC t r = true) ts rs) (hb : none ∈ rs ∨ badQ ((rs.filterMap id).take 2) = true) : NoParts ps
def partsBad (ps : List Str) : Bool := match ps with
  | [] => false
  | w :: rest =>
    if !decide (getN w kD = .int ((w :: rest).length : Nat)) then true
    else match rest with
      | [] => false
      | sd :: ts =>
        if !inV (.str sd) sidesV then true
        else !ts.isEmpty && (ts.map numF).all (·.isSome) && (((ts.map numF).filterMap id).any (·.isNone) || badQ ((((ts.map numF).filterMap id).filterMap id).take 2))
theorem paired_num : ∀ {ts : List Str}, (ts.map numF).all (·.isSome) = true → Paired (fun t r => numC t r = true) ts ((ts.map numF).filterMap id)
  | [], _ => .nil
  | t :: ts, h => by
    rw [List.map_cons, List.all_cons, Bool.and_eq_true] at h
    obtain ⟨r, hr⟩ := Option.isSome_iff_exists.mp h.1
    rw [List.map_cons, hr]
    exact .cons (numF_ok hr) (paired_num h.2)
theorem partsBad_ok {ps : List Str} (h : partsBad ps = true) : NoParts ps := by
  unfold partsBad at h
  split at h
  · cases h
  · rename_i w rest
    split at h
    · rename_i h1
      exact .a w rest rfl (by simpa using h1)
    · rename_i h1
      have h1' : getN w kD = .int ((w :: rest).length : Nat) := by simpa using h1
      split at h
      · cases h
      · rename_i sd ts
        split at h
        · rename_i h2
          exact .b w sd ts rfl h1' (by simpa using h2)
        · rename_i h2
          rw [Bool.and_eq_true, Bool.and_eq_true, Bool.or_eq_true] at h
          obtain ⟨⟨h3, h4⟩, h5⟩ := h
          refine .c w sd ts _ rfl h1' (by simpa using h2) (fun z => by rw [z] at h3; cases h3) (paired_num h4) ?_
          rcases h5 with h5 | h5
          · obtain ⟨r, hr, hn⟩ := List.any_eq_true.mp h5
            cases r with
            | none => exact .inl hr
            | some n => cases hn
          · exact .inr h5
def badLines : List Str := ["", "add", "add row 0 1", "add row 1 1 2", "swap rows 0 1", "turn row -1", "turn row 01", "add row 0 1 -0", "turn  row 1", " turn row 1", "turn row 1 ", "Turn row 1", "turn 1 row", "swap row 0", "swap column 2 2", "swap row 0 1 2", "add row 0 1 +2", "add row 0 1 02", "turn column x", "add column 0 1 2 3", "move row 0 1", "add row 0 -1 2"]
def lineBad (z : Str) : Bool := decide (z.length ≤ 100) && decide ((Txt.split z (" " : Str)).length ≤ 8) && partsBad (Txt.split z (" " : Str))
theorem bad_q0d : ∀ z ∈ badLines, lineBad z = true := by decide +kernel
end X1
namespace X1
open PySem L2
theorem bt_abs : bootBuiltins "abs" = some (.builtin "abs") := by decide +kernel
theorem line60 {n : Nat} (h : n ≤ 1000) : n ≤ sizeLine := Nat.le_trans h (by decide)
theorem cut2 (a b : V) (xs : List V) : cutV (a :: b :: xs) (some 2) none = xs := by
  have e1 : HT.sIx (a :: b :: xs).length 0 (some 2) = 2 := by
    have := HT.sIx_nat (a :: b :: xs).length 0 2
    rw [show ((2 : Nat) : Int) = (2 : Int) from rfl] at this
    rw [this, List.length_cons, List.length_cons]; (first | lia | omega)
  unfold cutV
  rw [e1, HT.sIx_none, List.take_of_length_le (by simp)]
  rfl
theorem cutT (xs : List V) : cutV xs none (some 2) = xs.take 2 := by
  have e1 : HT.sIx xs.length xs.length (some 2) = min 2 xs.length := by
    have := HT.sIx_nat xs.length xs.length 2
    rw [show ((2 : Nat) : Int) = (2 : Int) from rfl] at this
    rw [this]
    try (first | lia | omega)
  unfold cutV
  rw [e1, HT.sIx_none]
  simp [List.take_eq_take_iff]
section
variable {P : Program} {w : World} {K : PySem.W.Frag} {mg : Str → Option Value} {base : Heap}
inductive SpWr (vs : List V) (H : Hp) (Q : VK) : Prop
  | mk (n : Int) (_ : vs = [.int n]) (_ : n ∈ small) (_ : ∀ H', Same H H' → Q (.str (wr n)) H') : SpWr vs H Q
def spWr : Sp := fun vs H Q _ => SpWr vs H Q
theorem wr_eq (n : Int) {a : Str} (h : a = if n < 0 then ("-" : Str) else ("" : Str)) : Txt.join "" ([toString (absI n), a] : List Str).reverse = wr n := by rw [h]; rfl
theorem ok_q03 (D : DefAt K mg "written" s_q03 ["number"]) (T : Bt mg) (Tabs : mg "abs" = none) : Callee P w K mg base 1 "written" ["number"] spWr := by
  refine D.ok (k := 0) sc_q03 (fun vs H Q E h => ?_) (fun f cdv A outer s H vs Q E hr h => ?_)
  · obtain ⟨_, rfl, _⟩ := h
    rfl
  · obtain ⟨n, rfl, hn, k⟩ := h
    obtain ⟨l1, l2, l3⟩ := small_log n hn
    have hj := small_join n hn
    refine ⟨_, (pss_cons (ps_set (i := 1) sc_q03.nd rfl (Or.inl rfl) (pe_op op_pow pe_int pe_int))
        (pss_cons (ps_set (i := 2) sc_q03.nd rfl (Or.inl rfl) (pe_callB call_abs rfl Tabs bt_abs (pa_cons (pv 0) pa_nil)))
        (pss_cons (ps_set (i := 3) sc_q03.nd rfl (Or.inl rfl) (pe_lst pa_nil))
        (pss_cons (ps_while PassesOwn.never (pt_cmpR op_ge (pv 2) (pv 1) (nomark _)) pss_never)
        (pss_cons (ps_expr (pe_bm PySem.F.plainAttrs_list PySem.F.slot_list_append PySem.F.type_list_append mt_append (pv 3) (pa_cons (pe_callTy call_str_int rfl T.str bt_str (pa_cons (pv 2) pa_nil)) pa_nil)))
        (pss_cons (ps_expr (pe_bm PySem.F.plainAttrs_list PySem.F.slot_list_append PySem.F.type_list_append mt_append (pv 3) (pa_cons (pe_ifExp (pt_cmpR op_lt (pv 0) pe_int (nomark _)) pe_str pe_str) pa_nil)))
        (pss_one (ps_ret (pe_joinRev rfl rfl T.reversed (pa_cons (pv 3) pa_nil)))))))))), ?_⟩
    refine ⟨_, _, rfl, rfl, ⟨by decide, by decide, by decide⟩, ?_⟩
    refine ⟨_, rfl, n, rfl, ?_⟩
    refine ⟨by show 0 ≤ sizeLine; decide, fun l hl => ?_⟩
    refine ⟨fun _ σ' H' => σ' = [some (.int n), some (.int (10 ^ (64 : Int).toNat)), some (.int (absI n)), some (.ref l)] ∧ H' = upd H l (.lst []), ⟨0, rfl, rfl⟩, ?_⟩
    rintro m σ' H' ⟨rfl, rfl⟩
    refine ⟨_, rfl, _, rfl, _, _, rfl, rfl, _, rfl, iteN l3 ?_⟩
    refine ⟨_, rfl, .inl ⟨rfl, _, SqL.of upd_same⟩, _, rfl, _, rfl, l2, l, _, _, rfl, rfl, upd_same, by show 0 < sizeLine; decide, ?_⟩
    rw [upd_upd]
    have fin : ∀ a : Str, a = (if n < 0 then ("-" : Str) else ("" : Str)) → Q (.str (Txt.join "" ([toString (absI n), a] : List Str).reverse)) (upd H l (.lst ([(toString (absI n) : Str), a].map V.str))) := fun a ha => by
      rw [wr_eq n ha]; exact k _ (same_upd hl)
    refine ⟨_, rfl, .inl ⟨rfl, _, SqL.of upd_same⟩, _, rfl, _, _, rfl, rfl, _, rfl, ?_⟩
    by_cases hneg : n < 0
    · refine iteP hneg ⟨l, _, _, rfl, rfl, upd_same, by show 1 < sizeLine; decide, ?_⟩
      rw [upd_upd]
      refine ⟨_, rfl, l, [(toString (absI n) : Str), "-"], rfl, upd_same, ?_, fin "-" (by rw [if_pos hneg])⟩
      rw [if_pos hneg] at hj; exact hj
    · refine iteN hneg ⟨l, _, _, rfl, rfl, upd_same, by show 1 < sizeLine; decide, ?_⟩
      rw [upd_upd]
      refine ⟨_, rfl, l, [(toString (absI n) : Str), ""], rfl, upd_same, ?_, fin "" (by rw [if_neg hneg])⟩
      rw [if_neg hneg] at hj; exact hj
inductive SpFig (vs : List V) (H : Hp) (Q : VK) : Prop
  | mk (f : Str) (_ : vs = [.str f]) (_ : asc f = true) (_ : f.length ≤ 60) (_ : ∀ H', Same H H' → Q (.bl ((!(f == ("" : Str))) && figB f)) H') : SpFig vs H Q
def spFig : Sp := fun vs H Q _ => SpFig vs H Q
def figC (c : Nat) : Bool := !(Builtin.Str.occurrences ("0123456789" : Str) ⟨#[c]⟩ 0 ("0123456789" : Str).length 1).isEmpty
theorem figB_eq (f : Str) : figB f = (f.cps.toList.map figC).all id := by
  unfold figB
  rw [List.all_map]
  rfl
theorem ok_q05 (D : DefAt K mg "are_figures" s_q05 ["text"]) (T : Bt mg) (Tall : mg "all" = none) : Callee P w K mg base 1 "are_figures" ["text"] spFig := by
  refine D.ok (k := 0) sc_q05 (fun vs H Q E h => ?_) (fun f cdv A outer s H vs Q E hr h => ?_)
  · obtain ⟨_, rfl, _⟩ := h
    rfl
  · obtain ⟨t, rfl, ha, hl, k⟩ := h
    refine ⟨_, (pss_one (ps_ret (pe_and (pe_cmpR op_ne (pv 0) pe_str (nomark _)) (pe_one (pe_callB (call_all rfl) rfl Tall bt_all (pa_cons (pe_comp (N := ["sign"]) (cap := []) (k := 1) (CompScope.mk' (defScope s_q05) ["text"] rfl rfl (by decide +kernel)) rfl (pi_str (pv 0)) (fun _ _ _ _ => (pg_name (i := 0) (show (["sign"] : List Str).Nodup by decide +kernel) rfl (Or.inl rfl))) (fun _ _ _ _ => (pe_cmpR op_in_str (pv 0) pe_str rfl))) pa_nil)))))), ?_⟩
    refine ⟨_, rfl, rfl, _, rfl, ?_⟩
    by_cases he : t = ("" : Str)
    · have e1 : (t == ("" : Str)) = true := by rw [he]; decide +kernel
      rw [e1] at k
      have e2 : (!decide (V.str t = V.str "")) = false := by rw [he]; decide +kernel
      exact iteB0 e2 (k H (Same.refl H))
    · have e1 : (t == ("" : Str)) = false := by simpa using he
      rw [e1] at k
      have e2 : (!decide (V.str t = V.str "")) = true := by
        have : ¬ V.str t = V.str "" := fun z => he (V.str.inj z)
        simp [this]
      refine iteB e2 ?_
      refine ⟨_, rfl, t, rfl, ha, comp_it (J := Its t) (n := t.cps.size) (fun i ys H2 => H2 = H ∧ i ≤ t.cps.size ∧ ys = ((t.cps.toList.map figC).take i).map V.bl) (line60 (Nat.le_trans hl (by decide))) ⟨rfl, Nat.zero_le _, rfl⟩ (fun i ys H2 ⟨_, h1, h2⟩ => by rw [h2, List.length_map, List.length_take, List.length_map, Array.length_toList]; (first | lia | omega)) (fun i ys H2 hi _ => hi) (fun ys H2 _ => rfl) ?_ ?_⟩
      · rintro i x ys H2 H3 hi ⟨rfl, _, rfl⟩ ⟨rfl, c, hc, rfl⟩
        refine ⟨rfl, _, rfl, _, _, rfl, rfl, rfl, hi, ?_⟩
        have e3 : t.cps.toList[i]? = some c := by rw [Array.getElem?_toList]; exact hc
        rw [List.take_succ, List.getElem?_map, e3, List.map_append]
        rfl
      · rintro ys H2 ⟨rfl, _, rfl⟩ p hp
        have e4 : (t.cps.toList.map figC).take t.cps.size = t.cps.toList.map figC := List.take_of_length_le (by simp)
        rw [e4]
        refine ⟨p, _, rfl, upd_same, ?_⟩
        rw [← figB_eq]
        exact k _ (same_upd hp)
inductive SpSize (vs : List V) (H : Hp) (Q : VK) : Prop
  | mk (f : Str) (m : Int) (_ : vs = [.str f]) (_ : sizeC f m = true) (_ : ∀ H', Same H H' → Q (.int m) H') : SpSize vs H Q
def spSize : Sp := fun vs H Q _ => SpSize vs H Q
theorem ok_q06 (D : DefAt K mg "size_of" s_q06 ["figures"]) (T : Bt mg) : Callee P w K mg base 1 "size_of" ["figures"] spSize := by
  refine D.ok (k := 0) sc_q06 (fun vs H Q E h => ?_) (fun f cdv A outer s H vs Q E hr h => ?_)
  · obtain ⟨_, _, rfl, _⟩ := h
    rfl
  · obtain ⟨t, m, rfl, hs, k⟩ := h
    unfold sizeC at hs
    rw [Bool.and_eq_true, Bool.and_eq_true, Bool.and_eq_true, Bool.and_eq_true, decide_eq_true_eq, decide_eq_true_eq, decide_eq_true_eq, decide_eq_true_eq, decide_eq_true_eq] at hs
    obtain ⟨⟨⟨⟨h1, h2⟩, h3⟩, h4⟩, h5⟩ := hs
    have hsz : t.length ≤ sizeLine := line60 (by (first | lia | omega))
    refine ⟨_, (pss_cons (ps_set (i := 1) sc_q06.nd rfl (Or.inl rfl) (pe_op op_pow pe_int pe_int))
        (pss_cons (ps_set (i := 2) sc_q06.nd rfl (Or.inl rfl) pe_int)
        (pss_cons (ps_set (i := 3) sc_q06.nd rfl (Or.inl rfl) (pe_bm PySem.F.plainAttrs_str PySem.F.slot_str_zfill PySem.F.type_str_zfill mt_zfill (pv 0) (pa_cons (pe_op op_add (pe_callB call_len_str rfl T.len bt_len (pa_cons (pv 0) pa_nil)) (pe_op op_mod (pe_un un_neg (pe_callB call_len_str rfl T.len bt_len (pa_cons (pv 0) pa_nil))) pe_int)) pa_nil)))
        (pss_cons (ps_for PassesOwn.never rfl (pi_rangeS rfl T.range (pa_cons pe_int (pa_cons (pe_callB call_len_str rfl T.len bt_len (pa_cons (pv 3) pa_nil)) (pa_cons pe_int pa_nil)))) (pg_name (i := 4) sc_q06.nd rfl (Or.inl rfl)) (pss_one (ps_set (i := 2) sc_q06.nd rfl (Or.inl rfl) (pe_op op_add (pe_op op_mul (pv 2) (pv 1)) (pe_callTy call_int_text rfl T.int bt_int (pa_cons (pe_slice sl_str (pv 3) (po_some (pv 4)) (po_some (pe_op op_add (pv 4) pe_int))) pa_nil))))))
        (pss_one (ps_ret (pv 2))))))), ?_⟩
    refine ⟨_, _, rfl, rfl, ⟨by decide, by decide, by decide⟩, ?_⟩
    have hp : PadOk ((t.length : Int) + (-(t.length : Int)) % 64) = true := by
      have hm : (-(t.length : Int)) % 64 = 64 - t.length := by (first | lia | omega)
      rw [hm, show (t.length : Int) + (64 - t.length) = 64 from by (first | lia | omega)]
      decide
    refine ⟨_, rfl, rfl, _, rfl, t, rfl, hsz, _, rfl, t, rfl, hsz, _, rfl, _, _, rfl, rfl, (by show (0 : Int) < 64; decide), _, _, rfl, rfl, t, _, rfl, rfl, hp, ?_⟩
    refine ⟨_, rfl, padW t, rfl, by rw [h3]; exact line60 (by decide), 0, 64, 64, 1, by rw [h3]; rfl, by decide, by decide, by decide, ?_⟩
    refine for_it (J := Itp 0 64 1) (n := 1) (fun i σ H2 => H2 = H ∧ ∃ v4, σ = [some (.str t), some (.int (10 ^ (64 : Int).toNat)), some (.int (if i = 0 then 0 else m)), some (.str (padW t)), v4]) ⟨rfl, none, rfl⟩ (fun i σ H2 hi _ => hi) (fun σ H2 _ => Nat.le_refl _) ?_ ?_
    · rintro i x σ H2 H3 hi ⟨rfl, v4, rfl⟩ ⟨rfl, rfl⟩
      have hi0 : i = 0 := by (first | lia | omega)
      subst hi0
      have z0' : (if (0 : Nat) = 0 then (0 : Int) else m) = 0 := rfl
      refine ⟨_, rfl, _, rfl, _, _, rfl, rfl, .inl ⟨by rw [z0']; decide, by rw [z0']; decide⟩, _, rfl, _, rfl, _, rfl, _, rfl, _, _, rfl, rfl, _, rfl, padW t, rfl, by rw [h3]; exact line60 (by decide), padP t, m, rfl, h5, by (first | lia | omega), _, _, rfl, rfl, rfl, some (.int (0 + ((0 : Nat) : Int) * 64)), ?_⟩
      have e0 : (if (0 : Nat) = 0 then (0 : Int) else m) * 10 ^ (64 : Int).toNat + m = m := by rw [z0', Int.zero_mul, Int.zero_add]
      exact congrArg (fun q => [some (V.str t), some (.int (10 ^ (64 : Int).toNat)), some (.int q), some (.str (padW t)), some (.int (0 + ((0 : Nat) : Int) * 64))]) e0
    · rintro σ H2 ⟨rfl, v4, rfl⟩
      exact ⟨_, rfl, k _ (Same.refl _)⟩
def spNum (cN : Addr) : Sp := fun vs H Q E => ∃ (t : Str) (r : Option Int), vs = [.str t] ∧ numC t r = true ∧ (r = none → ∀ H', Same H H' → E (.ref cN) none H') ∧ (∀ n, r = some n → ∀ H', Same H H' → Q (.int n) H')
theorem one_48 {c : Nat} (h : (⟨#[c]⟩ : Str) = ("0" : Str)) : c = 48 := by
  have h0 : ("0" : Str) = ⟨#[48]⟩ := by decide +kernel
  rw [h0] at h
  simpa using h
theorem tIf_fig {t : Str} {σ : St} {H : Hp} {Q : VK} (h0 : σ[0]? = some (some (.str t))) (hz : t.length ≤ sizeLine) (h : Q (.str (figOf t)) H) : if Txt.startswith t "-" = true then tSl rSlS (tVar 0) (tPart (tC (.int 1))) tNoPart σ H Q else tVar 0 σ H Q := by
  rcases hb : Txt.startswith t "-" with _ | _
  · have e : figOf t = t := by unfold figOf; rw [hb]; rfl
    rw [e] at h
    exact iteF ⟨_, h0, h⟩
  · have e : figOf t = Txt.slice t (some 1) none := by unfold figOf; rw [hb]; rfl
    rw [e] at h
    exact iteT ⟨_, h0, _, rfl, t, rfl, hz, h⟩
theorem ok_q04 {c_NoLine : Addr} (D : DefAt K mg "number_of" s_q04 ["text"]) (T : Bt mg) (e_NoLine : ECls K mg "NoLine" c_NoLine) (C_q05 : Callee P w K mg base 1 "are_figures" ["text"] spFig) (C_q06 : Callee P w K mg base 1 "size_of" ["figures"] spSize) : CalleeX P w K mg base 2 "number_of" ["text"] (spNum c_NoLine) := by
  refine D.okX (k := 1) sc_q04 (fun vs H Q E h => ?_) (fun f cdv A outer s H vs Q E hr h => ?_)
  · obtain ⟨_, _, rfl, _⟩ := h
    rfl
  · obtain ⟨t, r, rfl, hn, kE, kQ⟩ := h
    obtain ⟨h1, h2, h3, hc⟩ := numC_of hn
    have hz : t.length ≤ sizeLine := line60 (by (first | lia | omega))
    have hz' : (figOf t).length ≤ sizeLine := line60 (by (first | lia | omega))
    refine ⟨_, (pss_cons (ps_set (i := 1) sc_q04.nd rfl (Or.inl rfl) (pe_ifExp (pt_val (pe_bm PySem.F.plainAttrs_str PySem.F.slot_str_startswith PySem.F.type_str_startswith mt_startswith (pv 0) (pa_cons pe_str pa_nil))) (pe_slice sl_str (pv 0) (po_some pe_int) po_none) (pv 0)))
        (pss_cons (ps_if (pt_not (pt_val (pe_callC C_q05 (hr.mono (by decide)) rfl (pa_cons (pv 1) pa_nil)))) (pss_one (ps_raise raise_cx rfl rfl e_NoLine.m e_NoLine.q (pa_cons pe_str pa_nil))) pss_nil)
        (pss_cons (ps_if (PW.pt (pw_and (pt_cmpR op_eq (pe_ix ix_str (pv 1) pe_int (fun _ _ => rfl)) pe_str (nomark _)) (pw_and1 (pt_cmpR op_ne (pv 0) pe_str (nomark _))))) (pss_one (ps_raise raise_cx rfl rfl e_NoLine.m e_NoLine.q (pa_cons pe_str pa_nil))) pss_nil)
        (pss_cons (ps_set (i := 2) sc_q04.nd rfl (Or.inl rfl) (pe_callC C_q06 (hr.mono (by decide)) rfl (pa_cons (pv 1) pa_nil)))
        (pss_one (ps_ret (pe_ifExp (pt_val (pe_bm PySem.F.plainAttrs_str PySem.F.slot_str_startswith PySem.F.type_str_startswith mt_startswith (pv 0) (pa_cons pe_str pa_nil))) (pe_un un_neg (pv 2)) (pv 2)))))))), ?_⟩
    refine ⟨_, rfl, rfl, t, _, rfl, rfl, _, rfl, ?_⟩
    have hat : ∀ c, (figOf t).cps.toList.head? = some c → atI (figOf t).cps.toList 0 = some c := fun c hcc => by
      rw [List.head?_eq_getElem?] at hcc
      exact atI_nat (j := 0) hcc
    refine tIf_fig rfl hz ?_
    refine ⟨_, rfl, figOf t, rfl, h2, h3, fun H1 s1 => ⟨_, rfl, ?_⟩⟩
    rcases hc with ⟨hf, hr0⟩ | ⟨hf, c, hcc, hd⟩
    · rw [hf]
      exact iteT ⟨by show 1 ≤ 1000; decide, kE hr0 H1 s1⟩
    · rw [hf]
      refine iteF ⟨_, rfl, figOf t, 0, c, rfl, rfl, hz', hat c hcc, rfl, _, rfl, ?_⟩
      rcases hd with ⟨rfl, hne, hr0⟩ | ⟨hnot, m, hsz, hrm⟩
      · refine iteP (by decide +kernel) ⟨_, rfl, rfl, _, rfl, iteNN (fun z => hne (V.str.inj z)) ⟨by show 1 ≤ 1000; decide, kE hr0 H1 s1⟩⟩
      · by_cases hc48 : c = 48
        · have ht0 : t = ("0" : Str) := Classical.byContradiction fun z => hnot ⟨hc48, z⟩
          refine iteP (by rw [hc48]; decide +kernel) ⟨_, rfl, rfl, _, rfl, iteNS (by rw [ht0]) ?_⟩
          refine ⟨_, rfl, figOf t, m, rfl, hsz, fun H2 s2 => ?_⟩
          refine ⟨_, rfl, rfl, t, _, rfl, rfl, _, rfl, ?_⟩
          have kk := kQ _ hrm H2 (s1.trans s2)
          unfold sgn at kk
          by_cases hb2 : Txt.startswith t "-" = true
          · rw [if_pos hb2] at kk
            exact iteB hb2 ⟨_, rfl, _, rfl, kk⟩
          · rw [if_neg hb2] at kk
            exact iteB0 (by simpa using hb2) ⟨_, rfl, kk⟩
        · refine iteN (fun z => hc48 (one_48 (V.str.inj z))) ?_
          refine ⟨_, rfl, figOf t, m, rfl, hsz, fun H2 s2 => ?_⟩
          refine ⟨_, rfl, rfl, t, _, rfl, rfl, _, rfl, ?_⟩
          have kk := kQ _ hrm H2 (s1.trans s2)
          unfold sgn at kk
          by_cases hb2 : Txt.startswith t "-" = true
          · rw [if_pos hb2] at kk
            exact iteB hb2 ⟨_, rfl, _, rfl, kk⟩
          · rw [if_neg hb2] at kk
            exact iteB0 (by simpa using hb2) ⟨_, rfl, kk⟩
def spPl (cN : Addr) : Sp := fun vs H Q E => ∃ (a : Addr) (ns : List Int), vs = [.ref a] ∧ H a = some (.lst (ns.map V.int)) ∧ ns ≠ [] ∧ ns.length ≤ 2 ∧ (badQ ns = true → E (.ref cN) none H) ∧ (badQ ns = false → Q .non H)
theorem ok_q02 {c_NoLine : Addr} (D : DefAt K mg "refuse_bad_places" s_q02 ["places"]) (T : Bt mg) (e_NoLine : ECls K mg "NoLine" c_NoLine) : CalleeX P w K mg base 1 "refuse_bad_places" ["places"] (spPl c_NoLine) := by
  refine D.okX (k := 0) sc_q02 (fun vs H Q E h => ?_) (fun f cdv A outer s H vs Q E hr h => ?_)
  · obtain ⟨_, _, rfl, _⟩ := h
    rfl
  · obtain ⟨a, ns, rfl, ha, hne, hl, kE, kQ⟩ := h
    refine ⟨_, (pss_cons (ps_if (pt_cmpR op_lt (pe_callB (call_minL rfl) rfl T.min bt_min (pa_cons (pv 0) pa_nil)) pe_int (nomark _)) (pss_one (ps_raise raise_cx rfl rfl e_NoLine.m e_NoLine.q (pa_cons pe_str pa_nil))) pss_nil)
        (pss_one (ps_if (PW.pt (pw_and (pt_cmpR op_eq (pe_callB call_len_seq rfl T.len bt_len (pa_cons (pv 0) pa_nil)) pe_int (nomark _)) (pw_and1 (pt_cmpR op_eq (pe_ix ix_list (pv 0) pe_int (fun _ _ => rfl)) (pe_ix ix_list (pv 0) pe_int (fun _ _ => rfl)) (nomark _))))) (pss_one (ps_raise raise_cx rfl rfl e_NoLine.m e_NoLine.q (pa_cons pe_str pa_nil))) pss_nil))), ?_⟩
    refine ⟨_, rfl, a, ns, rfl, ha, hne, fun M hM hmin => ⟨_, _, rfl, rfl, _, rfl, ?_⟩⟩
    by_cases hneg : M < 0
    · refine iteP hneg ⟨by show 1 ≤ 1000; decide, kE ?_⟩
      unfold badQ
      rw [Bool.or_eq_true]
      exact .inl (List.any_eq_true.mpr ⟨M, hM, decide_eq_true hneg⟩)
    · have hall : ns.any (fun n => decide (n < 0)) = false := by
        rw [List.any_eq_false]
        intro n hn
        have := hmin n hn
        simp; (first | lia | omega)
      refine iteN hneg ⟨_, rfl, a, _, rfl, .inl (SqL.of ha), rfl, _, rfl, ?_⟩
      match ns, ha, hne, hl, kE, kQ, hall with
      | [x], ha, _, _, kE, kQ, hall => exact iteN (v_ne (by show ((1 : Nat) : Int) ≠ 2; decide)) (kQ (by unfold badQ; rw [hall]; rfl))
      | [x, y], ha, _, _, kE, kQ, hall =>
        refine iteP rfl ⟨_, rfl, a, _, _, _, rfl, rfl, SqL.of ha, rfl, _, rfl, a, _, _, _, rfl, rfl, SqL.of ha, rfl, rfl, _, rfl, ?_⟩
        by_cases hxy : x = y
        · refine iteP (congrArg V.int hxy) ⟨by show 1 ≤ 1000; decide, kE ?_⟩
          unfold badQ
          rw [hall]
          simp [hxy]
        · refine iteN (v_ne hxy) (kQ ?_)
          unfold badQ
          rw [hall]
          simp [hxy]
      | x :: y :: z :: r, _, _, hl, _, _, _ => exact absurd hl (by simp)
structure Made (K : PySem.W.Frag) (aH aS : Addr) : Prop where
  nH : PySem.W.nsIn K mainGlobals "HOW_MANY_PARTS" = some (some (.ref aH))
  kH : dictIn K aH kD = true
  nS : PySem.W.nsIn K mainGlobals "SIDES" = some (some (.ref aS))
  kS : tupIn K aS ["row", "column"] = true
def spRead (cN : Addr) : Sp := fun vs H Q E => ∃ z : Str, vs = [.str z] ∧ z.length ≤ 1000 ∧ (Txt.split z (" " : Str)).length ≤ 8 ∧
  ((NoParts (Txt.split z (" " : Str)) ∧ ∀ H', Same H H' → E (.ref cN) none H') ∨
   (∃ (w sd : Str) (ts : List Str) (ns : List Int), Txt.split z (" " : Str) = w :: sd :: ts ∧ getN w kD = .int ((w :: sd :: ts).length : Nat) ∧ inV (.str sd) sidesV = true ∧ ns ≠ [] ∧ Paired (fun t n => numC t (some n) = true) ts ns ∧ badQ (ns.take 2) = false ∧
      ∀ (p : Addr) (H' : Hp), Same H H' → H' p = some (.tup (.str w :: .str sd :: ns.map V.int)) → Q (.ref p) H'))
theorem paired_some : ∀ {ts : List Str} {ns : List Int}, Paired (fun t n => numC t (some n) = true) ts ns → Paired (fun t r => numC t r = true) ts (ns.map some)
  | _, _, .nil => .nil
  | _, _, .cons h t => .cons h (paired_some t)
theorem filterMap_some : ∀ ns : List Int, (ns.map some).filterMap id = ns
  | [] => rfl
  | n :: ns => by rw [List.map_cons, List.filterMap_cons]; show n :: _ = _; rw [filterMap_some ns]
theorem ok_q01 {c_NoLine aH aS : Addr} (D : DefAt K mg "read" s_q01 ["line"]) (T : Bt mg) (m_HOW_MANY_PARTS : mg "HOW_MANY_PARTS" = some (.ref aH)) (m_SIDES : mg "SIDES" = some (.ref aS)) (MD : Made K aH aS) (e_NoLine : ECls K mg "NoLine" c_NoLine) (C_q04 : CalleeX P w K mg base 2 "number_of" ["text"] (spNum c_NoLine)) (C_q02 : CalleeX P w K mg base 1 "refuse_bad_places" ["places"] (spPl c_NoLine)) : CalleeX P w K mg base 3 "read" ["line"] (spRead c_NoLine) ∧ Callee P w K mg base 3 "read" ["line"] (fun vs H Q _ => spRead c_NoLine vs H Q fun _ _ _ => False) := by
  have k_HOW_MANY_PARTS := MD.kH
  have kS : ∀ H, SqT K H aS sidesV := fun H => tupIn_ok MD.kS H
  refine D.both (k := 2) sc_q01 (fun vs H Q E h => ?_) (fun f cdv A outer s H vs Q E hr h => ?_)
  · obtain ⟨_, rfl, _⟩ := h
    rfl
  · obtain ⟨z, rfl, hz, hps, hh⟩ := h
    generalize hpq : Txt.split z (" " : Str) = ps at hps hh
    have hgo : (∃ (w : Str) (rest : List Str), ps = w :: rest ∧ getN w kD ≠ .int (ps.length : Nat) ∧ ∀ H', Same H H' → E (.ref c_NoLine) none H') ∨
        (∃ (w sd : Str) (ts : List Str), ps = w :: sd :: ts ∧ getN w kD = .int (ps.length : Nat) ∧ inV (.str sd) sidesV = false ∧ ∀ H', Same H H' → E (.ref c_NoLine) none H') ∨
        ∃ (w sd : Str) (ts : List Str) (rs : List (Option Int)), ps = w :: sd :: ts ∧ getN w kD = .int (ps.length : Nat) ∧ inV (.str sd) sidesV = true ∧ ts ≠ [] ∧ Paired (fun t r => numC t r = true) ts rs ∧
        ((none ∈ rs ∨ badQ ((rs.filterMap id).take 2) = true) → ∀ H', Same H H' → E (.ref c_NoLine) none H') ∧ (∀ ns : List Int, rs = ns.map some → badQ (ns.take 2) = false → ∀ (p : Addr) (H' : Hp), Same H H' → H' p = some (.tup (.str w :: .str sd :: ns.map V.int)) → Q (.ref p) H') := by
      rcases hh with ⟨np, kE⟩ | ⟨w, sd, ts, ns, e, h1, h2, h3, h4, h5, h6⟩
      · cases np with
        | a w rest e hw => exact .inl ⟨w, rest, e, hw, kE⟩
        | b w sd ts e hw hs => exact .inr (.inl ⟨w, sd, ts, e, hw, hs, kE⟩)
        | c w sd ts rs e hw hs hne hp hb =>
          refine .inr (.inr ⟨w, sd, ts, rs, e, hw, hs, hne, hp, fun _ => kE, fun ns er hnb => ?_⟩)
          rcases hb with hb | hb
          · rw [er] at hb
            obtain ⟨_, _, hx⟩ := List.mem_map.mp hb
            cases hx
          · rw [er, filterMap_some, hnb] at hb; cases hb
      · refine .inr (.inr ⟨w, sd, ts, ns.map some, e, by rw [e]; exact h1, h2, fun q => ?_, paired_some h4, fun q => ?_, fun ns' q hb => ?_⟩)
        · rw [q] at h4; cases h4; exact h3 rfl
        · rcases q with q | q
          · obtain ⟨x, _, hx⟩ := List.mem_map.mp q; cases hx
          · rw [filterMap_some, h5] at q; cases q
        · have : ns' = ns := by rw [← filterMap_some ns', ← q, filterMap_some]
          rw [this]; exact h6
    refine ⟨_, (pss_cons (ps_set (i := 1) sc_q01.nd rfl (Or.inl rfl) (pe_bm PySem.F.plainAttrs_str PySem.F.slot_str_split PySem.F.type_str_split mt_split (pv 0) (pa_cons pe_str pa_nil)))
        (pss_cons (ps_if (PW.pt (pw_or (pt_cmpR op_ne (pe_kget rfl m_HOW_MANY_PARTS k_HOW_MANY_PARTS (pa_cons (pe_ix ix_list (pv 1) pe_int (fun _ _ => rfl)) pa_nil)) (pe_callB call_len_seq rfl T.len bt_len (pa_cons (pv 1) pa_nil)) (nomark _)) (pw_or1 (pt_cmpR op_notIn_seq (pe_ix ix_list (pv 1) pe_int (fun _ _ => rfl)) (pe_gref rfl m_SIDES) rfl)))) (pss_one (ps_raise raise_cx rfl rfl e_NoLine.m e_NoLine.q (pa_cons pe_str pa_nil))) pss_nil)
        (pss_cons (ps_setCompX (i := 2) sc_q01.nd rfl (Or.inl rfl) (N := ["part"]) (cap := []) (k := 1) (CompScope.mk' (defScope s_q01) ["line", "parts", "numbers"] rfl rfl (by decide +kernel)) rfl own_cx (fun _ _ h => h) (pi_list (pe_slice sl_list (pv 1) (po_some pe_int) po_none)) (fun _ _ _ _ => (pg_name (i := 0) (show (["part"] : List Str).Nodup by decide +kernel) rfl (Or.inl rfl))) (fun _ _ _ _ => (pe_callP pass_c C_q04 (hr.mono (by decide)) rfl (pa_cons (pv 0) pa_nil))))
        (pss_cons (ps_expr (pe_callX raise_cx C_q02 (hr.mono (by decide)) rfl (pa_cons (pe_slice sl_list (pv 2) po_none (po_some pe_int)) pa_nil)))
        (pss_one (ps_ret (pe_callTy call_tuple_of rfl T.tuple bt_tuple (pa_cons (pe_op op_cat (pe_slice sl_list (pv 1) po_none (po_some pe_int)) (pv 2)) pa_nil)))))))), ?_⟩
    refine ⟨_, rfl, rfl, z, _, rfl, rfl, by decide +kernel, line60 hz, by rw [hpq]; exact line60 (by (first | lia | omega)), fun l hl => ?_⟩
    rw [hpq]
    have sm := same_upd (o := .lst (ps.map V.str)) hl
    have hL : (upd H l (.lst (ps.map V.str))) l = some (.lst (ps.map V.str)) := upd_same
    generalize upd H l (.lst (ps.map V.str)) = H1 at sm hL ⊢
    have h0 : ∀ w rest, ps = w :: rest → atI (ps.map V.str) 0 = some (.str w) := fun w rest e => by rw [e]; exact atI_nat (j := 0) rfl
    have h1' : ∀ w sd ts, ps = w :: sd :: ts → atI (ps.map V.str) 1 = some (.str sd) := fun w sd ts e => by rw [e]; exact atI_nat (j := 1) rfl
    have hsc : ∀ (w : Str) (n : Int), scal (getN w kD) (.int n) = true := fun w n => by
      rcases getN_is w kD with e | ⟨i, e⟩ <;> rw [e] <;> rfl
    rcases hgo with ⟨w, rest, e, hw, kE⟩ | ⟨w, sd, ts, e, hw, hs, kE⟩ | ⟨w, sd, ts, rs, e, hw, hs, hne, hp, kE, kQ⟩
    · exact ⟨_, rfl, l, _, _, _, rfl, rfl, SqL.of hL, h0 w rest e, w, rfl, _, rfl, l, _, rfl, .inl (SqL.of hL), hsc _ _, _, rfl, iteNN (by rw [List.length_map]; exact hw) (iteT ⟨by show 1 ≤ 1000; decide, kE H1 sm⟩)⟩
    · refine ⟨_, rfl, l, _, _, _, rfl, rfl, SqL.of hL, h0 w (sd :: ts) e, w, rfl, _, rfl, l, _, rfl, .inl (SqL.of hL), hsc _ _, _, rfl, iteNS (by rw [List.length_map]; exact hw) ?_⟩
      exact ⟨_, rfl, l, _, _, _, rfl, rfl, SqL.of hL, h1' w sd ts e, aS, _, rfl, .inr (kS _), rfl, by decide, _, rfl, iteB (by show (!inV _ _) = true; rw [hs]; rfl) ⟨by show 1 ≤ 1000; decide, kE H1 sm⟩⟩
    · refine ⟨_, rfl, l, _, _, _, rfl, rfl, SqL.of hL, h0 w (sd :: ts) e, w, rfl, _, rfl, l, _, rfl, .inl (SqL.of hL), hsc _ _, _, rfl, iteNS (by rw [List.length_map]; exact hw) ?_⟩
      refine ⟨_, rfl, l, _, _, _, rfl, rfl, SqL.of hL, h1' w sd ts e, aS, _, rfl, .inr (kS _), rfl, by decide, _, rfl, iteB0 (by show (!inV _ _) = false; rw [hs]; rfl) ?_⟩
      have hts : ts.length ≤ 6 := by rw [e] at hps; simp at hps; (first | lia | omega)
      have hlr := Paired.length hp
      refine ⟨_, rfl, _, rfl, l, _, rfl, SqL.of hL, fun q hq => ?_⟩
      rw [e, List.map_cons, List.map_cons, cut2]
      have s2 := sm.laid (o := .lst (ts.map V.str)) hq
      have hl2 : (upd H1 q (.lst (ts.map V.str))) l = some (.lst (ps.map V.str)) := by rw [upd_ne (ne_of_none hL hq)]; exact hL
      have hq2 : (upd H1 q (.lst (ts.map V.str))) q = some (.lst (ts.map V.str)) := upd_same
      generalize upd H1 q (.lst (ts.map V.str)) = H2 at s2 hl2 hq2 ⊢
      refine ⟨q, rfl, ⟨_, SqL.of hq2⟩, comp_list (K := K) (a := q) (xs := ts.map V.str) (fun i ys H3 => Same H2 H3 ∧ ∃ ns : List Int, ns.length = i ∧ rs.take i = ns.map some ∧ ys = ns.map V.int) (by rw [List.length_map]; exact line60 (by (first | lia | omega))) ⟨Same.refl _, [], rfl, rfl, rfl⟩ (fun i ys H3 ⟨_, ns, h1, _, h3⟩ => by rw [h3, List.length_map, h1]) (fun i ys H3 _ h => SqL.of (h.1 _ _ hq2)) ?_ ?_⟩
      · rintro i x ys H3 hx ⟨s3, ns, hn1, hn2, rfl⟩
        rw [List.getElem?_map] at hx
        cases et : ts[i]? with
        | none => rw [et] at hx; cases hx
        | some t =>
          rw [et] at hx
          cases hx
          obtain ⟨r, er, hnum⟩ := pget hp et
          refine ⟨rfl, _, rfl, t, r, rfl, hnum, fun hr0 H4 s4 => kE (.inl (by rw [← hr0]; exact List.mem_of_getElem? er)) H4 ((s2.trans s3).trans s4), fun n hn H4 s4 => ⟨s3.trans s4, ns ++ [n], by rw [List.length_append, hn1]; rfl, ?_, by rw [List.map_append]; rfl⟩⟩
          rw [List.take_succ, er, hn2, List.map_append, hn]
          rfl
      · rintro ys H3 ⟨s3, ns, hn1, hn2, rfl⟩ d hd
        rw [List.length_map, hlr, List.take_length] at hn2
        have hnn : ns.length = ts.length := by rw [hn1, List.length_map]
        have s4 := (s2.trans s3).laid (o := .lst (ns.map V.int)) hd
        have hl4 : (upd H3 d (.lst (ns.map V.int))) l = some (.lst (ps.map V.str)) := by rw [upd_ne (ne_of_none (s3 _ _ hl2) hd)]; exact s3 _ _ hl2
        have hd4 : (upd H3 d (.lst (ns.map V.int))) d = some (.lst (ns.map V.int)) := upd_same
        generalize upd H3 d (.lst (ns.map V.int)) = H4 at s4 hl4 hd4 ⊢
        have hfm : rs.filterMap id = ns := by rw [hn2]; exact filterMap_some ns
        rw [hfm] at kE
        refine ⟨_, rfl, _, rfl, d, _, rfl, SqL.of hd4, fun q5 hq5 => ?_⟩
        rw [cutT, ← List.map_take]
        have s5 := s4.laid (o := .lst ((ns.take 2).map V.int)) hq5
        have hl5 : (upd H4 q5 (.lst ((ns.take 2).map V.int))) l = some (.lst (ps.map V.str)) := by rw [upd_ne (ne_of_none hl4 hq5)]; exact hl4
        have hd5 : (upd H4 q5 (.lst ((ns.take 2).map V.int))) d = some (.lst (ns.map V.int)) := by rw [upd_ne (ne_of_none hd4 hq5)]; exact hd4
        have hq5' : (upd H4 q5 (.lst ((ns.take 2).map V.int))) q5 = some (.lst ((ns.take 2).map V.int)) := upd_same
        generalize upd H4 q5 (.lst ((ns.take 2).map V.int)) = H5 at s5 hl5 hd5 hq5' ⊢
        refine ⟨q5, ns.take 2, rfl, hq5', fun z => ?_, by rw [List.length_take]; (first | lia | omega), fun hb => kE (.inr hb) H5 s5, fun hb => ?_⟩
        · have h0 : ts.length ≠ 0 := fun q => hne (List.eq_nil_of_length_eq_zero q)
          have q := congrArg List.length z
          rw [List.length_take, List.length_nil] at q
          (first | lia | omega)
        · refine ⟨_, rfl, _, rfl, l, _, rfl, SqL.of hl5, fun q6 hq6 => ?_⟩
          rw [cutT]
          have s6 := s5.laid (o := .lst ((ps.map V.str).take 2)) hq6
          have hd6 : (upd H5 q6 (.lst ((ps.map V.str).take 2))) d = some (.lst (ns.map V.int)) := by rw [upd_ne (ne_of_none hd5 hq6)]; exact hd5
          have hq6' : (upd H5 q6 (.lst ((ps.map V.str).take 2))) q6 = some (.lst ((ps.map V.str).take 2)) := upd_same
          generalize upd H5 q6 (.lst ((ps.map V.str).take 2)) = H6 at s6 hd6 hq6' ⊢
          refine ⟨_, rfl, q6, d, _, _, rfl, rfl, hq6', hd6, by rw [List.length_take, List.length_map, List.length_map]; exact line60 (Nat.le_trans (Nat.add_le_add (Nat.min_le_left _ _) (by rw [hnn]; exact hts)) (by decide)), fun q7 hq7 => ?_⟩
          have s7 := s6.laid (o := .lst ((ps.map V.str).take 2 ++ ns.map V.int)) hq7
          refine ⟨q7, _, rfl, .inl ⟨SqL.of upd_same, fun q8 hq8 => ?_⟩⟩
          refine kQ ns hn2 hb q8 _ (s7.laid hq8) ?_
          rw [upd_same, e]
          rfl
end
end X1
namespace X1
open PySem L2
def partsT (c : Ch) : List Str := c.word :: sd c.side :: c.parts.map fun n => (toString n : Str)
def lineT (c : Ch) : Str := Str.join (" " : Str) (partsT c)
def Ch.tidy (c : Ch) : Prop := ∀ n ∈ c.parts, n ∈ X1.small
theorem chV_eq (c : Ch) : chV c = .str c.word :: .str (sd c.side) :: c.parts.map V.int := by cases c <;> rfl
theorem words {R : Str → Prop} (c : Ch) (h1 : R "add") (h2 : R "swap") (h3 : R "turn") : R c.word := by
  cases c
  · exact h1
  · exact h2
  · exact h3
theorem word_free (c : Ch) : 32 ∉ c.word.cps.toList := words (R := fun z => 32 ∉ z.cps.toList) c (by decide +kernel) (by decide +kernel) (by decide +kernel)
theorem sd_free (s : Bool) : 32 ∉ (sd s).cps.toList := by cases s <;> decide +kernel
theorem parts_free {c : Ch} (h : c.tidy) : ∀ p ∈ partsT c, 32 ∉ p.cps.toList := fun p hp => by
  rcases List.mem_cons.mp hp with rfl | hp
  · exact word_free c
  · rcases List.mem_cons.mp hp with rfl | hp
    · exact sd_free _
    · obtain ⟨n, hn, rfl⟩ := List.mem_map.mp hp
      exact small_free n (h n hn)
theorem split_line {c : Ch} (h : c.tidy) : Txt.split (lineT c) (" " : Str) = partsT c := split_of (join_cps _) (by simp [partsT]) (parts_free h)
theorem word_len6 (c : Ch) : c.word.length ≤ 22 := words (R := fun z => z.length ≤ 22) c (by decide +kernel) (by decide +kernel) (by decide +kernel)
theorem sd_len6 (s : Bool) : (sd s).length ≤ 22 := by cases s <;> decide +kernel
theorem parts_len {c : Ch} (h : c.tidy) : ∀ p ∈ partsT c, p.length ≤ 22 := fun p hp => by
  rcases List.mem_cons.mp hp with rfl | hp
  · exact word_len6 c
  · rcases List.mem_cons.mp hp with rfl | hp
    · exact sd_len6 _
    · obtain ⟨n, hn, rfl⟩ := List.mem_map.mp hp
      exact small_len n (h n hn)
theorem parts_num (c : Ch) : (partsT c).length ≤ 5 := by cases c <;> simp [partsT, Ch.parts]
theorem fold_le {k : Nat} : ∀ (ts : List Str) (a : Nat), (∀ p ∈ ts, p.length ≤ 22) → ts.foldl (fun n p => n + p.length + k) a ≤ a + ts.length * (22 + k)
  | [], a, _ => by simp
  | t :: ts, a, h => by
    have h1 := h t List.mem_cons_self
    have ih := fold_le (k := k) ts (a + t.length + k) fun p hp => h p (List.mem_cons_of_mem _ hp)
    rw [List.foldl_cons, List.length_cons]
    have e : (ts.length + 1) * (22 + k) = ts.length * (22 + k) + (22 + k) := Nat.succ_mul _ _
    (first | lia | omega)
theorem sp_len : (" " : Str).length = 1 := by decide +kernel
theorem join_ok {ts : List Str} (h : ∀ p ∈ ts, p.length ≤ 22) (h5 : ts.length ≤ 5) : JoinOk (" " : Str) ts = true := by
  unfold JoinOk Builtin.Str.tooLong
  have := fold_le (k := (" " : Str).length) ts 0 h
  rw [sp_len] at this
  have e : ts.toArray.foldl (· + ·.length + (" " : Str).length) 0 = ts.foldl (fun n p => n + p.length + (" " : Str).length) 0 := by simp
  rw [e, sp_len]
  have hs : (1000 : Nat) ≤ sizeLine := by decide
  simp only [Bool.not_eq_true', decide_eq_false_iff_not]
  (first | lia | omega)
theorem line_len {c : Ch} (h : c.tidy) : (lineT c).length ≤ 1000 := by
  have h1 := StrLaws.join_length_le (" " : Str) (partsT c)
  have h2 := parts_num c
  have h3 : ∀ ts : List Str, (∀ p ∈ ts, p.length ≤ 22) → (ts.map (·.length)).sum ≤ ts.length * 22 := fun ts => by
    induction ts with
    | nil => intro _; simp
    | cons t ts ih =>
      intro h
      have a1 := h t List.mem_cons_self
      have a2 := ih fun p hp => h p (List.mem_cons_of_mem _ hp)
      simp only [List.map_cons, List.sum_cons, List.length_cons]
      (first | lia | omega)
  have h4 := h3 _ (parts_len h)
  unfold lineT
  rw [sp_len] at h1
  (first | lia | omega)
def txtV : V → V
  | .int n => .str (wr n)
  | v => v
theorem txt_parts {c : Ch} (h : c.tidy) : (chV c).map txtV = (partsT c).map V.str := by
  rw [chV_eq]
  unfold partsT
  simp only [List.map_cons, List.map_map]
  show V.str c.word :: V.str (sd c.side) :: _ = V.str c.word :: V.str (sd c.side) :: _
  congr 2
  refine List.map_congr_left fun n hn => ?_
  show V.str (wr n) = V.str (toString n : Str)
  rw [small_wr n (h n hn)]
abbrev bl1 : List V := [V.str "", V.str "add", V.str "add row 0 1", V.str "add row 1 1 2", V.str "swap rows 0 1", V.str "turn row -1", V.str "turn row 01"]
abbrev bl2 : List V := [V.str "add row 0 1 -0", V.str "turn  row 1", V.str " turn row 1", V.str "turn row 1 ", V.str "Turn row 1", V.str "turn 1 row"]
abbrev bl3 : List V := [V.str "swap row 0", V.str "swap column 2 2", V.str "swap row 0 1 2", V.str "add row 0 1 +2", V.str "add row 0 1 02"]
abbrev bl4 : List V := [V.str "turn column x", V.str "add column 0 1 2 3", V.str "move row 0 1", V.str "add row 0 -1 2"]
theorem bad_q0e : bl1 ++ bl2 ++ bl3 ++ bl4 = badLines.map V.str := rfl
theorem old {H : Hp} {a b : Addr} {o o' : HO} (ha : H a = some o) (hb : H b = none) : upd H b o' a = some o := by rw [upd_ne (ne_of_none ha hb)]; exact ha
section
variable {P : Program} {w : World} {K : PySem.W.Frag} {mg : Str → Option Value} {base : Heap}
inductive SpShown (vs : List V) (H : Hp) (Q : VK) : Prop
  | mk (p : Addr) (c : Ch) (_ : vs = [.ref p]) (_ : IsCh H p c) (_ : c.tidy) (_ : ∀ H', Same H H' → Q (.str (lineT c)) H') : SpShown vs H Q
def spShown : Sp := fun vs H Q _ => SpShown vs H Q
theorem ok_q00 (D : DefAt K mg "shown" s_q00 ["change"]) (T : Bt mg) (C_q03 : Callee P w K mg base 1 "written" ["number"] spWr) : Callee P w K mg base 2 "shown" ["change"] spShown := by
  refine D.ok (k := 1) sc_q00 (fun vs H Q E h => ?_) (fun f cdv A outer s H vs Q E hr h => ?_)
  · obtain ⟨_, _, rfl, _⟩ := h
    rfl
  · obtain ⟨p, c, rfl, hc, ht, k⟩ := h
    have hc' : H p = some (.tup (chV c)) := hc
    have hlen : (chV c).length ≤ 5 := by
      cases c
      · exact (by decide : 5 ≤ 5)
      · exact (by decide : 4 ≤ 5)
      · exact (by decide : 3 ≤ 5)
    refine ⟨_, (pss_one (ps_ret (pe_bm PySem.F.plainAttrs_str PySem.F.slot_str_join PySem.F.type_str_join mt_join pe_str (pa_cons (pe_comp (N := ["part"]) (cap := []) (k := 1) (CompScope.mk' (defScope s_q00) ["change"] rfl rfl (by decide +kernel)) rfl (pi_tup (pv 0)) (fun _ _ _ _ => (pg_name (i := 0) (show (["part"] : List Str).Nodup by decide +kernel) rfl (Or.inl rfl))) (fun _ _ _ _ => (pe_ifExp (pt_val (pe_callB call_isi rfl T.isinstance bt_isinstance (pa_cons (pv 0) (pa_cons (pe_bltn (v := .ty "str") rfl T.str bt_str rfl) pa_nil)))) (pv 0) (pe_callC C_q03 (hr.mono (by decide)) rfl (pa_cons (pv 0) pa_nil))))) pa_nil)))), ?_⟩
    refine ⟨rfl, _, rfl, p, rfl, ⟨_, SqT.of hc'⟩, comp_it (J := Itt K p) (n := (chV c).length) (fun i ys H2 => Same H H2 ∧ i ≤ (chV c).length ∧ ys = ((chV c).map txtV).take i) (line60 (by (first | lia | omega))) ⟨Same.refl H, Nat.zero_le _, rfl⟩ (fun i ys H2 ⟨_, h1, h2⟩ => by rw [h2, List.length_take, List.length_map]; (first | lia | omega))
      (fun i ys H2 hi ⟨s2, _⟩ => ⟨chV c, (chV c)[i], SqT.of (s2 _ _ hc'), by simp [hi]⟩) (fun ys H2 ⟨s2, _⟩ => ⟨chV c, SqT.of (s2 _ _ hc'), Nat.le_refl _⟩) ?_ ?_⟩
    · rintro i x ys H2 H3 hi ⟨s2, _, rfl⟩ ⟨rfl, hy⟩
      have hx : (chV c)[i]? = some x := hy _ (SqT.of (s2 _ _ hc'))
      have nxt : ∀ y, y = txtV x → ((chV c).map txtV).take i ++ [y] = ((chV c).map txtV).take (i + 1) := fun y ey => by
        rw [List.take_succ, List.getElem?_map, hx, ey]; rfl
      have hm := List.mem_of_getElem? hx
      rw [chV_eq] at hm
      have hk : (∃ z, x = .str z) ∨ ∃ n ∈ c.parts, x = .int n := by
        rcases List.mem_cons.mp hm with rfl | hm
        · exact .inl ⟨_, rfl⟩
        · rcases List.mem_cons.mp hm with rfl | hm
          · exact .inl ⟨_, rfl⟩
          · obtain ⟨n, hn, rfl⟩ := List.mem_map.mp hm
            exact .inr ⟨n, hn, rfl⟩
      rcases hk with ⟨z, rfl⟩ | ⟨n, hn, rfl⟩
      · exact ⟨rfl, _, rfl, _, _, _, rfl, .str z, by simp, _, rfl, iteB (by decide) ⟨_, rfl, s2, hi, nxt _ rfl⟩⟩
      · exact ⟨rfl, _, rfl, _, _, _, rfl, .int n, by simp, _, rfl, iteB0 (by decide) ⟨_, rfl, n, rfl, ht n hn, fun H4 s4 => ⟨s2.trans s4, hi, nxt _ rfl⟩⟩⟩
    · rintro ys H2 ⟨s2, _, rfl⟩ q hq
      have e4 : ((chV c).map txtV).take (chV c).length = (partsT c).map V.str := by rw [List.take_of_length_le (by simp), txt_parts ht]
      rw [e4]
      refine ⟨_, q, partsT c, rfl, rfl, SqL.of upd_same, join_ok (parts_len ht) (parts_num c), ?_⟩
      have ej : Txt.join (" " : Str) (partsT c) = lineT c := StrLaws.glued_eq_join _ _
      rw [ej]
      exact k _ (s2.laid hq)
inductive SpBad (vs : List V) (H : Hp) (Q : VK) : Prop
  | mk (i : Nat) (_ : vs = [.int (i : Nat)]) (_ : ∀ z ∈ badLines, ∀ H', Same H H' → Q (.str z) H') : SpBad vs H Q
def spBad : Sp := fun vs H Q _ => SpBad vs H Q
set_option maxHeartbeats 2000000 in
theorem ok_q0b (D : DefAt K mg "_law_bad_line" s_q0b ["_law_k"]) (T : Bt mg) : Callee P w K mg base 1 "_law_bad_line" ["_law_k"] spBad := by
  refine D.ok (k := 0) sc_q0b (fun vs H Q E h => ?_) (fun f cdv A outer s H vs Q E hr h => ?_)
  · obtain ⟨_, rfl, _⟩ := h
    rfl
  · obtain ⟨i, rfl, k⟩ := h
    refine ⟨_, (pss_cons (ps_set (i := 1) sc_q0b.nd rfl (Or.inl rfl) (pe_lst (pa_cons pe_str (pa_cons pe_str (pa_cons pe_str (pa_cons pe_str (pa_cons pe_str (pa_cons pe_str (pa_cons pe_str pa_nil)))))))))
        (pss_cons (ps_set (i := 1) sc_q0b.nd rfl (Or.inl rfl) (pe_op op_cat (pv 1) (pe_lst (pa_cons pe_str (pa_cons pe_str (pa_cons pe_str (pa_cons pe_str (pa_cons pe_str (pa_cons pe_str pa_nil)))))))))
        (pss_cons (ps_set (i := 1) sc_q0b.nd rfl (Or.inl rfl) (pe_op op_cat (pv 1) (pe_lst (pa_cons pe_str (pa_cons pe_str (pa_cons pe_str (pa_cons pe_str (pa_cons pe_str pa_nil))))))))
        (pss_cons (ps_set (i := 1) sc_q0b.nd rfl (Or.inl rfl) (pe_op op_cat (pv 1) (pe_lst (pa_cons pe_str (pa_cons pe_str (pa_cons pe_str (pa_cons pe_str pa_nil)))))))
        (pss_one (ps_ret (pe_ix ix_list (pv 1) (pe_op op_mod (pv 0) pe_int) (fun _ _ => rfl)))))))), ?_⟩
    refine ⟨by show 7 ≤ sizeLine; decide, fun l1 h1 => ?_⟩
    have s1 := same_upd (o := .lst bl1) h1
    have e1 : (upd H l1 (.lst bl1)) l1 = some (.lst bl1) := upd_same
    generalize upd H l1 (.lst bl1) = H1 at s1 e1 ⊢
    refine ⟨_, rfl, by show 6 ≤ sizeLine; decide, fun l2 hl2 => ?_⟩
    have s2 := s1.laid (o := .lst bl2) hl2
    have f0 : (upd H1 l2 (.lst bl2)) l1 = some (.lst bl1) := old e1 hl2
    have g0 : (upd H1 l2 (.lst bl2)) l2 = some (.lst bl2) := upd_same
    generalize upd H1 l2 (.lst bl2) = H2 at s2 f0 g0 ⊢
    refine ⟨l1, l2, bl1, bl2, rfl, rfl, f0, g0, by show 13 ≤ sizeLine; decide, fun l3 hl3 => ?_⟩
    have s3 := s2.laid (o := .lst (bl1 ++ bl2)) hl3
    have e3 : (upd H2 l3 (.lst (bl1 ++ bl2))) l3 = some (.lst (bl1 ++ bl2)) := upd_same
    generalize upd H2 l3 (.lst (bl1 ++ bl2)) = H3 at s3 e3 ⊢
    refine ⟨_, rfl, by show 5 ≤ sizeLine; decide, fun l4 hl4 => ?_⟩
    have s4 := s3.laid (o := .lst bl3) hl4
    have f1 : (upd H3 l4 (.lst bl3)) l3 = some (.lst (bl1 ++ bl2)) := old e3 hl4
    have g1 : (upd H3 l4 (.lst bl3)) l4 = some (.lst bl3) := upd_same
    generalize upd H3 l4 (.lst bl3) = H4 at s4 f1 g1 ⊢
    refine ⟨l3, l4, (bl1 ++ bl2), bl3, rfl, rfl, f1, g1, by show 18 ≤ sizeLine; decide, fun l5 hl5 => ?_⟩
    have s5 := s4.laid (o := .lst (bl1 ++ bl2 ++ bl3)) hl5
    have e5 : (upd H4 l5 (.lst (bl1 ++ bl2 ++ bl3))) l5 = some (.lst (bl1 ++ bl2 ++ bl3)) := upd_same
    generalize upd H4 l5 (.lst (bl1 ++ bl2 ++ bl3)) = H5 at s5 e5 ⊢
    refine ⟨_, rfl, by show 4 ≤ sizeLine; decide, fun l6 hl6 => ?_⟩
    have s6 := s5.laid (o := .lst bl4) hl6
    have f2 : (upd H5 l6 (.lst bl4)) l5 = some (.lst (bl1 ++ bl2 ++ bl3)) := old e5 hl6
    have g2 : (upd H5 l6 (.lst bl4)) l6 = some (.lst bl4) := upd_same
    generalize upd H5 l6 (.lst bl4) = H6 at s6 f2 g2 ⊢
    refine ⟨l5, l6, (bl1 ++ bl2 ++ bl3), bl4, rfl, rfl, f2, g2, by show 22 ≤ sizeLine; decide, fun l7 hl7 => ?_⟩
    have s7 := s6.laid (o := .lst (bl1 ++ bl2 ++ bl3 ++ bl4)) hl7
    have e7 : (upd H6 l7 (.lst (bl1 ++ bl2 ++ bl3 ++ bl4))) l7 = some (.lst (bl1 ++ bl2 ++ bl3 ++ bl4)) := upd_same
    generalize upd H6 l7 (.lst (bl1 ++ bl2 ++ bl3 ++ bl4)) = H7 at s7 e7 ⊢
    have hj : i % 22 < 22 := Nat.mod_lt _ (by decide)
    have ej : (i : Int) % 22 = ((i % 22 : Nat) : Int) := by (first | lia | omega)
    obtain ⟨z, hz⟩ : ∃ z, badLines[i % 22]? = some z := ⟨_, List.getElem?_eq_getElem (show i % 22 < badLines.length from hj)⟩
    have hat : atI (badLines.map V.str) ((i : Int) % 22) = some (.str z) := by
      rw [ej]
      exact atI_nat (by rw [List.getElem?_map, hz]; rfl)
    exact ⟨_, rfl, _, rfl, _, _, rfl, rfl, (by show (0 : Int) < 22; decide), l7, _, _, .str z, rfl, rfl, SqL.of e7, (congrArg (fun L => atI L ((i : Int) % 22)) bad_q0e).trans hat, k z (List.mem_of_getElem? hz) _ s7⟩
structure ErrL (K : PySem.W.Frag) (cN cTE : Addr) : Prop where
  x : PySem.W.exmOne K (.ref cN) (.ref cTE) = some true
  n : PySem.W.kitOne K (.ref cN) (.ref cN) = some true
  v : PySem.W.kitOne K (.ref cN) (.type "ValueError") = some true
inductive SpRefd (vs : List V) (H : Hp) (Q : VK) : Prop
  | mk (z : Str) (_ : vs = [.str z]) (_ : lineBad z = true) (_ : ∀ H', Same H H' → Q (.bl true) H') : SpRefd vs H Q
def spRefd : Sp := fun vs H Q _ => SpRefd vs H Q
theorem ok_q0a {c_NoLine c_TableError : Addr} (D : DefAt K mg "_law_refused" s_q0a ["_law_line"]) (T : Bt mg) (TVE : mg "ValueError" = none) (e_NoLine : ECls K mg "NoLine" c_NoLine) (e_TableError : ECls K mg "TableError" c_TableError) (ER : ErrL K c_NoLine c_TableError) (C_q01 : CalleeX P w K mg base 3 "read" ["line"] (spRead c_NoLine)) : Callee P w K mg base 4 "_law_refused" ["_law_line"] spRefd := by
  refine D.ok (k := 3) sc_q0a (fun vs H Q E h => ?_) (fun f cdv A outer s H vs Q E hr h => ?_)
  · obtain ⟨_, rfl, _⟩ := h
    rfl
  · obtain ⟨z, rfl, hb, k⟩ := h
    unfold lineBad at hb
    rw [Bool.and_eq_true, Bool.and_eq_true, decide_eq_true_eq, decide_eq_true_eq] at hb
    refine ⟨_, (pss_cons (ps_tryE ⟨rfl, rfl, rfl⟩ C_q01 (hr.mono (by decide)) rfl (fun _ => (pa_cons (pv 0) pa_nil)) (ph_consN (i := 1) rfl e_TableError.m sc_q0a.nd rfl rfl (fun _ => (pss_one (ps_ret (pe_and (pe_callB (call_isEK (K := K) rfl) rfl T.isinstance bt_isinstance (pa_cons (pv 1) (pa_cons (pe_gref rfl e_NoLine.m) pa_nil))) (pe_one (pe_callB (call_isBK (K := K) rfl) rfl T.isinstance bt_isinstance (pa_cons (pv 1) (pa_cons (pe_bltn (v := .ty "ValueError") rfl TVE bt_ValueError rfl) pa_nil)))))))) ph_nil))
        (pss_one (ps_ret pe_bl))), ?_⟩
    refine ⟨_, rfl, z, rfl, by (first | lia | omega), hb.1.2, .inl ⟨partsBad_ok hb.2, fun H1 s1 => ?_⟩⟩
    refine ⟨_, rfl, _, ER.x, iteT fun ea hea => ?_⟩
    have s2 := s1.laid (o := .ext (ExcO ea c_NoLine)) hea
    have hx : (upd H1 ea (.ext (ExcO ea c_NoLine))) ea = some (.ext (ExcO ea c_NoLine)) := upd_same
    generalize upd H1 ea (.ext (ExcO ea c_NoLine)) = H2 at s2 hx ⊢
    exact ⟨_, rfl, ea, c_NoLine, c_NoLine, true, rfl, ER.n, hx, e_NoLine.k, _, rfl, iteT ⟨_, rfl, ea, c_NoLine, "ValueError", true, rfl, ER.v, hx, e_NoLine.k, k _ s2⟩⟩
end
end X1
namespace X1
open PySem L2
def accL (l : Str) (ns : List Int) : Str := ns.foldl (fun l n => l ++ (" " : Str) ++ (toString n : Str)) l
theorem str_assoc (a b c : Str) : a ++ b ++ c = a ++ (b ++ c) := by
  show (⟨a.cps ++ b.cps ++ c.cps⟩ : Str) = ⟨a.cps ++ (b.cps ++ c.cps)⟩
  rw [Array.append_assoc]
theorem str_len (a b : Str) : (a ++ b).length = a.length + b.length := Array.size_append
theorem acc_eq : ∀ (ns : List Int) (l : Str), accL l ns = Str.join (" " : Str) (l :: ns.map fun n => (toString n : Str))
  | [], l => rfl
  | n :: ns, l => by
    show accL (l ++ (" " : Str) ++ (toString n : Str)) ns = l ++ (" " : Str) ++ Str.join (" " : Str) ((toString n : Str) :: ns.map fun n => (toString n : Str))
    rw [acc_eq ns]
    cases ns with
    | nil => rfl
    | cons m ms =>
      show l ++ (" " : Str) ++ (toString n : Str) ++ (" " : Str) ++ Str.join (" " : Str) _ = l ++ (" " : Str) ++ ((toString n : Str) ++ (" " : Str) ++ Str.join (" " : Str) _)
      simp only [str_assoc]
theorem line_eq (c : Ch) : accL (c.word ++ (" " : Str) ++ sd c.side) c.parts = lineT c := by
  rw [acc_eq]
  unfold lineT partsT
  show _ = c.word ++ (" " : Str) ++ Str.join (" " : Str) (sd c.side :: c.parts.map fun n => (toString n : Str))
  cases hp : c.parts with
  | nil => rfl
  | cons m ms =>
    show c.word ++ (" " : Str) ++ sd c.side ++ (" " : Str) ++ Str.join (" " : Str) _ = c.word ++ (" " : Str) ++ (sd c.side ++ (" " : Str) ++ Str.join (" " : Str) _)
    simp only [str_assoc]
theorem acc_len : ∀ (ns : List Int) (l : Str), (∀ n ∈ ns, n ∈ small) → (accL l ns).length ≤ l.length + ns.length * 23
  | [], l, _ => by show l.length ≤ _; (first | lia | omega)
  | n :: ns, l, h => by
    have ih := acc_len ns (l ++ (" " : Str) ++ (toString n : Str)) fun m hm => h m (List.mem_cons_of_mem _ hm)
    have h1 := small_len n (h n List.mem_cons_self)
    rw [str_len, str_len, sp_len] at ih
    show (accL (l ++ (" " : Str) ++ (toString n : Str)) ns).length ≤ _
    rw [List.length_cons]
    (first | lia | omega)
theorem base_len (c : Ch) : (c.word ++ (" " : Str) ++ sd c.side).length ≤ 45 := by
  have h1 := word_len6 c
  have h2 := sd_len6 c.side
  rw [str_len, str_len, sp_len]
  (first | lia | omega)
theorem place_small {i : Nat} (h : i < 11) : (i : Int) ∈ small := by
  have : ∀ i : Nat, i < 11 → (i : Int) ∈ small := by decide
  exact this i h
theorem tiny_small {q : Int} (h : -2 ≤ q ∧ q ≤ 2) : q ∈ small := by
  have : q = -2 ∨ q = -1 ∨ q = 0 ∨ q = 1 ∨ q = 2 := by (first | lia | omega)
  rcases this with rfl | rfl | rfl | rfl | rfl <;> decide
theorem tidy_of {c : Ch} (h : c.ok 11 11) (t : c.tiny) : c.tidy := by
  have hd : ∀ s, dim s 11 11 = 11 := fun s => by cases s <;> rfl
  cases c with
  | add s i j q =>
    intro n hn
    have h1 : i < 11 := by have := h.1; rw [hd] at this; exact this
    have h2 : j < 11 := by have := h.2.1; rw [hd] at this; exact this
    simp only [Ch.parts, List.mem_cons, List.not_mem_nil, or_false] at hn
    rcases hn with rfl | rfl | rfl
    · exact place_small h1
    · exact place_small h2
    · exact tiny_small t
  | swap s i j =>
    intro n hn
    have h1 : i < 11 := by have := h.1; rw [hd] at this; exact this
    have h2 : j < 11 := by have := h.2.1; rw [hd] at this; exact this
    simp only [Ch.parts, List.mem_cons, List.not_mem_nil, or_false] at hn
    rcases hn with rfl | rfl
    · exact place_small h1
    · exact place_small h2
  | turn s i =>
    intro n hn
    have h1 : i < 11 := by have := (show i < dim s 11 11 from h); rw [hd] at this; exact this
    simp only [Ch.parts, List.mem_cons, List.not_mem_nil, or_false] at hn
    rcases hn with rfl
    exact place_small h1
theorem far_tidy {s : Bool} {i j : Nat} {q r : Int} (h : Ch.tidy (.add s i j q)) (hr : r ∈ small) : Ch.tidy (.add s i j r) := fun n hn => by
  simp only [Ch.parts, List.mem_cons, List.not_mem_nil, or_false] at hn
  rcases hn with rfl | rfl | rfl
  · exact h _ (by simp [Ch.parts])
  · exact h _ (by simp [Ch.parts])
  · exact hr
theorem word_get (c : Ch) : getN c.word kD = .int ((partsT c).length : Nat) := by
  cases c
  · show getN "add" kD = .int 5; decide +kernel
  · show getN "swap" kD = .int 4; decide +kernel
  · show getN "turn" kD = .int 3; decide +kernel
theorem pair_nums : ∀ {ns : List Int}, (∀ n ∈ ns, n ∈ small) → Paired (fun t n => numC t (some n) = true) (ns.map fun n => (toString n : Str)) ns
  | [], _ => .nil
  | n :: ns, h => .cons (small_num n (h n List.mem_cons_self)) (pair_nums fun m hm => h m (List.mem_cons_of_mem _ hm))
theorem ok_q0f {c : Ch} (h : c.ok 11 11) : badQ (c.parts.take 2) = false := by
  cases c with
  | add s i j q =>
    have hne : i ≠ j := h.2.2
    show badQ [(i : Int), (j : Int)] = false
    unfold badQ
    have e1 : ¬ (i : Int) < 0 := by (first | lia | omega)
    have e2 : ¬ (j : Int) < 0 := by (first | lia | omega)
    have e3 : ¬ (i : Int) = (j : Int) := by (first | lia | omega)
    simp [e1, e2, e3]
  | swap s i j =>
    have hne : i ≠ j := h.2.2
    show badQ [(i : Int), (j : Int)] = false
    unfold badQ
    have e1 : ¬ (i : Int) < 0 := by (first | lia | omega)
    have e2 : ¬ (j : Int) < 0 := by (first | lia | omega)
    have e3 : ¬ (i : Int) = (j : Int) := by (first | lia | omega)
    simp [e1, e2, e3]
  | turn s i =>
    show badQ [(i : Int)] = false
    unfold badQ
    have e1 : ¬ (i : Int) < 0 := by (first | lia | omega)
    simp [e1]
theorem chV_pl (c : Ch) : (chV c).all plV = true := by
  rw [chV_eq, List.all_cons, List.all_cons, Bool.and_eq_true, Bool.and_eq_true]
  refine ⟨words (R := fun z => PyData.strOk z = true) c (by decide +kernel) (by decide +kernel) (by decide +kernel), ?_, ?_⟩
  · show PyData.strOk (sd c.side) = true
    cases c.side <;> decide +kernel
  · rw [List.all_map]
    exact List.all_eq_true.mpr fun _ _ => rfl
theorem far_at (i : Nat) : ∃ r ∈ small, atI [V.int 100000000000000000000, V.int (-100000000000000000000)] ((i : Int) % 2) = some (.int r) := by
  have h1 : 0 ≤ (i : Int) % 2 := Int.emod_nonneg _ (by decide)
  have h2 : (i : Int) % 2 < 2 := Int.emod_lt_of_pos _ (by decide)
  have : (i : Int) % 2 = 0 ∨ (i : Int) % 2 = 1 := by (first | lia | omega)
  rcases this with h | h
  · exact ⟨100000000000000000000, by decide, by rw [h]; rfl⟩
  · exact ⟨-100000000000000000000, by decide, by rw [h]; rfl⟩
section
variable {P : Program} {w : World} {K : PySem.W.Frag} {mg : Str → Option Value} {base : Heap}
def spLaw (K : PySem.W.Frag) : Sp := fun vs H Q _ => ∃ (a : Addr) (ns : List Int), vs = [.ref a] ∧ SqL K H a (ns.map V.int) ∧ ns.length ≤ 63 ∧ ∀ H', Q (.bl true) H'
set_option maxHeartbeats 4000000 in
theorem ok_q0c {c_NoLine : Addr} (D : DefAt K mg "law" s_q0c ["_law_script"]) (T : Bt mg) (C_q08 : Callee P w K mg base 1 "_law_change_of" ["_law_cell", "_law_k", "_law_high", "_law_wide"] spChOf) (C_q00 : Callee P w K mg base 2 "shown" ["change"] spShown) (C_q01 : Callee P w K mg base 3 "read" ["line"] (fun vs H Q _ => spRead c_NoLine vs H Q fun _ _ _ => False)) (C_q09 : Callee P w K mg base 2 "_law_are_changes" ["_law_found", "_law_high", "_law_wide"] spAreC) (C_q0a : Callee P w K mg base 4 "_law_refused" ["_law_line"] spRefd) (C_q0b : Callee P w K mg base 1 "_law_bad_line" ["_law_k"] spBad) : Callee P w K mg base 5 "law" ["_law_script"] (spLaw K) := by
  refine D.ok (k := 4) sc_q0c (fun vs H Q E h => ?_) (fun f cdv A outer s H vs Q E hr h => ?_)
  · obtain ⟨_, _, rfl, _⟩ := h
    rfl
  · obtain ⟨a0, ns, rfl, ha0, hlen, k⟩ := h
    refine ⟨_, (pss_cons (ps_set (i := 0) sc_q0c.nd rfl (Or.inl rfl) (pe_slice sl_list (pv 0) po_none (po_some pe_int)))
        (pss_cons (ps_for PassesOwn.never rfl (pi_range1 rfl T.range (pa_cons (pe_op op_add (pe_callB call_len_seq rfl T.len bt_len (pa_cons (pv 0) pa_nil)) pe_int) pa_nil)) (pg_name (i := 1) sc_q0c.nd rfl (Or.inl rfl)) (pss_cons (ps_set (i := 2) sc_q0c.nd rfl (Or.inl rfl) pe_int)
        (pss_consX (ps_if (pt_cmpR op_lt (pv 1) (pe_callB call_len_seq rfl T.len bt_len (pa_cons (pv 0) pa_nil)) (nomark _)) (pss_one (ps_set (i := 2) sc_q0c.nd rfl (Or.inl rfl) (pe_ix ix_list (pv 0) (pv 1) (fun _ _ => rfl)))) pss_nil)
        (pss_cons (ps_set (i := 3) sc_q0c.nd rfl (Or.inl rfl) (pe_callC C_q08 (hr.mono (by decide)) rfl (pa_cons (pv 2) (pa_cons (pv 1) (pa_cons pe_int (pa_cons pe_int pa_nil))))))
        (pss_consX (ps_if (PW.pt (pw_and (pt_cmpR op_eq (pe_ix ix_tup (pv 3) pe_int (fun _ _ => rfl)) pe_str (nomark _)) (pw_and1 (pt_cmpR op_eq (pe_op op_mod (pv 2) pe_int) pe_int (nomark _))))) (pss_cons (ps_set (i := 4) sc_q0c.nd rfl (Or.inl rfl) (pe_ix ix_list (pe_lst (pa_cons pe_int (pa_cons (pe_un un_neg pe_int) pa_nil))) (pe_op op_mod (pv 1) pe_int) (fun _ _ => rfl)))
        (pss_one (ps_set (i := 3) sc_q0c.nd rfl (Or.inl rfl) (pe_op op_catT (pe_slice sl_tup (pv 3) po_none (po_some pe_int)) (pe_tup (pa_cons (pv 4) pa_nil)))))) pss_nil)
        (pss_cons (ps_set (i := 5) sc_q0c.nd rfl (Or.inl rfl) (pe_op op_add_str (pe_op op_add_str (pe_ix ix_tup (pv 3) pe_int (fun _ _ => rfl)) pe_str) (pe_ix ix_tup (pv 3) pe_int (fun _ _ => rfl))))
        (pss_cons (ps_for PassesOwn.never rfl (pi_tup (pe_slice sl_tup (pv 3) (po_some pe_int) po_none)) (pg_name (i := 6) sc_q0c.nd rfl (Or.inl rfl)) (pss_one (ps_set (i := 5) sc_q0c.nd rfl (Or.inl rfl) (pe_op op_add_str (pe_op op_add_str (pv 5) pe_str) (pe_callTy call_str_int rfl T.str bt_str (pa_cons (pv 6) pa_nil))))))
        (pss_cons (ps_set (i := 7) sc_q0c.nd rfl (Or.inl rfl) (pe_callC C_q00 (hr.mono (by decide)) rfl (pa_cons (pv 3) pa_nil)))
        (pss_cons (ps_if (PW.pt (pw_or (pt_not (pt_val (pe_callB call_isi rfl T.isinstance bt_isinstance (pa_cons (pv 7) (pa_cons (pe_bltn (v := .ty "str") rfl T.str bt_str rfl) pa_nil))))) (pw_or1 (pt_cmpR op_ne (pv 7) (pv 5) (nomark _))))) (pss_one (ps_ret pe_bl)) pss_nil)
        (pss_cons (ps_set (i := 8) sc_q0c.nd rfl (Or.inl rfl) (pe_callC C_q01 (hr.mono (by decide)) rfl (pa_cons (pv 5) pa_nil)))
        (pss_cons (ps_if (PW.pt (pw_or (pt_not (pt_val (pe_callC C_q09 (hr.mono (by decide)) rfl (pa_cons (pe_lst (pa_cons (pv 8) pa_nil)) (pa_cons pe_int (pa_cons pe_int pa_nil)))))) (pw_or1 (pt_cmpR (op_neSame hr.units) (pv 8) (pv 3) (nomark _))))) (pss_one (ps_ret pe_bl)) pss_nil)
        (pss_one (ps_if (pt_not (pt_val (pe_callC C_q0a (hr.mono (by decide)) rfl (pa_cons (pe_callC C_q0b (hr.mono (by decide)) rfl (pa_cons (pv 1) pa_nil)) pa_nil)))) (pss_one (ps_ret pe_bl)) pss_nil)))))))))))))
        (pss_one (ps_ret pe_bl)))), ?_⟩
    refine ⟨_, rfl, _, rfl, a0, _, rfl, ha0, fun a hpa => ?_⟩
    have ecut : cutV (ns.map V.int) none (some 500) = ns.map V.int := cut_all (by rw [List.length_map]; (first | lia | omega))
    rw [ecut]
    have ha : SqL K (upd H a (.lst (ns.map V.int))) a (ns.map V.int) := SqL.of upd_same
    generalize upd H a (.lst (ns.map V.int)) = H0 at ha ⊢
    refine ⟨_, rfl, a, _, rfl, .inl ha, _, _, rfl, rfl, _, rfl, by (first | lia | omega), by rw [List.length_map]; (first | lia | omega), ?_⟩
    rw [List.length_map]
    have en : ((ns.length : Int) + 1).toNat = ns.length + 1 := by (first | lia | omega)
    refine for_it (J := Itr 0 _) (n := ns.length + 1) (fun i σ H2 => Same H0 H2 ∧ ∃ v1 v2 v3 v4 v5 v6 v7 v8, σ = [some (.ref a), v1, v2, v3, v4, v5, v6, v7, v8]) ⟨Same.refl _, none, none, none, none, none, none, none, none, rfl⟩ (fun i σ H2 hi _ => by show i < Int.toNat _; rw [en]; exact hi) (fun σ H2 _ => by show Int.toNat _ ≤ _; rw [en]; exact Nat.le_refl _) ?_ ?_
    · rintro i x σ H2 H3 hi ⟨s2, v1, v2, v3, v4, v5, v6, v7, v8, rfl⟩ ⟨rfl, hx0⟩
      obtain rfl := z0 hx0
      have ha2 := s2.seq ha
      refine ⟨fun σ' H' => ∃ cell : Int, σ' = [some (.ref a), some (.int (i : Nat)), some (.int cell), v3, v4, v5, v6, v7, v8] ∧ H' = H3, ?_, ?_⟩
      · refine ⟨_, rfl, _, rfl, a, _, rfl, .inl ha2, _, _, rfl, rfl, _, rfl, ?_⟩
        rw [List.length_map]
        by_cases hlt : i < ns.length
        · refine iteP (by (first | lia | omega)) ⟨_, rfl, _, rfl, a, _, _, _, rfl, rfl, ha2, atI_nat (iget (getD_some rfl hlt)), _, rfl, rfl⟩
        · exact iteN (by (first | lia | omega)) ⟨_, rfl, rfl⟩
      rintro σ' H' ⟨cell, rfl, rfl⟩
      refine ⟨_, rfl, _, rfl, cell, i, 11, 11, rfl, by decide, by decide, fun p0 c0 H4 s4 hc0 hok0 ht0 => ?_⟩
      refine ⟨fun σ' H' => ∃ (p : Addr) (c : Ch) (v4 : Option V), σ' = [some (.ref a), some (.int (i : Nat)), some (.int cell), some (.ref p), v4, v5, v6, v7, v8] ∧ Same H4 H' ∧ IsCh H' p c ∧ c.ok 11 11 ∧ c.tidy, ?_, ?_⟩
      · have hc0' : H4 p0 = some (.tup (chV c0)) := hc0
        have stay : ∃ (p : Addr) (c : Ch) (v4' : Option V), [some (V.ref a), some (.int (i : Nat)), some (.int cell), some (.ref p0), v4, v5, v6, v7, v8] = [some (.ref a), some (.int (i : Nat)), some (.int cell), some (.ref p), v4', v5, v6, v7, v8] ∧ Same H4 H4 ∧ IsCh H4 p c ∧ c.ok 11 11 ∧ c.tidy := ⟨p0, c0, v4, rfl, Same.refl _, hc0, hok0, tidy_of hok0 ht0⟩
        refine ⟨_, rfl, p0, _, _, _, rfl, rfl, SqT.of hc0', chV_0 c0, rfl, _, rfl, ?_⟩
        cases c0 with
        | swap s i0 j0 => exact iteN ne_swap_add stay
        | turn s i0 => exact iteN ne_turn_add stay
        | add s i0 j0 q0 =>
          refine iteP rfl ⟨_, rfl, _, _, rfl, rfl, (by show (0 : Int) < 4; decide), rfl, _, rfl, ?_⟩
          by_cases hm : cell % 4 = 1
          · obtain ⟨r, hr1, hr2⟩ := far_at i
            refine iteP (congrArg V.int hm) ⟨_, rfl, by show 2 ≤ sizeLine; decide, fun l hl => ?_⟩
            refine ⟨_, rfl, _, _, rfl, rfl, (by show (0 : Int) < 2; decide), l, _, _, _, rfl, rfl, SqL.of upd_same, hr2, ?_⟩
            have s5 := same_upd (o := .lst [V.int 100000000000000000000, V.int (-100000000000000000000)]) hl
            have hc5 := s5 _ _ hc0'
            generalize upd H4 l (.lst [V.int 100000000000000000000, V.int (-100000000000000000000)]) = H5 at s5 hc5 ⊢
            refine ⟨_, rfl, _, rfl, p0, _, rfl, SqT.of hc5, ?_, fun q hq => ?_⟩
            · exact fun z => absurd (show HT.sIx 5 5 (some 4) = 5 from z.2) (by decide)
            have s6 := s5.laid (o := .tup [V.str "add", .str (sd s), .int (i0 : Nat), .int (j0 : Nat)]) hq
            refine ⟨_, rfl, by show 1 ≤ sizeLine; decide, fun t ht => ⟨q, t, [V.str "add", .str (sd s), .int (i0 : Nat), .int (j0 : Nat)], [.int r], rfl, rfl, SqT.of (old upd_same ht), SqT.of upd_same, by simp, by show 5 ≤ sizeLine; decide, (fun z => by cases z), fun _ p hp => ?_⟩⟩
            exact ⟨p, .add s i0 j0 r, _, rfl, (s6.laid ht).laid hp, upd_same, hok0, far_tidy (tidy_of hok0 ht0) hr1⟩
          · exact iteN (v_ne hm) stay
      rintro σ' H' ⟨p, c, v4', rfl, s5, hc, hok, htd⟩
      have hc' : H' p = some (.tup (chV c)) := hc
      have bl := base_len c
      have bl1 : c.word.length + (" " : Str).length ≤ sizeLine := line60 (by have := word_len6 c; rw [sp_len]; (first | lia | omega))
      have bl2 : (c.word ++ (" " : Str)).length + (sd c.side).length ≤ sizeLine := line60 (by rw [← str_len]; (first | lia | omega))
      refine ⟨_, rfl, p, _, _, _, rfl, rfl, SqT.of hc', chV_0 c, _, _, rfl, rfl, bl1, _, rfl, p, _, _, _, rfl, rfl, SqT.of hc', chV_1 c, _, _, rfl, rfl, bl2, ?_⟩
      refine ⟨_, rfl, _, rfl, p, _, rfl, SqT.of hc', nw2 c, fun q hq => ?_⟩
      rw [cut_parts]
      have s6 := s5.laid (o := .tup (c.parts.map V.int)) hq
      have hc6 : (upd H' q (.tup (c.parts.map V.int))) p = some (.tup (chV c)) := old hc' hq
      have hq6 : (upd H' q (.tup (c.parts.map V.int))) q = some (.tup (c.parts.map V.int)) := upd_same
      generalize upd H' q (.tup (c.parts.map V.int)) = H6 at s6 hc6 hq6 ⊢
      have hpl : c.parts.length ≤ 3 := by
        cases c
        · exact (by decide : 3 ≤ 3)
        · exact (by decide : 2 ≤ 3)
        · exact (by decide : 1 ≤ 3)
      refine ⟨q, rfl, ⟨_, SqT.of hq6⟩, for_tup (K := K) (a := q) (xs := c.parts.map V.int) (fun j σ H7 => H7 = H6 ∧ ∃ v6, σ = [some (.ref a), some (.int (i : Nat)), some (.int cell), some (.ref p), v4', some (.str (accL (c.word ++ (" " : Str) ++ sd c.side) (c.parts.take j))), v6, v7, v8]) ⟨rfl, v6, rfl⟩ (fun j σ H7 _ h => by rw [h.1]; exact SqT.of hq6) ?_ ?_⟩
      · rintro j z σ H7 hj ⟨rfl, v6, rfl⟩
        obtain ⟨n, en', rfl⟩ := mint hj
        have hn := htd n (List.mem_of_getElem? en')
        have hjl : j < c.parts.length := (List.getElem?_eq_some_iff.mp en').1
        have al := acc_len (c.parts.take j) (c.word ++ (" " : Str) ++ sd c.side) fun m hm => htd m (List.mem_of_mem_take hm)
        rw [List.length_take] at al
        have nl := small_len n hn
        have a1 : (accL (c.word ++ (" " : Str) ++ sd c.side) (c.parts.take j)).length + (" " : Str).length ≤ sizeLine := line60 (by rw [sp_len]; (first | lia | omega))
        have a2 : (accL (c.word ++ (" " : Str) ++ sd c.side) (c.parts.take j) ++ (" " : Str)).length + (toString n : Str).length ≤ sizeLine := line60 (by rw [str_len, sp_len]; (first | lia | omega))
        refine ⟨_, rfl, _, _, rfl, rfl, a1, _, rfl, n, rfl, (small_log n hn).1, _, _, rfl, rfl, a2, rfl, some (.int n), ?_⟩
        have et : accL (c.word ++ (" " : Str) ++ sd c.side) (c.parts.take (j + 1)) = accL (c.word ++ (" " : Str) ++ sd c.side) (c.parts.take j) ++ (" " : Str) ++ (toString n : Str) := by
          rw [List.take_succ, en']
          show List.foldl _ _ (_ ++ [n]) = _
          rw [List.foldl_append]
          rfl
        rw [et]
        rfl
      · rintro σ H7 ⟨rfl, v6, rfl⟩
        rw [List.length_map, List.take_length, line_eq]
        refine ⟨_, rfl, p, c, rfl, hc6, htd, fun H8 s8 => ?_⟩
        refine ⟨_, rfl, _, _, _, rfl, .str _, by simp, _, rfl, iteB0 (by decide) ⟨_, rfl, _, rfl, rfl, _, rfl, iteNS rfl ?_⟩⟩
        have hc8 := s8 _ _ hc6
        refine ⟨_, rfl, lineT c, rfl, line_len htd, by rw [split_line htd]; have := parts_num c; (first | lia | omega), .inr ⟨c.word, sd c.side, _, c.parts, split_line htd, word_get c, sd_in c.side, by cases c <;> simp [Ch.parts], pair_nums htd, ok_q0f hok, fun p9 H9 s9 hp9 => ?_⟩⟩
        rw [← chV_eq] at hp9
        have hc9 := s9 _ _ hc8
        refine ⟨_, rfl, by show 1 ≤ sizeLine; decide, fun l hl => ?_⟩
        have s10 := same_upd (o := .lst [V.ref p9]) hl
        have hp10 := s10 _ _ hp9
        have hc10 := s10 _ _ hc9
        have hl10 : (upd H9 l (.lst [V.ref p9])) l = some (.lst [V.ref p9]) := upd_same
        generalize upd H9 l (.lst [V.ref p9]) = H10 at s10 hp10 hc10 hl10 ⊢
        refine ⟨l, [p9], [c], 11, 11, rfl, ⟨hl10, .cons hp10 .nil⟩, (fun d hd => by rw [List.mem_singleton.mp hd]; exact hok), fun H11 s11 => ?_⟩
        refine ⟨_, rfl, iteF ⟨_, rfl, _, rfl, p9, p, chV c, rfl, rfl, s11 _ _ hp10, s11 _ _ hc10, chV_pl c, _, rfl, iteF ?_⟩⟩
        refine ⟨_, rfl, i, rfl, fun z hz H12 s12 => ⟨z, rfl, bad_q0d z hz, fun H13 s13 => ⟨_, rfl, iteF ?_⟩⟩⟩
        exact ⟨(s2.trans (s4.trans s6)).trans (s8.trans (s9.trans (s10.trans (s11.trans (s12.trans s13))))), _, _, _, _, _, _, _, _, rfl⟩
    · rintro σ H2 ⟨s2, v1, v2, v3, v4, v5, v6, v7, v8, rfl⟩
      exact k H2
end
end X1
namespace X1
open PySem L2
structure FD (K : PySem.W.Frag) (x : Str) (st : Stmt) : Prop where
  ex : ∃ (f : Addr), PySem.W.nsIn K mainGlobals x = some (some (.ref f)) ∧ ∃ (oc : Value) (od an : Option Addr) (sl : Array (Option Value)) (kV dc pm cd ct : Value), K.lookup f = some ⟨oc, od, .func (PySem.W.fnOf x x (defArgs st) (defBody st) (defScope st) .none kV dc pm an cd ct), sl⟩ ∧ PySem.W.codeIn K cd x = true ∧ PySem.W.keepIn K (.ref f) = true
theorem FD.d {K : PySem.W.Frag} {h : Heap} {mg : Str → Option Value} {x : Str} {st : Stmt} (F : FD K x st) (X : K.In h) (G : h.Ns mainGlobals mg) (ps : List Str) (hb : ∀ (kV doc pm : Value) (an : Option Addr) (cdv ct : Value) (us : List Value), us.length = ps.length → bindArgs (PySem.W.fnOf x x (defArgs st) (defBody st) (defScope st) .none kV doc pm an cdv ct) ⟨us, []⟩ = pure (ps.zip us)) : DefAt K mg x st ps := by
  obtain ⟨f, a, oc, od, an, sl, kV, dc, pm, cd, ct, l, c, k⟩ := F.ex
  exact def_mk X G a l c k hb
structure FM (K : PySem.W.Frag) (C : Addr) (x q : Str) (st : Stmt) : Prop where
  ex : ∃ (f : Addr), PySem.W.findIn K (.ref C) x = some (some (.ref f)) ∧ PySem.W.isFn K (.ref f) = true ∧ ∃ (oc : Value) (od an : Option Addr) (sl : Array (Option Value)) (kV dc pm cd ct : Value), K.lookup f = some ⟨oc, od, .func (PySem.W.fnOf x q (defArgs st) (defBody st) (defScope st) .none kV dc pm an cd ct), sl⟩ ∧ PySem.W.codeIn K cd q = true ∧ PySem.W.keepIn K (.ref f) = true
theorem FM.d {K : PySem.W.Frag} {C : Addr} {x q : Str} {st : Stmt} (F : FM K C x q st) (ps : List Str) (hb : ∀ (kV doc pm : Value) (an : Option Addr) (cdv ct : Value) (us : List Value), us.length = ps.length → bindArgs (PySem.W.fnOf x q (defArgs st) (defBody st) (defScope st) .none kV doc pm an cdv ct) ⟨us, []⟩ = pure (ps.zip us)) : MDefAt K C x q st ps := by
  obtain ⟨f, a, i, oc, od, an, sl, kV, dc, pm, cd, ct, l, c, k⟩ := F.ex
  exact ⟨_, _, fun_mk l c k, ⟨a, i, k⟩, (fun_mk l c k).binds hb⟩
theorem lenL1 {us : List Value} (h : us.length = 1) : ∃ x0, us = [x0] := match us, h with | [x0], _ => ⟨x0, rfl⟩
theorem lenL3 {us : List Value} (h : us.length = 3) : ∃ x0 x1 x2, us = [x0, x1, x2] := match us, h with | [x0, x1, x2], _ => ⟨x0, x1, x2, rfl⟩
theorem lenL4 {us : List Value} (h : us.length = 4) : ∃ x0 x1 x2 x3, us = [x0, x1, x2, x3] := match us, h with | [x0, x1, x2, x3], _ => ⟨x0, x1, x2, x3, rfl⟩
set_option maxHeartbeats 4000000 in
theorem all_mk {l : PySem.W.OpenLaw} {w : World} {K : PySem.W.Frag} {h : Heap} {mg : Str → Option Value} {fa : Addr} (X : K.In h) (G : h.Ns mainGlobals mg) (hfa : mg "law" = some (.ref fa))
    {f12 : Addr} {od12 an12 : Option Addr} {sl12 : Array (Option Value)} {oc12 kV12 dc12 pm12 cd12 ct12 : Value}
    {c_NoLine : Addr}
    {c_TableError : Addr}
    {aH : Addr}
    {aS : Addr}
    (d0 : FD K "written" s_q03)
    (d1 : FD K "are_figures" s_q05)
    (d2 : FD K "size_of" s_q06)
    (d3 : FD K "number_of" s_q04)
    (d4 : FD K "refuse_bad_places" s_q02)
    (d5 : FD K "read" s_q01)
    (d6 : FD K "shown" s_q00)
    (d7 : FD K "_law_whole" s_q07)
    (d8 : FD K "_law_change_of" s_q08)
    (d9 : FD K "_law_are_changes" s_q09)
    (d10 : FD K "_law_refused" s_q0a)
    (d11 : FD K "_law_bad_line" s_q0b)
    (a12 : PySem.W.nsIn K mainGlobals "law" = some (some (.ref f12)))
    (l12 : K.lookup f12 = some ⟨oc12, od12, .func (PySem.W.fnOf "law" "law" (defArgs s_q0c) (defBody s_q0c) (defScope s_q0c) .none kV12 dc12 pm12 an12 cd12 ct12), sl12⟩) (c12 : PySem.W.codeIn K cd12 "law" = true) (k12 : PySem.W.keepIn K (.ref f12) = true)
    (ax_NoLine : PySem.W.nsIn K mainGlobals "NoLine" = some (some (.ref c_NoLine)))
    (qx_NoLine : PySem.W.excIn K c_NoLine veB "ValueError.__new__" = true)
    (k1_NoLine : (PySem.W.clsIn K c_NoLine).isSome = true)
    (ga_NoLine : PySem.W.findIn K (.ref c_NoLine) "__getattribute__" = some (some (.builtin "BaseException.__getattribute__")))
    (gn_NoLine : PySem.W.findIn K (.ref c_NoLine) "__getattr__" = some none)
    (mb_NoLine : PySem.W.mroIn K c_NoLine (.type "BaseException") = some true)
    (k3_NoLine : PySem.W.findIn K (.ref c_NoLine) "__class__" = some (some (.builtin "object.__class__")))
    (k6_NoLine : PySem.W.mroIn K c_NoLine (.type "object") = some true)
    (ax_TableError : PySem.W.nsIn K mainGlobals "TableError" = some (some (.ref c_TableError)))
    (qx_TableError : PySem.W.excIn K c_TableError veB "ValueError.__new__" = true)
    (k1_TableError : (PySem.W.clsIn K c_TableError).isSome = true)
    (ga_TableError : PySem.W.findIn K (.ref c_TableError) "__getattribute__" = some (some (.builtin "BaseException.__getattribute__")))
    (gn_TableError : PySem.W.findIn K (.ref c_TableError) "__getattr__" = some none)
    (mb_TableError : PySem.W.mroIn K c_TableError (.type "BaseException") = some true)
    (k3_TableError : PySem.W.findIn K (.ref c_TableError) "__class__" = some (some (.builtin "object.__class__")))
    (k6_TableError : PySem.W.mroIn K c_TableError (.type "object") = some true)
    (kn : PySem.W.specialIn K (.builtin "object.__class__") "__get__" = some (some (.builtin "getset_descriptor.__get__"))) (kt : PySem.W.takesIn K (.builtin "object.__class__") = some true)
    (ER0 : PySem.W.exmOne K (.ref c_NoLine) (.ref c_TableError) = some true)
    (ER1 : PySem.W.kitOne K (.ref c_NoLine) (.ref c_NoLine) = some true)
    (ER2 : PySem.W.kitOne K (.ref c_NoLine) (.type "ValueError") = some true)
    (MD0 : PySem.W.nsIn K mainGlobals "HOW_MANY_PARTS" = some (some (.ref aH)))
    (MD1 : dictIn K aH kD = true)
    (MD2 : PySem.W.nsIn K mainGlobals "SIDES" = some (some (.ref aS)))
    (MD3 : tupIn K aS ["row", "column"] = true)
    (z0 : PySem.W.nsIn K mainGlobals "len" = some none)
    (z1 : PySem.W.nsIn K mainGlobals "list" = some none)
    (z2 : PySem.W.nsIn K mainGlobals "tuple" = some none)
    (z3 : PySem.W.nsIn K mainGlobals "int" = some none)
    (z4 : PySem.W.nsIn K mainGlobals "bool" = some none)
    (z5 : PySem.W.nsIn K mainGlobals "str" = some none)
    (z6 : PySem.W.nsIn K mainGlobals "range" = some none)
    (z7 : PySem.W.nsIn K mainGlobals "zip" = some none)
    (z8 : PySem.W.nsIn K mainGlobals "enumerate" = some none)
    (z9 : PySem.W.nsIn K mainGlobals "reversed" = some none)
    (z10 : PySem.W.nsIn K mainGlobals "isinstance" = some none)
    (z11 : PySem.W.nsIn K mainGlobals "min" = some none)
    (zabs : PySem.W.nsIn K mainGlobals "abs" = some none)
    (zall : PySem.W.nsIn K mainGlobals "all" = some none)
    (zve : PySem.W.nsIn K mainGlobals "ValueError" = some none) :
    ∃ fd : FuncData, (∀ (s : Shared) (v : Value), BindsTo s fd ⟨[v], []⟩ [("_law_script", v)]) ∧ ∀ base : Heap, K.In base → base.Ns mainGlobals mg → FnOk l.prog w K mg base CX0 5 fa fd ["_law_script"] (spLaw K) := by
  have e := hfa.symm.trans (PySem.W.mg_of X G a12)
  cases e
  have T : Bt mg := ⟨PySem.W.mg_none_of X G z0, PySem.W.mg_none_of X G z1, PySem.W.mg_none_of X G z2, PySem.W.mg_none_of X G z3, PySem.W.mg_none_of X G z4, PySem.W.mg_none_of X G z5, PySem.W.mg_none_of X G z6, PySem.W.mg_none_of X G z7, PySem.W.mg_none_of X G z8, PySem.W.mg_none_of X G z9, PySem.W.mg_none_of X G z10, PySem.W.mg_none_of X G z11⟩
  have e_NoLine : ECls K mg "NoLine" c_NoLine := ⟨PySem.W.mg_of X G ax_NoLine, qx_NoLine, ⟨k1_NoLine, ga_NoLine, gn_NoLine, mb_NoLine, k3_NoLine, kn, kt, k6_NoLine⟩⟩
  have e_TableError : ECls K mg "TableError" c_TableError := ⟨PySem.W.mg_of X G ax_TableError, qx_TableError, ⟨k1_TableError, ga_TableError, gn_TableError, mb_TableError, k3_TableError, kn, kt, k6_TableError⟩⟩
  have ER : ErrL K c_NoLine c_TableError := ⟨ER0, ER1, ER2⟩
  have MD : Made K aH aS := ⟨MD0, MD1, MD2, MD3⟩
  have D_q03 := d0.d X G ["number"] fun _ _ _ _ _ _ us hl => by obtain ⟨_, rfl⟩ := lenL1 hl; rfl
  have D_q05 := d1.d X G ["text"] fun _ _ _ _ _ _ us hl => by obtain ⟨_, rfl⟩ := lenL1 hl; rfl
  have D_q06 := d2.d X G ["figures"] fun _ _ _ _ _ _ us hl => by obtain ⟨_, rfl⟩ := lenL1 hl; rfl
  have D_q04 := d3.d X G ["text"] fun _ _ _ _ _ _ us hl => by obtain ⟨_, rfl⟩ := lenL1 hl; rfl
  have D_q02 := d4.d X G ["places"] fun _ _ _ _ _ _ us hl => by obtain ⟨_, rfl⟩ := lenL1 hl; rfl
  have D_q01 := d5.d X G ["line"] fun _ _ _ _ _ _ us hl => by obtain ⟨_, rfl⟩ := lenL1 hl; rfl
  have D_q00 := d6.d X G ["change"] fun _ _ _ _ _ _ us hl => by obtain ⟨_, rfl⟩ := lenL1 hl; rfl
  have D_q07 := d7.d X G ["_law_found"] fun _ _ _ _ _ _ us hl => by obtain ⟨_, rfl⟩ := lenL1 hl; rfl
  have D_q08 := d8.d X G ["_law_cell", "_law_k", "_law_high", "_law_wide"] fun _ _ _ _ _ _ us hl => by obtain ⟨_, _, _, _, rfl⟩ := lenL4 hl; rfl
  have D_q09 := d9.d X G ["_law_found", "_law_high", "_law_wide"] fun _ _ _ _ _ _ us hl => by obtain ⟨_, _, _, rfl⟩ := lenL3 hl; rfl
  have D_q0a := d10.d X G ["_law_line"] fun _ _ _ _ _ _ us hl => by obtain ⟨_, rfl⟩ := lenL1 hl; rfl
  have D_q0b := d11.d X G ["_law_k"] fun _ _ _ _ _ _ us hl => by obtain ⟨_, rfl⟩ := lenL1 hl; rfl
  have D_q0c : DefAt K mg "law" s_q0c ["_law_script"] := def_mk X G a12 l12 c12 k12 fun _ _ _ _ _ _ us hl => by obtain ⟨_, rfl⟩ := lenL1 hl; rfl
  refine ⟨PySem.W.fnOf "law" "law" (defArgs s_q0c) (defBody s_q0c) (defScope s_q0c) .none kV12 dc12 pm12 an12 cd12 ct12, fun s v => .of_eq rfl, fun base _ _ => ?_⟩
  have C_q03 := ok_q03 (P := l.prog) (w := w) (base := base) D_q03 T (PySem.W.mg_none_of X G zabs)
  have C_q05 := ok_q05 (P := l.prog) (w := w) (base := base) D_q05 T (PySem.W.mg_none_of X G zall)
  have C_q06 := ok_q06 (P := l.prog) (w := w) (base := base) D_q06 T
  have C_q04 := ok_q04 (P := l.prog) (w := w) (base := base) D_q04 T e_NoLine C_q05 C_q06
  have C_q02 := ok_q02 (P := l.prog) (w := w) (base := base) D_q02 T e_NoLine
  have C_q01 := ok_q01 (P := l.prog) (w := w) (base := base) D_q01 T (PySem.W.mg_of X G MD.nH) (PySem.W.mg_of X G MD.nS) MD e_NoLine C_q04 C_q02
  have C_q00 := ok_q00 (P := l.prog) (w := w) (base := base) D_q00 T C_q03
  have C_q07 := ok_q07 (P := l.prog) (w := w) (base := base) D_q07 T
  have C_q08 := ok_q08 (P := l.prog) (w := w) (base := base) D_q08 T
  have C_q09 := ok_q09 (P := l.prog) (w := w) (base := base) D_q09 T C_q07
  have C_q0a := ok_q0a (P := l.prog) (w := w) (base := base) D_q0a T (PySem.W.mg_none_of X G zve) e_NoLine e_TableError ER C_q01.1
  have C_q0b := ok_q0b (P := l.prog) (w := w) (base := base) D_q0b T
  have C_q0c := ok_q0c (P := l.prog) (w := w) (base := base) D_q0c T C_q08 C_q00 C_q01.2 C_q09 C_q0a C_q0b
  obtain ⟨f', fd', F', hm', _, _, oc', od', sl', lk'⟩ := C_q0c.ex
  rw [hfa] at hm'
  cases hm'
  rw [l12] at lk'
  cases lk'
  exact F'
theorem walk {l : PySem.W.OpenLaw} {q : Program} {loose : List Str} {XP : (Str → Option Value) → Heap → Prop} {YP : World → Heap → Prop} {d : DefRec} {K : Params → PySem.W.Frag} (hn : l.most = some 63) (hdf : d.params.defaults = [])
    (hY : ∀ (w : World) (h : Heap), YP w h → (K w.params).In h)
    (F : ∀ (w : World) (mg : Str → Option Value) (fa : Addr) (h : Heap), (K w.params).In h → h.Ns mainGlobals mg → mg d.name = some (.ref fa) →
      ∃ fd : FuncData, (∀ (s : Shared) (u : Value), BindsTo s fd ⟨[u], []⟩ [("_law_script", u)]) ∧ ∀ base : Heap, (K w.params).In base → base.Ns mainGlobals mg → FnOk l.prog w (K w.params) mg base CX0 5 fa fd ["_law_script"] (spLaw (K w.params))) :
    PySem.W.WalkO q loose XP YP l.row.toRowW d [] (fun f vs => PySem.call f vs) :=
  L2.walk_of (n := 63) (k := 5) (x := "_law_script") (CX := fun _ => CX0) (sp := fun w => spLaw (K w.params)) hn (by decide) hdf ⟨rfl, by decide, by decide⟩ hY F (fun _ _ a ns hl _ hS => ⟨a, ns, rfl, hS, hl, fun _ => rfl⟩) fun _ _ _ _ _ z => z
end X1
open PySem PySem.W PyProof.Rows
set_option maxRecDepth 100000 in
set_option maxHeartbeats 0 in
theorem PySem.Challenge.cw_crosstable_k08_changes_on_lines_holds : PySem.Challenge.rw_crosstable_k08_changes_on_lines.Holds := by
  w_on
  refine holds_law X1.saidL fun said => ?_
  refine holds_open (r := PySem.Challenge.rw_crosstable_k08_changes_on_lines.row) (q := X1.qv) (loose := X1.lsF) (Xt := X1.XtL) (XP := XL X1.qv []) (Yf := Hook.obs X1.HK) (Ya := Hook.val X1.HK) (YP := Hook.says X1.HK) (d := X1.lawRec) (kwd := []) (N := X1.NL) X1.leftL (Hook.of X1.HK) (Hook.keeps X1.HK) (fun s e => xl_of s (Bool.and_eq_true_iff.mp e).1) XL.keeps (by kernel_rfl) (by kernel_rfl) (by kernel_rfl) (fun s e => recFacts_of (Bool.and_eq_true_iff.mp e).2) (by kernel_rfl) said (by decide +kernel) X1.bareL ?hw ?hc
  case hw => w_witness2
  refine X1.walk (l := PySem.Challenge.rw_crosstable_k08_changes_on_lines) rfl (by kernel_rfl) (fun w h Y => PySem.W.kIn_of Y) ?F
  case F =>
    intro w mg fa h KX G hmg
    refine X1.all_mk (c_NoLine := 37)
      (c_TableError := 24)
      (aH := 40)
      (aS := 41)
      (f12 := 126) (od12 := none) (an12 := none) (sl12 := #[]) (oc12 := (.type "function")) (kV12 := .none) (dc12 := .none) (pm12 := (.str (Str.ofString "law_crosstable_k08_changes_on_lines") 293)) (cd12 := (.ref 125)) (ct12 := .none) KX G hmg ⟨65, by kernel_rfl, (.type "function"), none, none, #[], .none, .none, (.str (Str.ofString "crosstable.notes") 223), (.ref 64), .none, by kernel_rfl, by kernel_rfl, by kernel_rfl⟩ ⟨77, by kernel_rfl, (.type "function"), none, none, #[], .none, .none, (.str (Str.ofString "crosstable.notes") 223), (.ref 76), .none, by kernel_rfl, by kernel_rfl, by kernel_rfl⟩ ⟨84, by kernel_rfl, (.type "function"), none, none, #[], .none, .none, (.str (Str.ofString "crosstable.notes") 223), (.ref 83), .none, by kernel_rfl, by kernel_rfl, by kernel_rfl⟩ ⟨72, by kernel_rfl, (.type "function"), none, none, #[], .none, .none, (.str (Str.ofString "crosstable.notes") 223), (.ref 71), .none, by kernel_rfl, by kernel_rfl, by kernel_rfl⟩ ⟨58, by kernel_rfl, (.type "function"), none, none, #[], .none, .none, (.str (Str.ofString "crosstable.notes") 223), (.ref 57), .none, by kernel_rfl, by kernel_rfl, by kernel_rfl⟩ ⟨51, by kernel_rfl, (.type "function"), none, none, #[], .none, .none, (.str (Str.ofString "crosstable.notes") 223), (.ref 50), .none, by kernel_rfl, by kernel_rfl, by kernel_rfl⟩ ⟨46, by kernel_rfl, (.type "function"), none, none, #[], .none, .none, (.str (Str.ofString "crosstable.notes") 223), (.ref 45), .none, by kernel_rfl, by kernel_rfl, by kernel_rfl⟩ ⟨91, by kernel_rfl, (.type "function"), none, none, #[], .none, .none, (.str (Str.ofString "law_crosstable_k08_changes_on_lines") 293), (.ref 90), .none, by kernel_rfl, by kernel_rfl, by kernel_rfl⟩ ⟨98, by kernel_rfl, (.type "function"), none, none, #[], .none, .none, (.str (Str.ofString "law_crosstable_k08_changes_on_lines") 293), (.ref 97), .none, by kernel_rfl, by kernel_rfl, by kernel_rfl⟩ ⟨105, by kernel_rfl, (.type "function"), none, none, #[], .none, .none, (.str (Str.ofString "law_crosstable_k08_changes_on_lines") 293), (.ref 104), .none, by kernel_rfl, by kernel_rfl, by kernel_rfl⟩ ⟨112, by kernel_rfl, (.type "function"), none, none, #[], .none, .none, (.str (Str.ofString "law_crosstable_k08_changes_on_lines") 293), (.ref 111), .none, by kernel_rfl, by kernel_rfl, by kernel_rfl⟩ ⟨119, by kernel_rfl, (.type "function"), none, none, #[], .none, .none, (.str (Str.ofString "law_crosstable_k08_changes_on_lines") 293), (.ref 118), .none, by kernel_rfl, by kernel_rfl, by kernel_rfl⟩ (by kernel_rfl) (by kernel_rfl) (by kernel_rfl) (by kernel_rfl) (by kernel_rfl) (by kernel_rfl) (by kernel_rfl) (by kernel_rfl) (by kernel_rfl) (by kernel_rfl) (by kernel_rfl) (by kernel_rfl) (by kernel_rfl) (by kernel_rfl) (by kernel_rfl) (by kernel_rfl) (by kernel_rfl) (by kernel_rfl) (by kernel_rfl) (by kernel_rfl) (by kernel_rfl) (by kernel_rfl) (by kernel_rfl) (by kernel_rfl) (by kernel_rfl) (by kernel_rfl) (by kernel_rfl) (by kernel_rfl) (by kernel_rfl) (by kernel_rfl) (by kernel_rfl) (by kernel_rfl) (by kernel_rfl) (by kernel_rfl) (by kernel_rfl) (by kernel_rfl) (by kernel_rfl) (by kernel_rfl) (by kernel_rfl) (by kernel_rfl) (by kernel_rfl) (by kernel_rfl) (by kernel_rfl) (by kernel_rfl)

