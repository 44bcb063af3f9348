import PyProof.Rows.All
import Wide.All
import OpenK.AllK
import Wide.FinOn
import Lean
import PyProof.EqAt
import PyProof.EqKinds
import PyProof.TupleCall
import PyProof.CallType
import PyProof.AutoListH
import PyProof.EnumStmt
import PyProof.FactsAll.list
import PySem.Challenge.RW_crosstable_k05_whole_sums_of_rows
set_option Elab.async false
set_option linter.all false
set_option maxRecDepth 100000
set_option Elab.async false
set_option linter.all false
set_option maxRecDepth 100000
namespace L2
open PySem PySem.Spec PyProof.Rows
abbrev Key := Sum Int Str
def keyIs : Key → Value → Bool
  | .inl k, v => Value.isInt k v
  | .inr x, v => Value.isStrOf x v
def keyH (w : World) : Key → Int
  | .inl k => hashInt k
  | .inr x => hashStr w x
theorem keyIs_shape : ∀ {k : Key} {v : Value}, keyIs k v = true → (∃ i t, k = Sum.inl i ∧ v = Value.int i t) ∨ (∃ x t, k = Sum.inr x ∧ v = Value.str x t)
  | .inl i, v, h => by
    obtain ⟨t, e⟩ := Value.isInt_shape (k := i) (v := v) h
    exact .inl ⟨i, t, rfl, e⟩
  | .inr x, v, h => by
    obtain ⟨t, e⟩ := Value.isStrOf_shape (x := x) (v := v) h
    exact .inr ⟨x, t, rfl, e⟩
theorem key_ll (a b : Int) : decide ((Sum.inl a : Key) = Sum.inl b) = (a == b) := by
  by_cases e : a = b
  · subst e; simp
  · have h : ¬ (Sum.inl a : Key) = Sum.inl b := fun q => e (Sum.inl.inj q)
    rw [decide_eq_false h]
    exact (beq_eq_false_iff_ne.mpr e).symm
theorem key_rr (a b : Str) : decide ((Sum.inr a : Key) = Sum.inr b) = decide (a = b) := by
  by_cases e : a = b
  · subst e; simp
  · have h : ¬ (Sum.inr a : Key) = Sum.inr b := fun q => e (Sum.inr.inj q)
    rw [decide_eq_false h, decide_eq_false e]
theorem key_lr (a : Int) (b : Str) : decide ((Sum.inl a : Key) = Sum.inr b) = false := decide_eq_false (fun q => nomatch q)
theorem key_rl (a : Str) (b : Int) : decide ((Sum.inr a : Key) = Sum.inl b) = false := decide_eq_false (fun q => nomatch q)
def mixKind (prog : Program) (w : World) : PySem.KeyKind prog w Key where
  is := keyIs
  hash := keyH w
  inj := fun v a b ha hb => by
    rcases keyIs_shape ha with ⟨i, t, rfl, rfl⟩ | ⟨x, t, rfl, rfl⟩
    · rcases keyIs_shape hb with ⟨j, u, rfl, e⟩ | ⟨y, u, rfl, e⟩
      · injection e with e1 _; rw [e1]
      · exact nomatch e
    · rcases keyIs_shape hb with ⟨j, u, rfl, e⟩ | ⟨y, u, rfl, e⟩
      · exact nomatch e
      · injection e with e1 _; rw [e1]
  byValue := fun k v h => by
    rcases keyIs_shape h with ⟨i, t, rfl, rfl⟩ | ⟨x, t, rfl, rfl⟩ <;> rfl
  pyHash := fun hv h => by
    rcases keyIs_shape hv with ⟨i, t, rfl, rfl⟩ | ⟨x, t, rfl, rfl⟩
    · exact wpAny_pyHash_int h
    · exact wpAny_pyHash_str h
  eqBool := fun hu hv h => by
    rcases keyIs_shape hu with ⟨i, t, rfl, rfl⟩ | ⟨x, t, rfl, rfl⟩
    · rcases keyIs_shape hv with ⟨j, u, rfl, rfl⟩ | ⟨y, u, rfl, rfl⟩
      · rw [key_ll] at h; exact wpAny_eqBool_int h
      · rw [key_lr] at h; exact SeqAt.EqAt.int_str i t y u _ _ _ _ h
    · rcases keyIs_shape hv with ⟨j, u, rfl, rfl⟩ | ⟨y, u, rfl, rfl⟩
      · rw [key_rl] at h; exact SeqAt.EqAt.str_int x t j u _ _ _ _ h
      · rw [key_rr] at h; exact wpAny_eqBool_str h
  «strs» := fun k x t v h => by
    rcases keyIs_shape h with ⟨i, u, rfl, e⟩ | ⟨y, u, rfl, e⟩
    · exact nomatch e
    · injection e with e1 _
      subst e1
      cases v <;> rfl
end L2
namespace L2
open PySem PySem.Spec PyProof.Rows
inductive V where
  | non | bl (b : Bool) | int (i : Int) | str (x : Str) | byt (b : Array UInt8) | flt (b : UInt64) | ref (a : Addr) | ty (n : String)
  deriving DecidableEq
def RelV : V → Value → Prop
  | .non, u => u = Value.none
  | .bl b, u => u = Value.bool b
  | .int i, u => ∃ t, u = Value.int i t
  | .str x, u => ∃ t, u = Value.str x t
  | .byt b, u => ∃ t, u = Value.bytes b t
  | .flt b, u => ∃ t, u = Value.float b t
  | .ref a, u => u = Value.ref a
  | .ty n, u => u = Value.type n
abbrev Vals : List V → List Value → Prop := Paired RelV
theorem Vals.length {xs : List V} {us : List Value} (r : Vals xs us) : xs.length = us.length := Paired.length r
theorem Vals.get : ∀ {xs : List V} {us : List Value} {i : Nat} {x : V}, Vals xs us → xs[i]? = some x → ∃ u, us[i]? = some u ∧ RelV x u
  | _, _, _, _, .nil, e => by simp at e
  | _, _, 0, _, .cons r _, e => by simp at e; subst e; exact ⟨_, rfl, r⟩
  | _, _, i + 1, x, .cons _ t, e => by
    obtain ⟨u, h1, h2⟩ := Vals.get (i := i) (x := x) t (by simpa using e)
    exact ⟨u, by simpa using h1, h2⟩
theorem Vals.set {x : V} {u : Value} (r : RelV x u) : ∀ {xs : List V} {us : List Value} (i : Nat), Vals xs us → Vals (xs.set i x) (us.set i u)
  | _, _, _, .nil => .nil
  | _, _, 0, .cons _ t => .cons r t
  | _, _, i + 1, .cons q t => .cons q (Vals.set r i t)
theorem Vals.append : ∀ {xs ys : List V} {us ws : List Value}, Vals xs us → Vals ys ws → Vals (xs ++ ys) (us ++ ws)
  | _, _, _, _, .nil, s => s
  | _, _, _, _, .cons r t, s => .cons r (Vals.append t s)
theorem Vals.take : ∀ {xs : List V} {us : List Value} (n : Nat), Vals xs us → Vals (xs.take n) (us.take n)
  | _, _, 0, _ => .nil
  | _, _, _ + 1, .nil => .nil
  | _, _, n + 1, .cons r t => .cons r (Vals.take n t)
theorem Vals.drop : ∀ {xs : List V} {us : List Value} (n : Nat), Vals xs us → Vals (xs.drop n) (us.drop n)
  | _, _, 0, r => r
  | _, _, _ + 1, .nil => .nil
  | _, _, n + 1, .cons _ t => Vals.drop n t
theorem Vals.none_of : ∀ {xs : List V} {us : List Value} {i : Nat}, Vals xs us → xs[i]? = none → us[i]? = none := fun {xs us i} r e => by
  have h1 := r.length
  have h2 : xs.length ≤ i := List.getElem?_eq_none_iff.mp e
  exact List.getElem?_eq_none_iff.mpr (by omega)
def RelO : Option V → Option Value → Prop
  | some v, some u => RelV v u
  | none, none => True
  | _, _ => False
def KV {κ : Type} : List (κ × V) → List (κ × Value) → Prop := Paired fun (p : κ × V) (q : κ × Value) => p.1 = q.1 ∧ RelV p.2 q.2
def kV : Key → V
  | .inl i => .int i
  | .inr x => .str x
inductive HO where
  /-- a list -/
  | lst (xs : List V)
  /-- a tuple (never changes) -/
  | tup (xs : List V)
  /-- a dict whose keys are ints and texts; one whose keys are tuples of ints and texts (the empty one is both) -/
  | dK (kvs : List (Key × V)) | dT (kvs : List (List Key × V))
  /-- a set of ints: its members, its size -/
  | set (S : Int → Bool) (n : Nat)
  /-- an instance of the class at C, its dict at dx, its attributes -/
  | ins (C dx : Addr) (fs : List (Str × V))
  /-- the dict of the instance at x -/
  | own (x : Addr)
  /-- the dict of an exception -/
  | xd (fs : List (Str × V))
  /-- a bound method, f of x -/
  | met (f x : Addr)
  /-- a range object lo, lo + 1, .. below hi -/
  | rng (lo hi : Int)
  /-- a thing that is known to the object (the script; a dict while a loop walks it): read, never written while it is so -/
  | frz (o : Obj) (u : HO)
  /-- a code object's table -/
  | tbl (ps : Array Value)
  /-- any other thing, by what is true of its one object (a def of one's own: SetO a S n := HO.ext fun h => ..) -/
  | ext (φ : Heap → Prop)
abbrev Hp := Addr → Option HO
def upd (H : Hp) (a : Addr) (o : HO) : Hp := fun b => if b = a then some o else H b
theorem upd_same {H : Hp} {a : Addr} {o : HO} : upd H a o a = some o := by unfold upd; rw [if_pos rfl]
theorem upd_ne {H : Hp} {a b : Addr} {o : HO} (h : b ≠ a) : upd H a o b = H b := by unfold upd; rw [if_neg h]
theorem upd_upd {H : Hp} {a : Addr} {o u : HO} : upd (upd H a o) a u = upd H a u := by
  funext b; unfold upd; split <;> rfl
theorem ne_of {H : Hp} {a b : Addr} {o u : HO} (h : H a = some o) (h' : H b = some u) (d : o ≠ u) : a ≠ b := by
  intro e; subst e; rw [h] at h'; exact d (Option.some.inj h')
theorem ne_of_none {H : Hp} {a b : Addr} {o : HO} (h : H a = some o) (h' : H b = none) : a ≠ b := by
  intro e; subst e; rw [h] at h'; cases h'
section
variable (P : Program) (w : World)
def ObjOk (H : Hp) (h : Heap) (a : Addr) : HO → Prop
  | .lst xs => xs.length ≤ sizeLine ∧ ∃ (its : List Value) (n : Nat), Vals xs its ∧ h.get? a = some { cls := .type "list", data := .seq its.toArray n }
  | .tup xs => xs.length ≤ sizeLine ∧ ∃ its : List Value, Vals xs its ∧ IsTup h a its.toArray
  | .dK kvs => kvs.length ≤ sizeLine ∧ (a == sysModules) = false ∧ ∃ vs, KV kvs vs ∧ h.DictOf (mixKind P w) a vs
  | .dT kvs => kvs.length ≤ sizeLine ∧ (a == sysModules) = false ∧ ∃ xs : List (List Key × Addr × Value),
      Paired (fun (p : List Key × V) (q : List Key × Addr × Value) => p.1 = q.1 ∧ H q.2.1 = some (.tup (p.1.map kV)) ∧ RelV p.2 q.2.2) kvs xs ∧
      ∃ o es ep, h.get? a = some o ∧ o.ExactDict ∧ o.data = .dict es ep ∧ es.toList = xs.map (entryOfKey (tupleKind (mixKind P w))) ∧ (xs.map (·.1)).Nodup
  | .set S n => h.SetOf (intKind P w) a S n
  | .ins C dx fs => H dx = some (.own a) ∧ fs.length ≤ 1000 ∧ dx ≠ a ∧ h.get? a = some (PySem.W.instObj C dx) ∧
      ∃ mA, h.Ns1 dx mA ∧ (∀ f, RelO (fs.lookup f) (mA f)) ∧ PySem.Within mA (fs.map (·.1))
  | .own _ => ∃ o, h.get? a = some o
  | .xd fs => ∃ mA, h.Ns1 a mA ∧ ∀ f, RelO (fs.lookup f) (mA f)
  | .rng lo hi => ∃ t u v, h.get? a = some { cls := .type "range", data := .fields #[.int lo t, .int hi u, .int 1 v] }
  | .frz o u => h.get? a = some o ∧ ObjOk H h a u
  | .tbl ps => h.get? a = some { cls := .none, data := .fields ps }
  | .met f x => h.get? a = some (PySem.W.methodObj (.ref f) (.ref x))
  | .ext φ => φ h ∧ (∃ o, h.get? a = some o) ∧ ∀ h1 h2 : Heap, φ h1 → (∀ o, h1.get? a = some o → h2.get? a = some o) → φ h2
def HOk (H : Hp) (h : Heap) : Prop := ∀ a o, H a = some o → ObjOk P w H h a o
end
section
variable {P : Program} {w : World} {H H' : Hp} {h h' : Heap} {a : Addr} {o : HO}
theorem ObjOk.lt (x : ObjOk P w H h a o) : a < h.objs.size := by
  cases o with
  | lst xs => obtain ⟨_, _, _, _, e⟩ := x; exact Heap.lt_size e
  | tup xs => obtain ⟨_, _, _, p⟩ := x; exact p.lt
  | dK kvs => obtain ⟨_, _, _, _, o, _, _, e, _⟩ := x; exact Heap.lt_size e
  | dT kvs => obtain ⟨_, _, _, _, o, _, _, e, _⟩ := x; exact Heap.lt_size e
  | set S n => obtain ⟨o, _, _, _, e, _⟩ := x; exact Heap.lt_size e
  | ins C dx fs => obtain ⟨_, _, _, e, _⟩ := x; exact Heap.lt_size e
  | own y => obtain ⟨_, e⟩ := x; exact Heap.lt_size e
  | xd fs => obtain ⟨_, ⟨_, _, _, e, _⟩, _⟩ := x; exact Heap.lt_size e
  | rng lo hi => obtain ⟨_, _, _, e⟩ := x; exact Heap.lt_size e
  | frz ob u => obtain ⟨e, _⟩ := x; exact Heap.lt_size e
  | tbl ps => exact Heap.lt_size (show h.get? a = some _ from x)
  | met f y => exact Heap.lt_size (show h.get? a = some _ from x)
  | ext φ => obtain ⟨_, ⟨_, e⟩, _⟩ := x; exact Heap.lt_size e
theorem Paired.mapP {α β : Type} {F G : α → β → Prop} : ∀ {l₁ : List α} {l₂ : List β}, Paired F l₁ l₂ → (∀ a b, F a b → G a b) → Paired G l₁ l₂
  | _, _, .nil, _ => .nil
  | _, _, .cons r t, f => .cons (f _ _ r) (Paired.mapP t f)
theorem ObjOk.stay (x : ObjOk P w H h a o) (k : ∀ b u, (b = a ∨ H b = some (.own a)) → h.get? b = some u → h'.get? b = some u)
    (ho : ∀ b, H b = some (.own a) → H' b = some (.own a)) (ht : ∀ b xs, H b = some (.tup xs) → H' b = some (.tup xs)) : ObjOk P w H' h' a o := by
  induction o with
  | lst xs => obtain ⟨z, its, n, r, e⟩ := x; exact ⟨z, its, n, r, k _ _ (.inl rfl) e⟩
  | tup xs => obtain ⟨z, its, r, ob, e, c⟩ := x; exact ⟨z, its, r, ob, k _ _ (.inl rfl) e, c⟩
  | dK kvs => obtain ⟨z, y, vs, r, ob, es, ep, e, c⟩ := x; exact ⟨z, y, vs, r, ob, es, ep, k _ _ (.inl rfl) e, c⟩
  | dT kvs =>
    obtain ⟨z, y, xs, r, ob, es, ep, e, c⟩ := x
    exact ⟨z, y, xs, Paired.mapP r fun p q z => ⟨z.1, ht _ _ z.2.1, z.2.2⟩, ob, es, ep, k _ _ (.inl rfl) e, c⟩
  | set S n => obtain ⟨ob, es, ep, t, e, c⟩ := x; exact ⟨ob, es, ep, t, k _ _ (.inl rfl) e, c⟩
  | ins C dx fs =>
    obtain ⟨d, z, ne, e, mA, ⟨od, es, ep, e2, c⟩, r⟩ := x
    exact ⟨ho _ d, z, ne, k _ _ (.inl rfl) e, mA, ⟨od, es, ep, k _ _ (.inr d) e2, c⟩, r⟩
  | own y => obtain ⟨ob, e⟩ := x; exact ⟨ob, k _ _ (.inl rfl) e⟩
  | xd fs => obtain ⟨mA, ⟨od, es, ep, e, c⟩, r⟩ := x; exact ⟨mA, ⟨od, es, ep, k _ _ (.inl rfl) e, c⟩, r⟩
  | rng lo hi => obtain ⟨t, u, v, e⟩ := x; exact ⟨t, u, v, k _ _ (.inl rfl) e⟩
  | frz ob u ih => obtain ⟨e, q⟩ := x; exact ⟨k _ _ (.inl rfl) e, ih q⟩
  | tbl ps =>
    have e : h.get? a = some { cls := .none, data := .fields ps } := x
    show h'.get? a = some { cls := .none, data := .fields ps }
    exact k a _ (.inl rfl) e
  | met f y =>
    have e : h.get? a = some (PySem.W.methodObj (.ref f) (.ref y)) := x
    show h'.get? a = some (PySem.W.methodObj (.ref f) (.ref y))
    exact k a _ (.inl rfl) e
  | ext φ => obtain ⟨p, ⟨o, e⟩, st⟩ := x; exact ⟨st _ _ p fun o q => k _ _ (.inl rfl) q, ⟨o, k _ _ (.inl rfl) e⟩, st⟩
theorem HOk.lt (x : HOk P w H h) (e : H a = some o) : a < h.objs.size := (x a o e).lt
theorem HOk.fresh (x : HOk P w H h) (e : h.objs.size ≤ a) : H a = none := by
  cases q : H a with
  | none => rfl
  | some u => exact absurd (Nat.lt_of_lt_of_le (x.lt q) e) (Nat.lt_irrefl _)
theorem HOk.kept (x : HOk P w H h) (k : ∀ b u, h.get? b = some u → h'.get? b = some u) : HOk P w H h' := fun a o e =>
  (x a o e).stay (fun b u _ q => k b u q) (fun _ q => q) fun _ _ q => q
theorem HOk.laid (x : HOk P w H h) (k : ∀ b u, h.get? b = some u → h'.get? b = some u) (hp : h.objs.size ≤ a) (new : ObjOk P w (upd H a o) h' a o) : HOk P w (upd H a o) h' := fun b u e => by
  have hn := x.fresh hp
  by_cases hb : b = a
  · subst hb; rw [upd_same] at e; cases e; exact new
  · rw [upd_ne hb] at e
    exact (x b u e).stay (fun c v _ q => k c v q) (fun c q => by rw [upd_ne (ne_of_none q hn)]; exact q) fun c xs q => by rw [upd_ne (ne_of_none q hn)]; exact q
end
def Rd (H : Hp) (a : Addr) (u : HO) : Prop := H a = some u ∨ ∃ o, H a = some (.frz o u)
theorem Rd.of {H : Hp} {a : Addr} {u : HO} (h : H a = some u) : Rd H a u := .inl h
theorem Rd.ok {P : Program} {w : World} {H : Hp} {h : Heap} {a : Addr} {u : HO} (r : Rd H a u) (x : HOk P w H h) : ObjOk P w H h a u := by
  rcases r with r | ⟨o, r⟩
  · exact x a u r
  · obtain ⟨_, q⟩ := x a _ r
    exact q
def Mut : Option HO → Prop
  | some (.lst _) => True
  | some (.dK _) => True
  | some (.dT _) => True
  | some (.set _ _) => True
  | some (.ins _ _ _) => True
  | some (.ext _) => True
  | _ => False
section
variable {P : Program} {w : World} {H : Hp} {h h' : Heap} {x e : Addr} {o' : HO}
theorem HOk.write (ok : HOk P w H h) (mu : Mut (H x)) (he : e = x ∨ H e = some (.own x)) (k : ∀ b u, b ≠ e → h.get? b = some u → h'.get? b = some u) (heo : ∃ u, h'.get? e = some u)
    (new : ObjOk P w (upd H x o') h' x o') : HOk P w (upd H x o') h' := fun b u q => by
  have nown : ∀ c y, H c = some (.own y) → c ≠ x := fun c y r z => by subst z; rw [r] at mu; exact mu
  have ntup : ∀ c xs, H c = some (.tup xs) → c ≠ x := fun c xs r z => by subst z; rw [r] at mu; exact mu
  by_cases hb : b = x
  · subst hb; rw [upd_same] at q; cases q; exact new
  · rw [upd_ne hb] at q
    by_cases hbe : b = e
    · have q' : H b = some (.own x) := by
        rcases he with z | z
        · exact absurd (hbe.trans z) hb
        · rw [hbe]; exact z
      rw [q] at q'; cases q'
      obtain ⟨v, hv⟩ := heo
      exact ⟨v, by rw [hbe]; exact hv⟩
    · refine (ok b u q).stay (fun c v hc r => k c v ?_ r) (fun c r => by rw [upd_ne (nown c b r)]; exact r) fun c xs r => by rw [upd_ne (ntup c xs r)]; exact r
      rcases hc with rfl | hc
      · exact hbe
      · rintro rfl
        rcases he with z | z
        · exact nown c b hc z
        · rw [hc] at z; cases z; exact hb rfl
end
structure Un (fs ex : List Addr) (H H' : Hp) (h h' : Heap) : Prop where
  keep : ∀ b o, h.get? b = some o → H b = none → b ∉ fs → b ∉ ex → h'.get? b = some o
  slot : ∀ b o, h.get? b = some o → H b = none → b ∈ fs → b ∉ ex → ∃ sl, h'.get? b = some { o with slots := sl }
  free : ∀ b o, h.get? b = some o → H b = none → b ∉ ex → H' b = none
  there : ∀ b o, h.get? b = some o → b ∉ ex → ∃ o', h'.get? b = some o'
  tups : ∀ b xs, H b = some (.tup xs) → H' b = some (.tup xs)
  frzs : ∀ b o u, H b = some (.frz o u) → H' b = some (.frz o u)
  tbls : ∀ b ps, H b = some (.tbl ps) → ∃ more, H' b = some (.tbl (ps ++ more))
section
variable {fs fs' ex ex' : List Addr} {H H1 H2 : Hp} {h h1 h2 h' : Heap} {a x e : Addr} {o : HO}
theorem Un.any (u : Un fs ex H H1 h h1) {b : Addr} {ob : Obj} (q : h.get? b = some ob) (n : H b = none) (hx : b ∉ ex) : ∃ sl, h1.get? b = some { ob with slots := sl } := by
  by_cases hb : b ∈ fs
  · exact u.slot b ob q n hb hx
  · exact ⟨ob.slots, u.keep b ob q n hb hx⟩
theorem Un.trans (a : Un fs ex H H1 h h1) (b : Un fs ex H1 H2 h1 h2) : Un fs ex H H2 h h2 where
  keep := fun c ob q n hc hx => b.keep c ob (a.keep c ob q n hc hx) (a.free c ob q n hx) hc hx
  slot := fun c ob q n hc hx => by
    obtain ⟨sl, e1⟩ := a.slot c ob q n hc hx
    obtain ⟨sl', e2⟩ := b.slot c _ e1 (a.free c ob q n hx) hc hx
    exact ⟨sl', e2⟩
  free := fun c ob q n hx => by
    obtain ⟨o', e1⟩ := a.there c ob q hx
    exact b.free c o' e1 (a.free c ob q n hx) hx
  there := fun c ob q hx => by
    obtain ⟨o', e1⟩ := a.there c ob q hx
    exact b.there c o' e1 hx
  tups := fun c xs q => b.tups c xs (a.tups c xs q)
  frzs := fun c ob xs q => b.frzs c ob xs (a.frzs c ob xs q)
  tbls := fun c ps q => by
    obtain ⟨m1, e1⟩ := a.tbls c ps q
    obtain ⟨m2, e2⟩ := b.tbls c _ e1
    exact ⟨m1 ++ m2, by rw [e2, Array.append_assoc]⟩
theorem Un.kept (k : ∀ b u, h.get? b = some u → h'.get? b = some u) : Un fs ex H H h h' :=
  ⟨fun b ob q _ _ _ => k b ob q, fun b ob q _ _ _ => ⟨ob.slots, k b ob q⟩, fun _ _ _ n _ => n, fun b ob q _ => ⟨ob, k b ob q⟩, fun _ _ q => q, fun _ _ _ q => q, fun _ ps q => ⟨#[], by rw [q]; simp⟩⟩
theorem Un.refl : Un fs ex H H h h := Un.kept fun _ _ q => q
theorem Un.laid (k : ∀ b u, h.get? b = some u → h'.get? b = some u) (hp : h.objs.size ≤ a) (hn : H a = none) : Un fs ex H (upd H a o) h h' where
  keep := fun b u q _ _ _ => k b u q
  slot := fun b u q _ _ _ => ⟨u.slots, k b u q⟩
  free := fun b u q n _ => by rw [upd_ne (Nat.ne_of_lt (Nat.lt_of_lt_of_le (Heap.lt_size q) hp))]; exact n
  there := fun b u q _ => ⟨u, k b u q⟩
  tups := fun b xs q => by rw [upd_ne (ne_of_none q hn)]; exact q
  frzs := fun b u xs q => by rw [upd_ne (ne_of_none q hn)]; exact q
  tbls := fun b ps q => ⟨#[], by rw [upd_ne (ne_of_none q hn), q]; simp⟩
theorem Un.write (mu : Mut (H x)) (he : e = x ∨ H e = some (.own x)) (k : ∀ b u, b ≠ e → h.get? b = some u → h'.get? b = some u) (heo : ∃ u, h'.get? e = some u) : Un fs ex H (upd H x o) h h' := by
  have hx : ∀ b, H b = none → b ≠ x := fun b n z => by subst z; rw [n] at mu; exact mu
  have hb : ∀ b, H b = none → b ≠ e := fun b n z => by
    subst z
    rcases he with r | r
    · exact hx b n r
    · rw [n] at r; cases r
  have hm : ∀ b u, H b = some u → ¬ Mut (some u) → b ≠ x := fun b u q nm z => by subst z; rw [q] at mu; exact nm mu
  refine ⟨fun b u q n _ _ => k b u (hb b n) q, fun b u q n _ _ => ⟨u.slots, k b u (hb b n) q⟩, fun b u q n _ => by rw [upd_ne (hx b n)]; exact n, fun b u q _ => ?_,
    fun b xs q => by rw [upd_ne (hm b _ q fun z => z)]; exact q, fun b u xs q => by rw [upd_ne (hm b _ q fun z => z)]; exact q, fun b ps q => ⟨#[], by rw [upd_ne (hm b _ q fun z => z), q]; simp⟩⟩
  by_cases hbe : b = e
  · subst hbe; exact heo
  · exact ⟨u, k b u hbe q⟩
theorem Un.mono (u : Un fs ex H H1 h h1) (hs : ∀ b ∈ fs, b ∈ fs') (hx : ∀ b ∈ ex, b ∈ ex') : Un fs' ex' H H1 h h1 :=
  ⟨fun b ob q n hb he => u.keep b ob q n (fun z => hb (hs b z)) fun z => he (hx b z), fun _ _ q n _ he => u.any q n fun z => he (hx _ z), fun b ob q n he => u.free b ob q n fun z => he (hx b z), fun b ob q he => u.there b ob q fun z => he (hx b z), u.tups, u.frzs, u.tbls⟩
end
def trk (h : Heap) (H : Hp) : List Addr := (List.range h.objs.size).filter fun a => (H a).isSome
def hidT (h : Heap) (H : Hp) : Heap := PySem.W.hideAll h (trk h H)
theorem hidT_size (h : Heap) (H : Hp) : (hidT h H).objs.size = h.objs.size := PySem.W.hideAll_size _ _
theorem hidT_get {h : Heap} {H : Hp} {b : Addr} {o : Obj} (e : h.get? b = some o) (n : H b = none) : (hidT h H).get? b = some o :=
  PySem.W.hideAll_get _ e fun hm => by
    have q : (H b).isSome = true := (List.mem_filter.mp hm).2
    rw [n] at q; simp at q
theorem of_hidT {h : Heap} {H : Hp} {b : Addr} {o : Obj} (e : (hidT h H).get? b = some o) : h.get? b = some o ∧ H b = none := by
  have e' : h.get? b = some o := PySem.W.of_hideAll (trk h H) e
  refine ⟨e', ?_⟩
  cases q : H b with
  | none => rfl
  | some x =>
    have hm : b ∈ trk h H := List.mem_filter.mpr ⟨List.mem_range.mpr (Heap.lt_size e'), by simp [q]⟩
    have z : (hidT h H).get? b = none := PySem.W.hideAll_none (trk h H) hm
    rw [z] at e; cases e
def allNews (g h : Heap) (L : Addr) : List (Addr × Obj) := (List.range h.objs.size).filterMap fun a => if a = L ∨ (g.get? a).isSome = true then none else (h.get? a).map fun o => (a, o)
def rest (g h : Heap) (L d : Addr) : List (Addr × Obj) := (allNews g h L).filter fun p => decide (p.1 ≠ d)
end L2
namespace L2
open PySem PySem.Spec PyProof.Rows
structure Mod (K : PySem.W.Frag) (mg : Str → Option Value) (base : Heap) : Prop where
  kin : K.In base
  glob : base.Ns mainGlobals mg
  blt : ∃ mb, base.Ns builtinsNs mb ∧ ∀ x : Str, x ≠ "__name__" → mb x = bootBuiltins x
  nolimit : base.NoLimit
/-- the context: a def's body (or a comprehension's block) running. base: fixed through the whole law; s₀, H₀: the entry; outer: the frames whose slots others may change (a def's callers); stack: all frames that run;
   ex: iterators that were made ahead of the entry and are walked here (a comprehension's); fn: the names whose cells were made at the entry (a def: all; a comprehension's block: its own); calm: not within an except suite; pn: pins that every state bears; xe: what is wanted of an exception that leaves the code -/
structure Cx where
  prog : Program
  w : World
  K : PySem.W.Frag
  mg : Str → Option Value
  base : Heap
  A : Around
  N : List Str
  s₀ : Shared
  H₀ : Hp
  env : Env
  outer : List Env
  stack : List Env
  ex : List Addr
  fn : Str → Bool
  calm : Bool
  pn : List (Addr × Obj)
  xe : Value → Shared → Prop
def frs (l : List Env) : List Addr := l.filterMap (·.frame)
abbrev Cx.fs (X : Cx) : List Addr := frs X.outer
def Vis (sc : Scope) (x : Str) : Prop := sc.names.lookup x = some .local ∨ sc.names.lookup x = some .cell ∨ sc.names.lookup x = some .free
def Loc (sc : Scope) (x : Str) : Prop := sc.names.lookup x = some .local ∨ sc.names.lookup x = some .cell
def Look (env : Env) (h : Heap) (m : Str → Option Value) (x : Str) (u : Value) : Prop :=
  (env.kindOf x = some .local ∧ m x = some u) ∨ ((env.kindOf x = some .cell ∨ env.kindOf x = some .free) ∧ ∃ c, env.cells.lookup x = some c ∧ h.IsCell c (some u))
structure Cx.Ok (X : Cx) : Prop where
  mod : Mod X.K X.mg X.base
  kind : X.env.scope.kind = .function
  glob : X.env.globals = mainGlobals
  blt : X.env.builtins = builtinsNs
  above : X.s₀.heap.objs.size ≤ X.env.locals
  inj : ∀ x y c, X.env.cells.lookup x = some c → X.env.cells.lookup y = some c → x = y
  has : ∀ x, (X.env.kindOf x = some .cell ∨ X.env.kindOf x = some .free) → ∃ c, X.env.cells.lookup x = some c
  cab : ∀ x c, X.fn x = true → X.env.cells.lookup x = some c → X.s₀.heap.objs.size ≤ c
  hd : X.calm = true → X.A.handled = none
  frames : X.A.frames = some X.stack
  stk : X.stack = X.outer ∨ (X.stack = X.env :: X.outer ∧ X.env.frame = some X.env.locals)
  exf : ∀ b ∈ X.ex, b ≠ X.env.locals ∧ ∀ x c, X.env.cells.lookup x = some c → c ≠ b
  bs : ∀ b o, X.base.get? b = some o → X.s₀.heap.get? b = some o ∧ X.H₀ b = none
  bsz : X.base.objs.size ≤ X.s₀.heap.objs.size
  noex : ∀ b o, X.base.get? b = some o → b ∉ X.ex
  exfs : ∀ b ∈ X.ex, b ∉ X.fs
  funs : X.s₀.heap.FunFrames X.base X.outer
  frf : ∀ b ∈ X.fs, X.H₀ b = none
structure Inv (X : Cx) (pins : List (Addr × Obj)) (σ : List (Option V)) (H : Hp) (s : Shared) : Prop where
  ok : X.Ok
  os : s.os = X.s₀.os
  bare : AllBare s.gens
  base : Un X.fs X.ex X.H₀ H X.s₀.heap s.heap
  loc : ∃ m, s.heap.Ns X.env.locals m ∧ ∀ (i : Nat) (x : Str) (v : V), X.N[i]? = some x → σ[i]? = some (some v) → Vis X.env.scope x → ∃ u, RelV v u ∧ Look X.env s.heap m x u
  cell : ∀ x c, X.env.cells.lookup x = some c → ∃ v, s.heap.IsCell c v
  free : H X.env.locals = none
  freeC : ∀ x c, X.env.cells.lookup x = some c → H c = none
  pin : ∀ p ∈ X.pn ++ pins, s.heap.get? p.1 = some p.2 ∧ H p.1 = none ∧ p.1 ≠ X.env.locals ∧ p.1 ∉ X.fs ∧ ∀ v, p.2.data ≠ .cell v
  hok : HOk X.prog X.w H s.heap
  len : σ.length = X.N.length
section
variable {X : Cx} {pins : List (Addr × Obj)} {σ : List (Option V)} {H H' : Hp} {s : Shared} {h' : Heap}
theorem Cx.Ok.nofr (ok : X.Ok) {b : Addr} {o : Obj} (e : X.base.get? b = some o) : b ∉ X.fs := fun hb => by
  have := (ok.funs.mem hb).1
  rw [e] at this; cases this
theorem Inv.bs (I : Inv X pins σ H s) : ∀ b o, X.base.get? b = some o → s.heap.get? b = some o ∧ H b = none := fun b o e =>
  ⟨I.base.keep b o (I.ok.bs b o e).1 (I.ok.bs b o e).2 (I.ok.nofr e) (I.ok.noex b o e), I.base.free b o (I.ok.bs b o e).1 (I.ok.bs b o e).2 (I.ok.noex b o e)⟩
theorem Inv.bk (I : Inv X pins σ H s) : ∀ b o, X.base.get? b = some o → s.heap.get? b = some o := fun b o e => (I.bs b o e).1
theorem Inv.mod (I : Inv X pins σ H s) : Mod X.K X.mg X.base := I.ok.mod
theorem Inv.kIn (I : Inv X pins σ H s) : X.K.In s.heap := I.ok.mod.kin.keeps I.bk
theorem Inv.nolimit (I : Inv X pins σ H s) : s.heap.NoLimit := I.ok.mod.nolimit.keeps I.bk
theorem Inv.fr (I : Inv X pins σ H s) : ∃ m, Fr X.base X.env.locals s.heap m :=
  let ⟨m, hn, _⟩ := I.loc
  ⟨m, hn, I.bk, Nat.le_trans I.ok.bsz I.ok.above⟩
theorem Inv.lt (I : Inv X pins σ H s) : X.env.locals < s.heap.objs.size := let ⟨_, hn, _⟩ := I.loc; hn.lt
theorem Inv.sz (I : Inv X pins σ H s) : X.s₀.heap.objs.size ≤ s.heap.objs.size := Nat.le_trans I.ok.above (Nat.le_of_lt I.lt)
theorem Inv.nofs (I : Inv X pins σ H s) {a : Addr} (h : s.heap.objs.size ≤ a) : a ∉ X.fs := fun hb => by
  obtain ⟨_, o, ho, _⟩ := I.ok.funs.mem hb
  exact absurd (Nat.lt_of_lt_of_le (Heap.lt_size ho) (Nat.le_trans I.sz h)) (Nat.lt_irrefl _)
theorem Inv.cne (I : Inv X pins σ H s) : ∀ x c, X.env.cells.lookup x = some c → c ≠ X.env.locals := fun x c e z => by
  obtain ⟨v, o, ho, hd⟩ := I.cell x c e
  obtain ⟨m, ⟨o', es, ep, ho', hd', _⟩, _⟩ := I.loc
  rw [z, ho'] at ho; cases ho; rw [hd'] at hd; cases hd
theorem Inv.funs (I : Inv X pins σ H s) : s.heap.FunFrames X.base X.outer := by
  have all : ∀ (l : List Env), (∀ b ∈ frs l, b ∈ X.fs) → X.s₀.heap.FunFrames X.base l → s.heap.FunFrames X.base l := by
    intro l
    induction l with
    | nil => intro _ _; trivial
    | cons env r ih =>
      intro hs hl
      obtain ⟨hk, ⟨L, o, hf, hn, ho, hd⟩, hr⟩ := hl
      have hL : L ∈ X.fs := hs L (by unfold frs; rw [List.filterMap_cons, hf]; exact List.mem_cons_self)
      obtain ⟨sl, e⟩ := I.base.slot L o ho (I.ok.frf L hL) hL fun z => I.ok.exfs L z hL
      exact ⟨hk, ⟨L, _, hf, hn, e, hd⟩, ih (fun b hb => hs b (by unfold frs; rw [List.filterMap_cons, hf]; exact List.mem_cons_of_mem _ hb)) hr⟩
  exact all X.outer (fun _ hb => hb) I.ok.funs
theorem Inv.stack (I : Inv X pins σ H s) : s.heap.FunFrames X.base X.stack := by
  rcases I.ok.stk with e | ⟨e, hf⟩
  · rw [e]; exact I.funs
  · rw [e]
    obtain ⟨m, hn, _⟩ := I.loc
    refine .cons (by rw [I.ok.kind]; decide) hf hn ?_ I.funs
    exact Heap.get?_none_of_le (Nat.le_trans I.ok.bsz I.ok.above)
theorem Inv.stkSub (I : Inv X pins σ H s) : ∀ b ∈ frs X.stack, b ∈ X.env.locals :: X.fs := fun b hb => by
  rcases I.ok.stk with e | ⟨e, hf⟩
  · rw [e] at hb; exact List.mem_cons_of_mem _ hb
  · rw [e] at hb
    unfold frs at hb
    rw [List.filterMap_cons, hf] at hb
    exact hb
theorem Inv.stkFree (I : Inv X pins σ H s) : ∀ b ∈ frs X.stack, H b = none := fun b hb => by
  rcases List.mem_cons.mp (I.stkSub b hb) with e | hb
  · rw [e]; exact I.free
  · obtain ⟨_, o, ho, _⟩ := I.ok.funs.mem hb
    exact I.base.free b o ho (I.ok.frf b hb) fun z => I.ok.exfs b z hb
theorem Inv.step {g' : Array GenState} {t' : Nat} {d' : Drawn} {ch : List Addr} (I : Inv X pins σ H s)
    (hch : ∀ b ∈ ch, (b ∈ X.ex ∨ X.s₀.heap.objs.size ≤ b) ∧ b ≠ X.env.locals ∧ (∀ x c, X.env.cells.lookup x = some c → c ≠ b) ∧ ∀ p ∈ X.pn ++ pins, p.1 ≠ b)
    (keep : ∀ b o, b ≠ X.env.locals → b ∉ X.fs → b ∉ ch → s.heap.get? b = some o → H b = none → h'.get? b = some o)
    (slot : ∀ b o, b ≠ X.env.locals → b ∈ X.fs → b ∉ ch → s.heap.get? b = some o → H b = none → ∃ sl, h'.get? b = some { o with slots := sl }) (free : ∀ b o, b ∉ ch → s.heap.get? b = some o → H b = none → H' b = none)
    (there : ∀ b o, b ∉ ch → s.heap.get? b = some o → ∃ o', h'.get? b = some o')
    (tups : ∀ b xs, H b = some (.tup xs) → H' b = some (.tup xs)) (frzs : ∀ b o u, H b = some (.frz o u) → H' b = some (.frz o u)) (tbls : ∀ b ps, H b = some (.tbl ps) → ∃ more, H' b = some (.tbl (ps ++ more)))
    (ns : ∀ m, s.heap.Ns X.env.locals m → h'.Ns X.env.locals m) (hok : HOk X.prog X.w H' h') (hg : AllBare g') :
    Inv X pins σ H' { s with heap := h', gens := g', drawn := d', toks := t' } := by
  have neL : ∀ b o, X.s₀.heap.get? b = some o → b ≠ X.env.locals := fun b o e => Nat.ne_of_lt (Nat.lt_of_lt_of_le (Heap.lt_size e) I.ok.above)
  have neC : ∀ b o, X.s₀.heap.get? b = some o → b ∉ X.ex → b ∉ ch := fun b o e hx hb => by
    rcases (hch b hb).1 with z | z
    · exact hx z
    · exact absurd (Nat.lt_of_lt_of_le (Heap.lt_size e) z) (Nat.lt_irrefl _)
  have cellK : ∀ x c, X.env.cells.lookup x = some c → ∀ v, s.heap.IsCell c v → h'.IsCell c v := fun x c e v ⟨o, ho, hd⟩ => by
    have nch : c ∉ ch := fun z => (hch c z).2.2.1 x c e rfl
    by_cases hc : c ∈ X.fs
    · obtain ⟨sl, q⟩ := slot c o (I.cne x c e) hc nch ho (I.freeC x c e)
      exact ⟨_, q, hd⟩
    · exact ⟨o, keep c o (I.cne x c e) hc nch ho (I.freeC x c e), hd⟩
  refine ⟨I.ok, I.os, hg, ⟨fun b o e n hb hx => ?_, fun b o e n hb hx => ?_, fun b o e n hx => ?_, fun b o e hx => ?_, fun b xs e => tups b xs (I.base.tups b xs e), fun b o xs e => frzs b o xs (I.base.frzs b o xs e), fun b ps e => ?_⟩, ?_, fun x c e => ?_, ?_, fun x c e => ?_, fun p hp => ?_, hok, I.len⟩
  · exact keep b o (neL b o e) hb (neC b o e hx) (I.base.keep b o e n hb hx) (I.base.free b o e n hx)
  · obtain ⟨sl, e1⟩ := I.base.slot b o e n hb hx
    obtain ⟨sl', e2⟩ := slot b _ (neL b o e) hb (neC b o e hx) e1 (I.base.free b o e n hx)
    exact ⟨sl', e2⟩
  · obtain ⟨o', e1⟩ := I.base.there b o e hx
    exact free b o' (neC b o e hx) e1 (I.base.free b o e n hx)
  · obtain ⟨o', e1⟩ := I.base.there b o e hx
    exact there b o' (neC b o e hx) e1
  · obtain ⟨m1, e1⟩ := I.base.tbls b ps e
    obtain ⟨m2, e2⟩ := tbls b _ e1
    exact ⟨m1 ++ m2, by rw [e2, Array.append_assoc]⟩
  · obtain ⟨m, hn, hl⟩ := I.loc
    refine ⟨m, ns m hn, fun i x v e1 e2 e3 => ?_⟩
    obtain ⟨u, r, l⟩ := hl i x v e1 e2 e3
    refine ⟨u, r, ?_⟩
    rcases l with l | ⟨k, c, e, z⟩
    · exact .inl l
    · exact .inr ⟨k, c, e, cellK x c e _ z⟩
  · obtain ⟨v, z⟩ := I.cell x c e
    exact ⟨v, cellK x c e v z⟩
  · obtain ⟨m, ⟨o, _, _, ho, _⟩, _⟩ := I.loc
    exact free _ o (fun z => (hch _ z).2.1 rfl) ho I.free
  · obtain ⟨v, o, ho, hd⟩ := I.cell x c e
    exact free c o (fun z => (hch c z).2.2.1 x c e rfl) ho (I.freeC x c e)
  · obtain ⟨e, n, ne, nf, d⟩ := I.pin p hp
    have nch : p.1 ∉ ch := fun z => (hch p.1 z).2.2.2 p hp rfl
    exact ⟨keep p.1 p.2 ne nf nch e n, free p.1 p.2 nch e n, ne, nf, d⟩
theorem Inv.un {t' : Nat} (I : Inv X pins σ H s) (u : Un X.fs [] H H' s.heap h') (hok : HOk X.prog X.w H' h') : Inv X pins σ H' { s with heap := h', toks := t' } := by
  obtain ⟨m, ⟨o, es, ep, ho, r⟩, _⟩ := id I.loc
  obtain ⟨sl, hL⟩ := u.any ho I.free (by simp)
  exact I.step (g' := s.gens) (d' := s.drawn) (ch := []) (fun _ z => nomatch z) (fun b o _ hb _ e n => u.keep b o e n hb (by simp)) (fun b o _ hb _ e n => u.slot b o e n hb (by simp)) (fun b o _ e n => u.free b o e n (by simp)) (fun b o _ e => u.there b o e (by simp)) u.tups u.frzs u.tbls (fun m' hm => by
    obtain ⟨o', es', ep', ho', r'⟩ := hm
    rw [ho] at ho'; cases ho'
    exact ⟨_, es', ep', hL, r'⟩) hok I.bare
theorem Inv.call {g' : Array GenState} {t' : Nat} {d' : Drawn} {ch : List Addr} (I : Inv X pins σ H s) (u : Un (frs X.stack) ch H H' s.heap h') (hok : HOk X.prog X.w H' h') (hg : AllBare g')
    (hch : ∀ b ∈ ch, (b ∈ X.ex ∨ X.s₀.heap.objs.size ≤ b) ∧ b ≠ X.env.locals ∧ (∀ x c, X.env.cells.lookup x = some c → c ≠ b) ∧ ∀ p ∈ X.pn ++ pins, p.1 ≠ b) :
    Inv X pins σ H' { s with heap := h', gens := g', drawn := d', toks := t' } := by
  obtain ⟨m, ⟨o, es, ep, ho, r⟩, _⟩ := id I.loc
  obtain ⟨sl, hL⟩ := u.any ho I.free fun z => (hch _ z).2.1 rfl
  exact I.step (ch := ch) hch (fun b o hL hb hc e n => u.keep b o e n (fun z => (List.mem_cons.mp (I.stkSub b z)).elim hL hb) hc) (fun b o _ _ hc e n => u.any e n hc) (fun b o hc e n => u.free b o e n hc) (fun b o hc e => u.there b o e hc) u.tups u.frzs u.tbls (fun m' hm => by
    obtain ⟨o', es', ep', ho', r'⟩ := hm
    rw [ho] at ho'; cases ho'
    exact ⟨_, es', ep', hL, r'⟩) hok hg
theorem Inv.turned {t' : Nat} {it : Addr} (I : Inv X pins σ H s) (k : ∀ b o, b ≠ it → s.heap.get? b = some o → h'.get? b = some o) (hn : H it = none) (hL : it ≠ X.env.locals)
    (h1 : it ∈ X.ex ∨ X.s₀.heap.objs.size ≤ it) (h2 : ∀ x c, X.env.cells.lookup x = some c → c ≠ it) (h3 : ∀ p ∈ X.pn ++ pins, p.1 ≠ it) : Inv X pins σ H { s with heap := h', toks := t' } := by
  have nit : ∀ b u, H b = some u → b ≠ it := fun b u e z => by rw [z, hn] at e; cases e
  refine I.step (g' := s.gens) (d' := s.drawn) (ch := [it]) (fun b hb => ?_) (fun b o _ _ hc e _ => k b o (fun z => hc (by simp [z])) e) (fun b o _ _ hc e _ => ⟨o.slots, k b o (fun z => hc (by simp [z])) e⟩) (fun _ _ _ _ n => n)
    (fun b o hc e => ⟨o, k b o (fun z => hc (by simp [z])) e⟩) (fun _ _ e => e) (fun _ _ _ e => e) (fun b ps e => ⟨#[], by rw [e]; simp⟩) (fun m hm => ?_) (fun b u e => ?_) I.bare
  · have e : b = it := by simpa using hb
    subst e
    exact ⟨h1, hL, h2, h3⟩
  · obtain ⟨o, es, ep, ho, r⟩ := hm
    exact ⟨o, es, ep, k _ o (Ne.symm hL) ho, r⟩
  · refine (I.hok b u e).stay (fun c v hc q => k c v ?_ q) (fun _ q => q) fun _ _ q => q
    rcases hc with z | z
    · rw [z]; exact nit b u e
    · exact nit c _ z
theorem Inv.tok (I : Inv X pins σ H s) (t : Nat) : Inv X pins σ H { s with toks := t } := I.un (h' := s.heap) (t' := t) Un.refl I.hok
theorem Inv.kept {t' : Nat} (I : Inv X pins σ H s) (k : ∀ b u, s.heap.get? b = some u → h'.get? b = some u) : Inv X pins σ H { s with heap := h', toks := t' } := I.un (Un.kept k) (I.hok.kept k)
theorem Inv.laid {a : Addr} {o : HO} {t' : Nat} (I : Inv X pins σ H s) (k : ∀ b u, s.heap.get? b = some u → h'.get? b = some u) (hp : s.heap.objs.size ≤ a) (new : ObjOk X.prog X.w (upd H a o) h' a o) :
    Inv X pins σ (upd H a o) { s with heap := h', toks := t' } := I.un (Un.laid k hp (I.hok.fresh hp)) (I.hok.laid k hp new)
theorem Inv.write {x e : Addr} {o : HO} {t' : Nat} (I : Inv X pins σ H s) (mu : Mut (H x)) (he : e = x ∨ H e = some (.own x)) (k : ∀ b u, b ≠ e → s.heap.get? b = some u → h'.get? b = some u) (heo : ∃ u, h'.get? e = some u)
    (new : ObjOk X.prog X.w (upd H x o) h' x o) : Inv X pins σ (upd H x o) { s with heap := h', toks := t' } := I.un (Un.write mu he k heo) (I.hok.write mu he k heo new)
theorem Inv.weak {σ' : List (Option V)} (I : Inv X pins σ H s) (hl : σ'.length = σ.length) (w : ∀ (i : Nat) v, σ'[i]? = some (some v) → σ[i]? = some (some v)) : Inv X pins σ' H s :=
  ⟨I.ok, I.os, I.bare, I.base, let ⟨m, hn, hl'⟩ := I.loc; ⟨m, hn, fun i x v e1 e2 e3 => hl' i x v e1 (w i v e2) e3⟩, I.cell, I.free, I.freeC, I.pin, I.hok, hl.trans I.len⟩
theorem Inv.pins_of {pins' : List (Addr × Obj)} (I : Inv X pins σ H s) (h : ∀ p ∈ pins', s.heap.get? p.1 = some p.2 ∧ H p.1 = none ∧ p.1 ≠ X.env.locals ∧ p.1 ∉ X.fs ∧ ∀ v, p.2.data ≠ .cell v) : Inv X pins' σ H s :=
  ⟨I.ok, I.os, I.bare, I.base, I.loc, I.cell, I.free, I.freeC, fun p hp => (List.mem_append.mp hp).elim (fun z => I.pin p (List.mem_append_left _ z)) (h p), I.hok, I.len⟩
theorem nodup_ix {N : List Str} (hN : N.Nodup) {i j : Nat} {x : Str} (a : N[i]? = some x) (b : N[j]? = some x) : i = j := by
  obtain ⟨h1, e1⟩ := List.getElem?_eq_some_iff.mp a
  obtain ⟨h2, e2⟩ := List.getElem?_eq_some_iff.mp b
  exact (List.getElem_inj hN).mp (e1.trans e2.symm)
theorem store_ok2 {M : Model} {A : Around} {E : Value → Shared → Prop} {i : Nat} {x : Str} {v : V} {u : Value} {Q : Unit → Shared → Prop} (I : Inv X pins σ H s) (hN : X.N.Nodup) (hi : X.N[i]? = some x) (hx : Loc X.env.scope x) (r : RelV v u)
    (h : ∀ s', Inv X pins (σ.set i (some v)) H s' → (∃ a, Heap.SameBut a s.heap s'.heap ∧ (a = X.env.locals ∨ X.env.cells.lookup x = some a)) → Q () s') (hf : X.fn x = true ∨ X.env.scope.names.lookup x = some .local := by first | exact .inl rfl | exact .inr rfl | assumption) : wpAny M A (storeName X.env x u) Q E s := by
  obtain ⟨m, hn, hl⟩ := id I.loc
  have hcls : (X.env.scope.kind == .class || (X.env.scope.kind == .module && X.env.locals != X.env.globals)) = false := by rw [I.ok.kind]; rfl
  have hiσ : i < σ.length := by rw [I.len]; exact (List.getElem?_eq_some_iff.mp hi).1
  have cne := I.cne
  have tracked : ∀ {a : Addr} {h' : Heap}, (∃ o, s.heap.get? a = some o ∧ H a = none) → Heap.SameBut a s.heap h' → HOk X.prog X.w H h' := fun {a h'} ha hs b ob e => by
    obtain ⟨_, _, hfree⟩ := ha
    refine (I.hok b ob e).stay (fun c w' hc q => (hs.2 c ?_).trans q) (fun _ q => q) fun _ _ q => q
    rintro rfl
    rcases hc with rfl | hc
    · rw [hfree] at e; cases e
    · rw [hfree] at hc; cases hc
  rcases hx with hk | hk
  · refine wpAny_storeName_local hk hn (fun h' hn' hs => ?_) hcls
    obtain ⟨oL, _, _, hoL, _⟩ := id hn
    refine h _ ⟨I.ok, I.os, I.bare, ⟨fun b o e n hb hx => ?_, fun b o e n hb hx => ?_, I.base.free, fun b o e hx => ?_, I.base.tups, I.base.frzs, I.base.tbls⟩, ⟨_, hn', fun j y v' e1 e2 e3 => ?_⟩, fun y c e => ?_, I.free, I.freeC, fun p hp => ?_, tracked ⟨oL, hoL, I.free⟩ hs, by simpa using I.len⟩ ⟨_, hs, .inl rfl⟩
    · exact (hs.2 b (Nat.ne_of_lt (Nat.lt_of_lt_of_le (Heap.lt_size e) I.ok.above))).trans (I.base.keep b o e n hb hx)
    · obtain ⟨sl, e1⟩ := I.base.slot b o e n hb hx
      exact ⟨sl, (hs.2 b (Nat.ne_of_lt (Nat.lt_of_lt_of_le (Heap.lt_size e) I.ok.above))).trans e1⟩
    · obtain ⟨o', e1⟩ := I.base.there b o e hx
      exact ⟨o', (hs.2 b (Nat.ne_of_lt (Nat.lt_of_lt_of_le (Heap.lt_size e) I.ok.above))).trans e1⟩
    · by_cases hj : j = i
      · subst hj
        rw [hi] at e1; cases e1
        rw [List.getElem?_set_self hiσ] at e2
        cases e2
        exact ⟨u, r, .inl ⟨hk, by simp⟩⟩
      · rw [List.getElem?_set_ne (Ne.symm hj)] at e2
        obtain ⟨u', r', q⟩ := hl j y v' e1 e2 e3
        refine ⟨u', r', ?_⟩
        rcases q with ⟨k, e⟩ | ⟨k, c, e, z⟩
        · refine .inl ⟨k, ?_⟩
          have : y ≠ x := fun e => hj (nodup_ix hN e1 (e ▸ hi))
          simp [this, e]
        · exact .inr ⟨k, c, e, z.sameBut hs (cne y c e)⟩
    · obtain ⟨w', z⟩ := I.cell y c e
      exact ⟨w', z.sameBut hs (cne y c e)⟩
    · obtain ⟨e, n, ne, nf, d⟩ := I.pin p hp
      exact ⟨(hs.2 p.1 ne).trans e, n, ne, nf, d⟩
  · have hfn : X.fn x = true := by
      rcases hf with z | z
      · exact z
      · rw [z] at hk; cases hk
    obtain ⟨c, hc⟩ := I.ok.has x (.inl hk)
    obtain ⟨w', z⟩ := I.cell x c hc
    refine wpAny_storeName_cell I.ok.kind hk hc z (fun h' hc' hs => ?_)
    obtain ⟨oc, hoc, hocd⟩ := id z
    refine h { s with heap := h' } ⟨I.ok, I.os, I.bare, ⟨fun b o e n hb hx => ?_, fun b o e n hb hx => ?_, I.base.free, fun b o e hx => ?_, I.base.tups, I.base.frzs, I.base.tbls⟩, ⟨m, hn.sameBut hs (Ne.symm (cne x c hc)), fun j y v' e1 e2 e3 => ?_⟩, fun y c' e => ?_, I.free, I.freeC, fun p hp => ?_, tracked ⟨oc, hoc, I.freeC x c hc⟩ hs, by simpa using I.len⟩ ⟨c, hs, .inr hc⟩
    · exact (hs.2 b (Nat.ne_of_lt (Nat.lt_of_lt_of_le (Heap.lt_size e) (I.ok.cab x c hfn hc)))).trans (I.base.keep b o e n hb hx)
    · obtain ⟨sl, e1⟩ := I.base.slot b o e n hb hx
      exact ⟨sl, (hs.2 b (Nat.ne_of_lt (Nat.lt_of_lt_of_le (Heap.lt_size e) (I.ok.cab x c hfn hc)))).trans e1⟩
    · obtain ⟨o', e1⟩ := I.base.there b o e hx
      exact ⟨o', (hs.2 b (Nat.ne_of_lt (Nat.lt_of_lt_of_le (Heap.lt_size e) (I.ok.cab x c hfn hc)))).trans e1⟩
    · by_cases hj : j = i
      · subst hj
        rw [hi] at e1; cases e1
        rw [List.getElem?_set_self hiσ] at e2
        cases e2
        exact ⟨u, r, .inr ⟨.inl hk, c, hc, hc'⟩⟩
      · rw [List.getElem?_set_ne (Ne.symm hj)] at e2
        obtain ⟨u', r', q⟩ := hl j y v' e1 e2 e3
        refine ⟨u', r', ?_⟩
        rcases q with q | ⟨k, c', e, z'⟩
        · exact .inl q
        · refine .inr ⟨k, c', e, z'.sameBut hs ?_⟩
          rintro rfl
          exact hj (nodup_ix hN e1 (I.ok.inj _ _ _ e hc ▸ hi))
    · by_cases hcc : c' = c
      · subst hcc; exact ⟨_, hc'⟩
      · obtain ⟨w2, z2⟩ := I.cell y c' e
        exact ⟨w2, z2.sameBut hs hcc⟩
    · obtain ⟨e, n, ne, nf, d⟩ := I.pin p hp
      refine ⟨(hs.2 p.1 ?_).trans e, n, ne, nf, d⟩
      intro q
      rw [q, hoc] at e
      have q' : oc = p.2 := Option.some.inj e
      exact d w' (by rw [← q']; exact hocd)
theorem store_ok {M : Model} {A : Around} {E : Value → Shared → Prop} {i : Nat} {x : Str} {v : V} {u : Value} {Q : Unit → Shared → Prop} (I : Inv X pins σ H s) (hN : X.N.Nodup) (hi : X.N[i]? = some x) (hx : Loc X.env.scope x) (r : RelV v u)
    (h : ∀ s', Inv X pins (σ.set i (some v)) H s' → Q () s') (hf : X.fn x = true ∨ X.env.scope.names.lookup x = some .local := by first | exact .inl rfl | exact .inr rfl | assumption) : wpAny M A (storeName X.env x u) Q E s :=
  store_ok2 I hN hi hx r (fun s' I' _ => h s' I') hf
theorem Inv.call' {s' : Shared} {ch : List Addr} (I : Inv X pins σ H s) (ho : s'.os = s.os) (u : Un (frs X.stack) ch H H' s.heap s'.heap) (hok : HOk X.prog X.w H' s'.heap) (hg : AllBare s'.gens)
    (hch : ∀ b ∈ ch, (b ∈ X.ex ∨ X.s₀.heap.objs.size ≤ b) ∧ b ≠ X.env.locals ∧ (∀ x c, X.env.cells.lookup x = some c → c ≠ b) ∧ ∀ p ∈ X.pn ++ pins, p.1 ≠ b) : Inv X pins σ H' s' := by
  obtain ⟨h', g', d', t', o'⟩ := s'
  have e : o' = s.os := ho
  subst e
  exact I.call (g' := g') (t' := t') (d' := d') u hok hg hch
end
abbrev XK := Value → Option Addr → Hp → Prop
abbrev St := List (Option V)
abbrev VK := V → Hp → Prop
abbrev TE := St → Hp → VK → Prop
abbrev TT := St → Hp → (Bool → Hp → Prop) → Prop
abbrev TA := St → Hp → (List V → Hp → Prop) → Prop
structure Ends where
  nx : St → Hp → Prop
  rt : VK
  bk : St → Hp → Prop := fun _ _ => False
  ct : St → Hp → Prop := fun _ _ => False
abbrev TS := Ends → St → Hp → Prop
def EP (X : Cx) (pins : List (Addr × Obj)) (σ : St) (Q : VK) (u : Value) (s' : Shared) : Prop := ∃ v H', Inv X pins σ H' s' ∧ RelV v u ∧ Q v H'
def TP (X : Cx) (pins : List (Addr × Obj)) (σ : St) (Q : Bool → Hp → Prop) (b : Bool) (s' : Shared) : Prop := ∃ H', Inv X pins σ H' s' ∧ Q b H'
def AP (X : Cx) (pins : List (Addr × Obj)) (σ : St) (Q : List V → Hp → Prop) (us : List Value) (s' : Shared) : Prop := ∃ vs H', Inv X pins σ H' s' ∧ Vals vs us ∧ Q vs H'
def SP (X : Cx) (pins : List (Addr × Obj)) (D : Ends) (f : Flow) (s' : Shared) : Prop :=
  match f with
  | .next => ∃ σ' H', Inv X pins σ' H' s' ∧ D.nx σ' H'
  | .brk => ∃ σ' H', Inv X pins σ' H' s' ∧ D.bk σ' H'
  | .cont => ∃ σ' H', Inv X pins σ' H' s' ∧ D.ct σ' H'
  | .ret u => ∃ v σ' H', Inv X pins σ' H' s' ∧ RelV v u ∧ D.rt v H'
def PE (X : Cx) (e : Expr) (t : TE) : Prop :=
  ∀ (pins : List (Addr × Obj)) (s : Shared) (σ : St) (H : Hp) (Q : VK), Inv X pins σ H s → t σ H Q → wpAny (model X.prog X.w) X.A (eval e X.env) (EP X pins σ Q) X.xe s
def PT (X : Cx) (e : Expr) (t : TT) : Prop :=
  ∀ (pins : List (Addr × Obj)) (s : Shared) (σ : St) (H : Hp) (Q : Bool → Hp → Prop), Inv X pins σ H s → t σ H Q → wpAny (model X.prog X.w) X.A (isTrue e X.env (eval e X.env)) (TP X pins σ Q) X.xe s
def PW (X : Cx) (e : Expr) (t : TT) : Prop :=
  ∀ (whole : Sem Value) (pins : List (Addr × Obj)) (s : Shared) (σ : St) (H : Hp) (Q : Bool → Hp → Prop), Inv X pins σ H s → t σ H Q → wpAny (model X.prog X.w) X.A (isTrue e X.env whole) (TP X pins σ Q) X.xe s
theorem PW.pt {X : Cx} {e : Expr} {t : TT} (h : PW X e t) : PT X e t := h _
def PA (X : Cx) (es : List Expr) (t : TA) : Prop :=
  ∀ (pos : Pos) (pins : List (Addr × Obj)) (s : Shared) (σ : St) (H : Hp) (Q : List V → Hp → Prop), Inv X pins σ H s → t σ H Q → wpAny (model X.prog X.w) X.A (spliced (backTo pos (starEach es X.env))) (AP X pins σ Q) X.xe s
def PS (X : Cx) (st : Stmt) (t : TS) : Prop :=
  ∀ (pins : List (Addr × Obj)) (s : Shared) (σ : St) (H : Hp) (D : Ends), Inv X pins σ H s → t D σ H → wpAny (model X.prog X.w) X.A (exec st X.env) (SP X pins D) X.xe s
def PSs (X : Cx) (st : List Stmt) (t : TS) : Prop :=
  ∀ (pins : List (Addr × Obj)) (s : Shared) (σ : St) (H : Hp) (D : Ends), Inv X pins σ H s → t D σ H → wpAny (model X.prog X.w) X.A (execs st X.env) (SP X pins D) X.xe s
theorem thn {α : Type} {t : Sem α} {Q Q' : α → Shared → Prop} {M : Model} {A : Around} {E : Value → Shared → Prop} {s : Shared} (h : wpAny M A t Q E s) (hQ : ∀ a s, Q a s → Q' a s) : wpAny M A t Q' E s := wpAny_mono h hQ fun _ _ x => x
end L2
namespace L2
open PySem PySem.Spec PyProof.Rows
section
variable {X : Cx}
theorem bin {a b : Expr} {ta tb : TE} (ha : PE X a ta) (hb : PE X b tb) {pins : List (Addr × Obj)} {s : Shared} {σ : St} {H : Hp} {R : V → V → Hp → Prop} (I : Inv X pins σ H s) (h : ta σ H fun x H1 => tb σ H1 fun y H2 => R x y H2)
    {α : Type} {Q : α → Shared → Prop} {f : Value → Value → Sem α}
    (hf : ∀ v u s2 x y H2, Inv X pins σ H2 s2 → RelV x v → RelV y u → R x y H2 → wpAny (model X.prog X.w) X.A (f v u) Q X.xe s2) :
    wpAny (model X.prog X.w) X.A (eval a X.env) (fun v s₁ => wpAny (model X.prog X.w) X.A (eval b X.env) (fun u s₂ => wpAny (model X.prog X.w) X.A (f v u) Q X.xe s₂) X.xe s₁) X.xe s := by
  refine thn (ha pins s σ H _ I h) fun v s1 ⟨x, H1, I1, r1, q1⟩ => ?_
  refine thn (hb pins s1 σ H1 _ I1 q1) fun u s2 ⟨y, H2, I2, r2, q2⟩ => ?_
  exact hf v u s2 x y H2 I2 r1 r2 q2
def tVar (i : Nat) : TE := fun σ H Q => ∃ v, σ[i]? = some (some v) ∧ Q v H
def tC (v : V) : TE := fun _ H Q => Q v H
theorem pe_var {i : Nat} {x : Str} {pos : Pos} (hN : X.N[i]? = some x) (hv : Vis X.env.scope x) (hd : (x == ("__debug__" : Str)) = false := by decide) (hcd : (x == ("__classdict__" : Str)) = false := by decide) : PE X (.Name x pos) (tVar i) := by
  intro pins s σ H Q I h
  obtain ⟨v, e, h⟩ := h
  obtain ⟨m, hn, hl⟩ := I.loc
  obtain ⟨u, r, l⟩ := hl i x v hN e hv
  have fin : EP X pins σ Q u s := ⟨v, H, I, r, h⟩
  rcases l with ⟨hk, hm⟩ | ⟨hk, c, hc, hcell⟩
  · exact wpAny_Name (wpAny_loadName_local I.ok.kind hk hn hm fin) hd
  · rcases hk with hk | hk
    · exact wpAny_Name (wpAny_loadName_cell I.ok.kind hk hc hcell fin) hd
    · exact wpAny_Name (wpAny_loadName_free I.ok.kind hk hc hcell fin hcd) hd
theorem pe_int {i j pos} : PE X (.Constant (.int i) j pos) (tC (.int i)) := fun _ _ _ H _ I h => wpAny_Constant_int ⟨.int i, H, I.tok _, ⟨_, rfl⟩, h⟩
theorem pe_bl {b j pos} : PE X (.Constant (.bool b) j pos) (tC (.bl b)) := fun _ _ _ H _ I h => Constant_bool ⟨.bl b, H, I, rfl, h⟩
theorem pe_non {j pos} : PE X (.Constant .none j pos) (tC .non) := fun _ _ _ H _ I h => Constant_none ⟨.non, H, I, rfl, h⟩
theorem pe_str {x j pos} : PE X (.Constant (.str x) j pos) (tC (.str x)) := fun _ _ _ H _ I h => Calls.Constant_str ⟨.str x, H, I.tok _, ⟨_, rfl⟩, h⟩
def Gl (X : Cx) (x : Str) : Prop := X.env.kindOf x = some .globalImplicit
theorem ld_glob {E : Value → Shared → Prop} {pins : List (Addr × Obj)} {s : Shared} {σ : St} {H : Hp} {x : Str} {u : Value} {pos : Pos} {Q : Value → Shared → Prop} (I : Inv X pins σ H s) (hg : Gl X x) (hm : X.mg x = some u) (h : Q u s)
    (hd : (x == ("__debug__" : Str)) = false := by decide) : wpAny (model X.prog X.w) X.A (eval (.Name x pos) X.env) Q E s :=
  Calls.Name_function_global I.ok.kind hg (Calls.loadGlobal_global (by rw [I.ok.glob]; exact I.mod.glob.keeps I.bk) hm h) hd
theorem ld_blt {E : Value → Shared → Prop} {pins : List (Addr × Obj)} {s : Shared} {σ : St} {H : Hp} {x : Str} {u : Value} {pos : Pos} {Q : Value → Shared → Prop} (I : Inv X pins σ H s) (hg : Gl X x) (hm : X.mg x = none) (hv : bootBuiltins x = some u) (h : Q u s)
    (hn : x ≠ "__name__" := by decide) (hd : (x == ("__debug__" : Str)) = false := by decide) : wpAny (model X.prog X.w) X.A (eval (.Name x pos) X.env) Q E s := by
  obtain ⟨mb, h1, h2⟩ := I.mod.blt
  exact Calls.Name_function_global I.ok.kind hg (Calls.loadGlobal_builtin (by rw [I.ok.glob]; exact I.mod.glob.keeps I.bk) hm (by rw [I.ok.blt]; exact h1.keeps I.bk) ((h2 x hn).trans hv) h) hd
theorem pe_bltn {x : Str} {v : V} {u : Value} {pos : Pos} (hg : Gl X x) (hm : X.mg x = none) (hv : bootBuiltins x = some u) (r : RelV v u) (hn : x ≠ "__name__" := by decide) (hd : (x == ("__debug__" : Str)) = false := by decide) : PE X (.Name x pos) (tC v) :=
  fun _ _ _ H _ I h => ld_blt I hg hm hv ⟨v, H, I, r, h⟩ hn hd
def t2I (ta tb : TE) (k : Int → Int → Hp → Prop) : St → Hp → Prop := fun σ H => ta σ H fun x H1 => tb σ H1 fun y H2 => ∃ i j, x = .int i ∧ y = .int j ∧ k i j H2
def tAdd (ta tb : TE) : TE := fun σ H Q => t2I ta tb (fun i j H2 => Q (.int (i + j)) H2) σ H
def tSub (ta tb : TE) : TE := fun σ H Q => t2I ta tb (fun i j H2 => Q (.int (i - j)) H2) σ H
def tMul (ta tb : TE) : TE := fun σ H Q => t2I ta tb (fun i j H2 => (-(2 ^ 64) < i ∧ i < 2 ^ 64) ∧ Q (.int (i * j)) H2) σ H
variable {a b : Expr} {ta tb : TE} {pos : Pos}
def PC (X : Cx) (op : CmpOp) (a b : Expr) (t : TE) : Prop :=
  ∀ (pins : List (Addr × Obj)) (s : Shared) (σ : St) (H : Hp) (Q : VK), Inv X pins σ H s → t σ H Q →
    wpAny (model X.prog X.w) X.A (eval a X.env) (fun v s₁ => wpAny (model X.prog X.w) X.A (eval b X.env) (fun u s₂ => wpAny (model X.prog X.w) X.A (compareOp op v u) (EP X pins σ Q) X.xe s₂) X.xe s₁) X.xe s
theorem nobehind (b : Expr) {op : CmpOp} (h : op ≠ .In) (h2 : op ≠ .NotIn) : behindInMarks op b = false := by
  have e1 : (op == CmpOp.In) = false := by cases op <;> first | rfl | exact absurd rfl h
  have e2 : (op == CmpOp.NotIn) = false := by cases op <;> first | rfl | exact absurd rfl h2
  cases b <;> simp [behindInMarks, e1, e2]
def tCmp (p : Int → Int → Bool) (ta tb : TE) : TE := fun σ H Q => t2I ta tb (fun i j H2 => Q (.bl (p i j)) H2) σ H
abbrev tLt : TE → TE → TE := tCmp fun i j => decide (i < j)
abbrev tLe : TE → TE → TE := tCmp fun i j => decide (i ≤ j)
abbrev tGt : TE → TE → TE := tCmp fun i j => decide (j < i)
abbrev tGe : TE → TE → TE := tCmp fun i j => decide (j ≤ i)
abbrev tEqI : TE → TE → TE := tCmp fun i j => decide (i = j)
abbrev tNeI : TE → TE → TE := tCmp fun i j => !decide (i = j)
def tIsN (ta : TE) : TE := fun σ H Q => ta σ H fun x H1 => Q (.bl (decide (x = .non))) H1
def tNotN (ta : TE) : TE := fun σ H Q => ta σ H fun x H1 => Q (.bl (!decide (x = .non))) H1
def tB (t : TE) : TT := fun σ H Q => t σ H fun x H1 => ∃ c, x = .bl c ∧ Q c H1
theorem pt_cmp {op : CmpOp} {t : TE} (h : PC X op a b t) (h1 : behindInMarks op b = false := by first | exact nobehind _ (by decide) (by decide) | rfl) : PT X (.Compare a [op] [b] pos) (tB t) := by
  intro pins s σ H Q I hw
  refine wpAny_isTrue_Compare1 (thn (h pins s σ H _ I hw) fun v s1 h1 => thn h1 fun u s2 h2 => thn h2 fun c s3 ⟨x, H1, I1, r1, q1⟩ => ?_) h1
  obtain ⟨d, rfl, q⟩ := q1
  cases r1
  exact wpAny_truthy_bool ⟨H1, I1, q⟩
theorem pt_val {e : Expr} {t : TE} (h : PE X e t) (he : ∀ whole, isTrue e X.env whole = (do let v ← whole; standAt e.pos; holding [v] (truthy v)) := by intro _; rfl) : PT X e (tB t) := by
  intro pins s σ H Q I hw
  refine isTrue_plain (thn (h pins s σ H _ I hw) fun v s1 ⟨x, H1, I1, r1, q1⟩ => ?_) (he _)
  obtain ⟨d, rfl, q⟩ := q1
  cases r1
  exact wpAny_truthy_bool ⟨H1, I1, q⟩
variable {tA tB' : TT} {rest : List Expr}
def tAnd (t u : TT) : TT := fun σ H Q => t σ H fun c H1 => if c = true then u σ H1 Q else Q false H1
def tOr (t u : TT) : TT := fun σ H Q => t σ H fun c H1 => if c = true then Q true H1 else u σ H1 Q
def tNot (t : TT) : TT := fun σ H Q => t σ H fun c H1 => Q (!c) H1
theorem pw_and1 (ha : PT X a tA) : PW X (.BoolOp .And [a] pos) tA := by
  intro wh pins s σ H Q I h
  refine isTrue_and (thn (ha pins s σ H Q I h) fun c s1 e => ?_)
  cases c with
  | true => exact isTrue_and_nil e
  | false => exact e
theorem pw_or1 (ha : PT X a tA) : PW X (.BoolOp .Or [a] pos) tA := by
  intro wh pins s σ H Q I h
  refine isTrue_or (thn (ha pins s σ H Q I h) fun c s1 e => ?_)
  cases c with
  | false => exact isTrue_or_nil e
  | true => exact e
theorem pw_and (ha : PT X a tA) (hb : PW X (.BoolOp .And (b :: rest) pos) tB') : PW X (.BoolOp .And (a :: b :: rest) pos) (tAnd tA tB') := by
  intro wh pins s σ H Q I h
  refine isTrue_and (thn (ha pins s σ H _ I h) fun c s1 ⟨H1, I1, q1⟩ => ?_)
  cases c with
  | true => exact hb wh pins s1 σ H1 Q I1 q1
  | false => exact ⟨H1, I1, q1⟩
theorem pw_or (ha : PT X a tA) (hb : PW X (.BoolOp .Or (b :: rest) pos) tB') : PW X (.BoolOp .Or (a :: b :: rest) pos) (tOr tA tB') := by
  intro wh pins s σ H Q I h
  refine isTrue_or (thn (ha pins s σ H _ I h) fun c s1 ⟨H1, I1, q1⟩ => ?_)
  cases c with
  | true => exact ⟨H1, I1, q1⟩
  | false => exact hb wh pins s1 σ H1 Q I1 q1
theorem pt_not (ha : PT X a tA) : PT X (.UnaryOp .Not a pos) (tNot tA) := by
  intro pins s σ H Q I h
  exact isTrue_not (ha pins s σ H (fun c H1 => Q (!c) H1) I h)
def tAndV (ta tb : TE) : TE := fun σ H Q => ta σ H fun x H1 => ∃ c, x = .bl c ∧ if c = true then tb σ H1 Q else Q (.bl false) H1
def tOrV (ta tb : TE) : TE := fun σ H Q => ta σ H fun x H1 => ∃ c, x = .bl c ∧ if c = true then Q (.bl true) H1 else tb σ H1 Q
def tNotV (ta : TE) : TE := fun σ H Q => ta σ H fun x H1 => ∃ c, x = .bl c ∧ Q (.bl (!c)) H1
theorem pe_one {op} {t : TE} (h : PE X a t) : PE X (.BoolOp op [a] pos) t := fun pins s σ H Q I hw => BoolOp_one (h pins s σ H Q I hw)
theorem pe_and (ha : PE X a ta) (hb : PE X (.BoolOp .And (b :: rest) pos) tb) : PE X (.BoolOp .And (a :: b :: rest) pos) (tAndV ta tb) := by
  intro pins s σ H Q I h
  refine BoolOp_and (thn (ha pins s σ H _ I h) fun v s1 ⟨x, H1, I1, r1, q1⟩ => ?_)
  obtain ⟨c, rfl, q1⟩ := q1
  cases r1
  refine wpAny_truthy_bool ?_
  cases c with
  | true => exact hb pins s1 σ H1 Q I1 q1
  | false => exact ⟨.bl false, H1, I1, rfl, q1⟩
theorem pe_not (ha : PE X a ta) : PE X (.UnaryOp .Not a pos) (tNotV ta) := by
  intro pins s σ H Q I h
  refine UnaryOp_ (thn (ha pins s σ H _ I h) fun v s1 ⟨x, H1, I1, r1, q1⟩ => ?_)
  obtain ⟨c, rfl, q1⟩ := q1
  cases r1
  exact not_of (wpAny_truthy_bool ⟨.bl (!c), H1, I1, rfl, q1⟩)
def tIf (t : TT) (ta tb : TE) : TE := fun σ H Q => t σ H fun c H1 => if c = true then ta σ H1 Q else tb σ H1 Q
theorem pe_ifExp {c : Expr} (hc : PT X c tA) (ha : PE X a ta) (hb : PE X b tb) : PE X (.IfExp c a b pos) (tIf tA ta tb) := by
  intro pins s σ H Q I h
  refine wpAny_IfExp (thn (hc pins s σ H _ I h) fun d s1 ⟨H1, I1, q1⟩ => ?_)
  cases d with
  | true => exact ha pins s1 σ H1 Q I1 q1
  | false => exact hb pins s1 σ H1 Q I1 q1
end
end L2
namespace L2
open PySem PySem.Spec PyProof.Rows
def SqL (K : PySem.W.Frag) (H : Hp) (a : Addr) (xs : List V) : Prop :=
  Rd H a (.lst xs) ∨
    ∃ (o : Obj) (its : Array Value) (n : Nat), K.lookup a = some o ∧ o.cls = .type "list" ∧ o.dict = none ∧ o.data = .seq its n ∧ its.size ≤ sizeLine ∧ Vals xs its.toList
def SqT (K : PySem.W.Frag) (H : Hp) (a : Addr) (xs : List V) : Prop :=
  Rd H a (.tup xs) ∨
    ∃ (o : Obj) (its : Array Value) (n : Nat), K.lookup a = some o ∧ o.cls = .type "tuple" ∧ o.data = .seq its n ∧ its.size ≤ sizeLine ∧ Vals xs its.toList
def absV : Value → Option V
  | .none => some .non
  | .bool b => some (.bl b)
  | .int i _ => some (.int i)
  | .str x _ => some (.str x)
  | .bytes b _ => some (.byt b)
  | .float b _ => some (.flt b)
  | .ref a => some (.ref a)
  | .type n => some (.ty n)
  | _ => none
theorem RelV.abs {x : V} {u : Value} (r : RelV x u) : absV u = some x := by
  cases x with
  | non => cases r; rfl
  | bl _ => cases r; rfl
  | int _ => obtain ⟨t, rfl⟩ := r; rfl
  | str _ => obtain ⟨t, rfl⟩ := r; rfl
  | byt _ => obtain ⟨t, rfl⟩ := r; rfl
  | flt _ => obtain ⟨t, rfl⟩ := r; rfl
  | ref _ => cases r; rfl
  | ty _ => cases r; rfl
theorem RelV.inj {x y : V} {u : Value} (r : RelV x u) (q : RelV y u) : x = y := Option.some.inj (r.abs.symm.trans q.abs)
theorem Vals.inj : ∀ {xs ys : List V} {us : List Value}, Vals xs us → Vals ys us → xs = ys
  | _, _, _, .nil, .nil => rfl
  | _, _, _, .cons r t, .cons r' t' => by rw [r.inj r', Vals.inj t t']
section
variable {X : Cx} {pins : List (Addr × Obj)} {σ : St} {H : Hp} {s : Shared} {a : Addr} {xs ys : List V}
theorem SqL.of {K : PySem.W.Frag} (h : H a = some (.lst xs)) : SqL K H a xs := .inl (.inl h)
theorem SqT.of {K : PySem.W.Frag} (h : H a = some (.tup xs)) : SqT K H a xs := .inl (.inl h)
theorem Inv.list (I : Inv X pins σ H s) (h : SqL X.K H a xs) : ∃ its : List Value, Vals xs its ∧ PlainL s.heap a its.toArray ∧ xs.length ≤ sizeLine := by
  rcases h with h | ⟨o, its, n, hk, hc, hd, hs, hz, r⟩
  · obtain ⟨z, its, n, r, e⟩ := h.ok I.hok
    exact ⟨its, r, ⟨_, n, e, rfl, rfl, rfl⟩, z⟩
  · refine ⟨its.toList, r, ⟨o, n, I.kIn a o hk, hc, hd, by simpa using hs⟩, ?_⟩
    have e := r.length
    simp only [Array.length_toList] at e
    omega
theorem Inv.tuple (I : Inv X pins σ H s) (h : SqT X.K H a xs) : ∃ its : List Value, Vals xs its ∧ IsTup s.heap a its.toArray ∧ xs.length ≤ sizeLine := by
  rcases h with h | ⟨o, its, n, hk, hc, hs, hz, r⟩
  · obtain ⟨z, its, r, p⟩ := h.ok I.hok
    exact ⟨its, r, p, z⟩
  · refine ⟨its.toList, r, ⟨o, I.kIn a o hk, hc, n, by simpa using hs⟩, ?_⟩
    have e := r.length
    simp only [Array.length_toList] at e
    omega
theorem Inv.list_inj (I : Inv X pins σ H s) (h : SqL X.K H a xs) (h' : SqL X.K H a ys) : xs = ys := by
  obtain ⟨its, r, ⟨o, n, e, _, _, d⟩, _⟩ := I.list h
  obtain ⟨its', r', ⟨o', n', e', _, _, d'⟩, _⟩ := I.list h'
  rw [e] at e'; cases e'
  rw [d] at d'
  injection d' with d1 _
  have : its = its' := by simpa using congrArg Array.toList d1
  subst this
  exact r.inj r'
end
abbrev Cx.wish (X : Cx) (E : Value → Shared → Prop) : Cx := { X with xe := E }
abbrev Cx.nox (X : Cx) : Cx := X.wish fun _ _ => False
theorem Cx.Ok.wish {X : Cx} (ok : X.Ok) (E : Value → Shared → Prop) : (X.wish E).Ok :=
  ⟨ok.mod, ok.kind, ok.glob, ok.blt, ok.above, ok.inj, ok.has, ok.cab, ok.hd, ok.frames, ok.stk, ok.exf, ok.bs, ok.bsz, ok.noex, ok.exfs, ok.funs, ok.frf⟩
theorem Cx.Ok.unwish {X : Cx} {E : Value → Shared → Prop} (ok : (X.wish E).Ok) : X.Ok :=
  ⟨ok.mod, ok.kind, ok.glob, ok.blt, ok.above, ok.inj, ok.has, ok.cab, ok.hd, ok.frames, ok.stk, ok.exf, ok.bs, ok.bsz, ok.noex, ok.exfs, ok.funs, ok.frf⟩
section
variable {X : Cx} {pins : List (Addr × Obj)} {σ : St} {H : Hp} {s : Shared} {E : Value → Shared → Prop}
theorem Inv.wish (I : Inv X pins σ H s) (E : Value → Shared → Prop) : Inv (X.wish E) pins σ H s := ⟨I.ok.wish E, I.os, I.bare, I.base, I.loc, I.cell, I.free, I.freeC, I.pin, I.hok, I.len⟩
theorem Inv.unwish (I : Inv (X.wish E) pins σ H s) : Inv X pins σ H s := ⟨I.ok.unwish, I.os, I.bare, I.base, I.loc, I.cell, I.free, I.freeC, I.pin, I.hok, I.len⟩
theorem SP.unwish {D : Ends} {f : Flow} {s' : Shared} (h : SP (X.wish E) pins D f s') : SP X pins D f s' := by
  cases f with
  | next => obtain ⟨σ', H', I, q⟩ := h; exact ⟨σ', H', I.unwish, q⟩
  | brk => obtain ⟨σ', H', I, q⟩ := h; exact ⟨σ', H', I.unwish, q⟩
  | cont => obtain ⟨σ', H', I, q⟩ := h; exact ⟨σ', H', I.unwish, q⟩
  | ret u => obtain ⟨v, σ', H', I, r, q⟩ := h; exact ⟨v, σ', H', I.unwish, r, q⟩
theorem PE.nox {e : Expr} {t : TE} (h : PE X.nox e t) : PE X e t := fun pins s σ H Q I hw =>
  wpAny_mono (h pins s σ H Q (I.wish _) hw) (fun _ _ ⟨v, H', I', r, q⟩ => ⟨v, H', I'.unwish, r, q⟩) fun _ _ z => False.elim z
theorem PT.nox {e : Expr} {t : TT} (h : PT X.nox e t) : PT X e t := fun pins s σ H Q I hw =>
  wpAny_mono (h pins s σ H Q (I.wish _) hw) (fun _ _ ⟨H', I', q⟩ => ⟨H', I'.unwish, q⟩) fun _ _ z => False.elim z
theorem PSs.nox {st : List Stmt} {t : TS} (h : PSs X.nox st t) : PSs X st t := fun pins s σ H D I hw =>
  wpAny_mono (h pins s σ H D (I.wish _) hw) (fun _ _ q => q.unwish) fun _ _ z => False.elim z
end
section
variable {X : Cx} {st : Stmt} {rest : List Stmt} {t u : TS} {e : Expr} {te : TE} {pos : Pos}
def tNext : TS := fun D σ H => D.nx σ H
def tSeq (t u : TS) : TS := fun D σ H => t { D with nx := u D } σ H
theorem pss_nil : PSs X [] tNext := fun _ _ σ H _ I h => wpAny_execs_nil ⟨σ, H, I, h⟩
theorem pss_cons (h1 : PS X st t) (h2 : PSs X rest u) : PSs X (st :: rest) (tSeq t u) := by
  intro pins s σ H D I h
  refine wpAny_execs_cons (thn (h1 pins s σ H { D with nx := u D } I h) fun f s1 q => ?_)
  cases f with
  | next =>
    obtain ⟨σ', H', I', q⟩ := q
    exact h2 pins s1 σ' H' D I' q
  | ret v => exact q
  | brk => exact q
  | cont => exact q
theorem pss_one (h1 : PS X st t) : PSs X [st] t := by
  intro pins s σ H D I h
  refine wpAny_execs_cons (thn (h1 pins s σ H D I h) fun f s1 q => ?_)
  cases f with
  | next => exact wpAny_execs_nil q
  | ret v => exact q
  | brk => exact q
  | cont => exact q
def tBreak : TS := fun D σ H => D.bk σ H
def tCont : TS := fun D σ H => D.ct σ H
theorem Inv.quiet {pins : List (Addr × Obj)} {σ : St} {H : Hp} {s : Shared} (I : Inv X pins σ H s) : interactive X.env = false := by simp [interactive, I.ok.kind]
def tDrop (te : TE) : TS := fun D σ H => te σ H fun _ H1 => D.nx σ H1
theorem ps_expr (he : PE X e te) (hs : swapsWith e none pos.line X.env = pure false := by rfl) : PS X (.Expr e pos) (tDrop te) := by
  intro pins s σ H D I h
  exact wpAny_Expr_any (thn (he pins s σ H _ I h) fun v s1 ⟨x, H1, I1, r1, q1⟩ => ⟨σ, H1, I1, q1⟩) I.quiet hs
def tRet (te : TE) : TS := fun D σ H => te σ H D.rt
theorem ps_ret (he : PE X e te) : PS X (.Return (some e) pos) (tRet te) := by
  intro pins s σ H D I h
  exact wpAny_Return_some (thn (he pins s σ H _ I h) fun v s1 ⟨x, H1, I1, r1, q1⟩ => ⟨x, σ, H1, I1, r1, q1⟩)
def tRetN : TS := fun D _ H => D.rt .non H
def tIfS (c : TT) (t u : TS) : TS := fun D σ H => c σ H fun b H1 => if b = true then t D σ H1 else u D σ H1
theorem ps_if {c : Expr} {a b : List Stmt} {tc : TT} (hc : PT X c tc) (ha : PSs X a t) (hb : PSs X b u) : PS X (.If c a b pos) (tIfS tc t u) := by
  intro pins s σ H D I h
  refine wpAny_If (thn (hc pins s σ H _ I h) fun d s1 ⟨H1, I1, q1⟩ => ?_)
  cases d with
  | true => exact ha pins s1 σ H1 D I1 q1
  | false => exact hb pins s1 σ H1 D I1 q1
def tNever : TS := fun _ _ _ => False
theorem ps_never : PS X st tNever := fun _ _ _ _ _ _ h => h.elim
end
abbrev TG := V → St → Hp → (St → Hp → Prop) → Prop
abbrev TGs := List V → St → Hp → (St → Hp → Prop) → Prop
def PG (X : Cx) (target : Expr) (t : TG) : Prop :=
  ∀ (pins : List (Addr × Obj)) (s : Shared) (σ : St) (H : Hp) (v : V) (u : Value) (Q : St → Hp → Prop), Inv X pins σ H s → RelV v u → t v σ H Q →
    wpAny (model X.prog X.w) X.A (assign target X.env u) (fun _ s' => ∃ σ' H', Inv X pins σ' H' s' ∧ Q σ' H') X.xe s
def PGs (X : Cx) (ts : List Expr) (t : TGs) : Prop :=
  ∀ (pins : List (Addr × Obj)) (s : Shared) (σ : St) (H : Hp) (vs : List V) (us : List Value) (Q : St → Hp → Prop), Inv X pins σ H s → Vals vs us → t vs σ H Q →
    wpAny (model X.prog X.w) X.A (assignInOrder ((assignEach ts X.env).map (·.2)) us) (fun _ s' => ∃ σ' H', Inv X pins σ' H' s' ∧ Q σ' H') X.xe s
abbrev TSet := V → V → V → Hp → (Hp → Prop) → Prop
def PSet (X : Cx) (t : TSet) : Prop :=
  ∀ (pins : List (Addr × Obj)) (s : Shared) (σ : St) (H : Hp) (o i v : V) (ov iv u : Value) (Q : Hp → Prop), Inv X pins σ H s → RelV o ov → RelV i iv → RelV v u → t o i v H Q →
    wpAny (model X.prog X.w) X.A (setItem ov iv u) (fun _ s' => ∃ H', Inv X pins σ H' s' ∧ Q H') X.xe s
abbrev TIp := V → V → Hp → VK → Prop
def PIp (X : Cx) (op : Operator) (t : TIp) : Prop :=
  ∀ (pins : List (Addr × Obj)) (s : Shared) (σ : St) (H : Hp) (x y : V) (v u : Value) (Q : VK), Inv X pins σ H s → RelV x v → RelV y u → t x y H Q →
    wpAny (model X.prog X.w) X.A (inplaceOp op v u) (EP X pins σ Q) X.xe s
section
variable {X : Cx} {pos : Pos}
def gName (i : Nat) : TG := fun v σ H Q => Q (σ.set i (some v)) H
theorem pg_name {i : Nat} {x : Str} (hN : X.N.Nodup) (hi : X.N[i]? = some x) (hx : Loc X.env.scope x) (hf : X.fn x = true ∨ X.env.scope.names.lookup x = some .local := by first | exact .inl rfl | exact .inr rfl | assumption) : PG X (.Name x pos) (gName i) := by
  intro pins s σ H v u Q I r h
  exact wpAny_assign_Name (store_ok I hN hi hx r (fun s' I' => ⟨_, H, I', h⟩) hf)
def gNil : TGs := fun vs σ H Q => vs = [] ∧ Q σ H
def gCons (t : TG) (u : TGs) : TGs := fun vs σ H Q => ∃ v r, vs = v :: r ∧ t v σ H fun σ' H' => u r σ' H' Q
theorem pgs_nil : PGs X [] gNil := by
  intro pins s σ H vs us Q I r h
  obtain ⟨e, h⟩ := h
  subst e
  cases r
  exact assignInOrder_nil ⟨σ, H, I, h⟩
theorem pgs_cons {e : Expr} {es : List Expr} {t : TG} {u : TGs} (h1 : PG X e t) (h2 : PGs X es u)
    (hs : (assignEach (e :: es) X.env).map (·.2) = assign e X.env :: (assignEach es X.env).map (·.2) := by rfl) : PGs X (e :: es) (gCons t u) := by
  intro pins s σ H vs us Q I r h
  obtain ⟨v, vr, e1, h⟩ := h
  subst e1
  cases r with
  | cons r rr =>
    rw [hs]
    refine assignInOrder_cons (thn (h1 pins s σ H _ _ _ I r h) fun _ s1 ⟨σ1, H1, I1, q1⟩ => ?_)
    exact h2 pins s1 σ1 H1 _ _ Q I1 rr q1
def gTup (K : PySem.W.Frag) (n : Nat) (t : TGs) : TG := fun v σ H Q => ∃ a xs, v = .ref a ∧ SqT K H a xs ∧ xs.length = n ∧ t xs σ H Q
theorem pg_tup {es : List Expr} {k : Nat} {t : TGs} {n : Nat} (hc : X.calm = true) (h : PGs X es t)
    (hn : (assignEach es X.env).length = n := by rfl) (hst : (assignEach es X.env).findIdx? (·.1) = none := by rfl) : PG X (.Tuple es k pos) (gTup X.K n t) := by
  intro pins s σ H v u Q I r hw
  obtain ⟨a, xs, e1, hq, hl, hw⟩ := hw
  subst e1
  cases r
  obtain ⟨its, rv, ht, hz⟩ := I.tuple hq
  refine assign_Tuple_tuple (I.ok.hd hc) ht (by simp [hn, ← hl, rv.length]) hst fun h' hx => ?_
  have I1 : Inv X pins σ H { s with heap := h' } := I.kept (t' := s.toks) fun b o e => hx b o (Nat.ne_of_lt (Heap.lt_size e)) e
  exact h pins _ σ H xs _ Q I1 (by simpa using rv) hw
def gSub (to ti : TE) (t : TSet) : TG := fun v σ H Q => to σ H fun o H1 => ti σ H1 fun i H2 => t o i v H2 fun H3 => Q σ H3
theorem pg_sub {o i : Expr} {to ti : TE} {t : TSet} (ho : PE X o to) (hi : PE X i ti) (hs : PSet X t)
    (ha : ∀ v, assign (.Subscript o i pos) X.env v = (do
      let ov ← holding [v] (eval o X.env)
      let iv ← holding [v, ov] (eval i X.env)
      standAt pos
      holding [v, ov, iv] (setItem ov iv v)
      release [v, ov, iv] []) := by intro _; rfl) : PG X (.Subscript o i pos) (gSub to ti t) := by
  intro pins s σ H v u Q I r h
  rw [ha]
  refine wpAny_bind (wpAny_holding (thn (ho pins s σ H _ I h) fun ov s1 ⟨x, H1, I1, r1, q1⟩ => ?_))
  refine wpAny_bind (wpAny_holding (thn (hi pins s1 σ H1 _ I1 q1) fun iv s2 ⟨y, H2, I2, r2, q2⟩ => ?_))
  refine wpAny_bind (wpAny_standAt (wpAny_bind (wpAny_holding (thn (hs pins s2 σ H2 x y v ov iv u _ I2 r1 r2 r q2) fun _ s3 ⟨H3, I3, q3⟩ => ?_))))
  exact wpAny_release ⟨σ, H3, I3, q3⟩
def tAsg (te : TE) (g : TG) : TS := fun D σ H => te σ H fun x H1 => g x σ H1 D.nx
theorem ps_asg {tg e : Expr} {te : TE} {g : TG} (he : PE X e te) (hg : PG X tg g) (hs : swapsWithSole [tg] e pos.line X.env = pure false := by rfl) (hw : swappedStores [tg] e X.env = pure none := by rfl)
    (h1 : (assignEach [tg] X.env).map (·.2) = [assign tg X.env] := by rfl) : PS X (.Assign [tg] e pos) (tAsg te g) := by
  intro pins s σ H D I h
  refine wpAny_Assign_stores (thn (he pins s σ H _ I h) fun v s1 ⟨x, H1, I1, r1, q1⟩ => ?_) hs hw
  rw [h1]
  exact thn (hg pins s1 σ H1 x v _ I1 r1 q1) fun _ s2 q => q
theorem ps_set {i : Nat} {x : Str} {e : Expr} {te : TE} {pos' : Pos} (hN : X.N.Nodup) (hi : X.N[i]? = some x) (hx : Loc X.env.scope x) (he : PE X e te) (hs : swapsWith e (some (.Name x pos')) pos.line X.env = pure false := by rfl) (hf : X.fn x = true ∨ X.env.scope.names.lookup x = some .local := by first | exact .inl rfl | exact .inr rfl | assumption) :
    PS X (.Assign [.Name x pos'] e pos) (tAsg te (gName i)) := by
  intro pins s σ H D I h
  refine wpAny_Assign_Name (thn (he pins s σ H _ I h) fun v s1 ⟨y, H1, I1, r1, q1⟩ => ?_) hs
  exact store_ok I1 hN hi hx r1 (fun s2 I2 => ⟨_, H1, I2, q1⟩) hf
def tPar (i j : Nat) (ta : TA) : TS := fun D σ H => ta σ H fun vs H1 => ∃ v w, vs = [v, w] ∧ D.nx ((σ.set i (some v)).set j (some w)) H1
def tAug (i : Nat) (te : TE) (ti : TIp) : TS := fun D σ H => ∃ x, σ[i]? = some (some x) ∧ te σ H fun y H1 => ti x y H1 fun z H2 => D.nx (σ.set i (some z)) H2
theorem ps_aug {i : Nat} {x : Str} {e : Expr} {te : TE} {op : Operator} {ti : TIp} {pos' : Pos} (hN : X.N.Nodup) (hi : X.N[i]? = some x) (hx : Loc X.env.scope x) (he : PE X e te) (ho : PIp X op ti) (hf : X.fn x = true ∨ X.env.scope.names.lookup x = some .local := by first | exact .inl rfl | exact .inr rfl | assumption) :
    PS X (.AugAssign (.Name x pos') op e pos) (tAug i te ti) := by
  intro pins s σ H D I h
  obtain ⟨v, e1, h⟩ := h
  obtain ⟨m, hn, hl⟩ := I.loc
  have vis : Vis X.env.scope x := by rcases hx with k | k; exact .inl k; exact .inr (.inl k)
  obtain ⟨u, r, l⟩ := hl i x v hi e1 vis
  refine wpAny_AugAssign_Name ?_
  have go : wpAny (model X.prog X.w) X.A (eval e X.env) (fun w s₂ => wpAny (model X.prog X.w) X.A (inplaceOp op u w) (fun r s₃ => wpAny (model X.prog X.w) X.A (storeName X.env x r) (fun _ => SP X pins D .next) X.xe s₃) X.xe s₂) X.xe s := by
    refine thn (he pins s σ H _ I h) fun w s1 ⟨y, H1, I1, r1, q1⟩ => ?_
    refine thn (ho pins s1 σ H1 v y u w _ I1 r r1 q1) fun z s2 ⟨zv, H2, I2, r2, q2⟩ => ?_
    exact store_ok I2 hN hi hx r2 (fun s3 I3 => ⟨_, H2, I3, q2⟩) hf
  rcases l with ⟨hk, hm⟩ | ⟨hk, c, hc, hcell⟩
  · exact wpAny_loadName_local I.ok.kind hk hn hm go
  · rcases hk with hk | hk
    · exact wpAny_loadName_cell I.ok.kind hk hc hcell go
    · rcases hx with k | k
      · have : X.env.scope.names.lookup x = some .free := hk
        rw [k] at this; cases this
      · have : X.env.scope.names.lookup x = some .free := hk
        rw [k] at this; cases this
def tAugS (to ti te : TE) (tget : V → V → Hp → VK → Prop) (tip : TIp) (tset : TSet) : TS := fun D σ H => to σ H fun o H1 => ti σ H1 fun i H2 => tget o i H2 fun x H3 => te σ H3 fun y H4 => tip x y H4 fun z H5 => tset o i z H5 fun H6 => D.nx σ H6
def PGet (X : Cx) (t : V → V → Hp → VK → Prop) : Prop :=
  ∀ (pins : List (Addr × Obj)) (s : Shared) (σ : St) (H : Hp) (o i : V) (ov iv : Value) (Q : VK), Inv X pins σ H s → RelV o ov → RelV i iv → t o i H Q →
    wpAny (model X.prog X.w) X.A (getItem ov iv) (EP X pins σ Q) X.xe s
def ipI (f : Int → Int → Int) : TIp := fun x y H Q => ∃ i j, x = .int i ∧ y = .int j ∧ Q (.int (f i j)) H
theorem ip_add : PIp X .Add (ipI fun i j => i + j) := by
  intro pins s σ H x y v u Q I r1 r2 h
  obtain ⟨i, j, e1, e2, q⟩ := h
  subst e1; subst e2
  obtain ⟨t, rfl⟩ := r1
  obtain ⟨t', rfl⟩ := r2
  exact iadd_int ⟨.int _, H, I.tok _, ⟨_, rfl⟩, q⟩
end
section
variable {X : Cx} {pos : Pos}
def tWhile (c : TT) (tb : TS) : TS := fun D σ H => ∃ W : Nat → St → Hp → Prop, (∃ m, W m σ H) ∧ ∀ m σ H, W m σ H →
  c σ H fun b H1 => if b = true then ∃ N : St → Hp → Prop, (∀ σ' H', N σ' H' → ∃ m', m' < m ∧ W m' σ' H') ∧ tb { D with nx := N, ct := N, bk := D.nx } σ H1 else D.nx σ H1
theorem ps_while {c : Expr} {body : List Stmt} {tc : TT} {tb : TS} (hp : PassesOwn (model X.prog X.w) X.A X.env X.xe) (hc : PT X c tc) (hb : PSs X body tb) : PS X (.While c body [] pos) (tWhile tc tb) := by
  intro pins s σ H D I h
  obtain ⟨W, ⟨m0, w0⟩, turn⟩ := h
  refine wpAny_While (codeAny_whileLoop (fun n s' => ∃ σ' H', Inv X pins σ' H' s' ∧ W n σ' H') ?_ m0 ⟨σ, H, I, w0⟩)
  rintro n s1 ⟨σ1, H1, I1, w1⟩
  refine wpAny_passesOwn hp (thn (hc pins s1 σ1 H1 _ I1 (turn n σ1 H1 w1)) fun b s2 ⟨H2, I2, q2⟩ => ?_)
  cases b with
  | true =>
    obtain ⟨N, hN, q2⟩ := q2
    rw [if_pos rfl]
    refine wpAny_passesOwn hp (thn (hb pins s2 σ1 H2 _ I2 q2) fun f s3 q3 => ?_)
    cases f with
    | next =>
      obtain ⟨σ3, H3, I3, n3⟩ := q3
      obtain ⟨m', hm, w3⟩ := hN σ3 H3 n3
      exact ⟨m', hm, σ3, H3, I3, w3⟩
    | cont =>
      obtain ⟨σ3, H3, I3, n3⟩ := q3
      obtain ⟨m', hm, w3⟩ := hN σ3 H3 n3
      exact ⟨m', hm, σ3, H3, I3, w3⟩
    | brk => exact q3
    | ret v => exact q3
  | false =>
    rw [if_neg Bool.false_ne_true]
    exact wpAny_execs_nil ⟨σ1, H2, I2, q2⟩
end
structure It where
  go : Nat → Hp → Prop
  yld : Nat → Hp → V → Hp → Prop
  stop : Nat → Hp → Prop
def FpOk (X : Cx) (pins : List (Addr × Obj)) (H : Hp) (b : Addr) : Prop :=
  H b = none ∧ b ≠ X.env.locals ∧ b ∉ X.fs ∧ (b ∈ X.ex ∨ X.s₀.heap.objs.size ≤ b) ∧ (∀ x c, X.env.cells.lookup x = some c → c ≠ b) ∧ ∀ p ∈ X.pn ++ pins, p.1 ≠ b
theorem Inv.fpOk {X : Cx} {pins : List (Addr × Obj)} {σ : St} {H H' : Hp} {s : Shared} {b : Addr} (I : Inv X pins σ H s) (hb : s.heap.objs.size ≤ b) (hn : H' b = none) : FpOk X pins H' b := by
  refine ⟨hn, Nat.ne_of_gt (Nat.lt_of_lt_of_le I.lt hb), I.nofs hb, .inr (Nat.le_trans I.sz hb), fun x c e z => ?_, fun p hp z => ?_⟩
  · obtain ⟨v, q⟩ := I.cell x c e
    exact absurd (Nat.lt_of_lt_of_le q.lt (by rw [z]; exact hb)) (Nat.lt_irrefl _)
  · exact absurd (Nat.lt_of_lt_of_le (Heap.lt_size (I.pin p hp).1) (by rw [z]; exact hb)) (Nat.lt_irrefl _)
structure Turn (P : Program) (w : World) (K : PySem.W.Frag) (tg : Expr) (J : It) (fp : List Addr) (it : Addr) (tn : Nat → Heap → Prop) : Prop where
  mem : it ∈ fp
  obj : ∀ i h, tn i h → ∀ b ∈ fp, ∃ o, h.get? b = some o ∧ ∀ v, o.data ≠ .cell v
  keep : ∀ i h h', tn i h → (∀ b ∈ fp, ∀ o, h.get? b = some o → h'.get? b = some o) → tn i h'
  item : ∀ (X : Cx), X.prog = P → X.w = w → X.K = K → X.calm = true → ∀ (i : Nat) (pins : List (Addr × Obj)) (s : Shared) (σ : St) (H : Hp) (E : Value → Shared → Prop), Inv X pins σ H s → (∀ b ∈ fp, FpOk X pins H b) → tn i s.heap → J.go i H →
    wpAny (model P w) X.A (pyNext (.ref it)) (fun r s1 => ∃ u, r = some u ∧
      wpAny (model P w) X.A (letOwnedTupleGo tg (.ref it) u) (fun _ s2 => ∃ x H', Inv X pins σ H' s2 ∧ RelV x u ∧ J.yld i H x H' ∧ tn (i + 1) s2.heap ∧ ∀ b ∈ fp, H' b = none) E s1) E s
  done : ∀ (X : Cx), X.prog = P → X.w = w → X.K = K → X.calm = true → ∀ (i : Nat) (pins : List (Addr × Obj)) (s : Shared) (σ : St) (H : Hp) (E : Value → Shared → Prop), Inv X pins σ H s → (∀ b ∈ fp, FpOk X pins H b) → tn i s.heap → J.stop i H →
    wpAny (model P w) X.A (pyNext (.ref it)) (fun r s1 => r = none ∧ Inv X pins σ H s1) E s
  self : ∀ (A : Around) (i : Nat) (s : Shared) (Q : Value → Shared → Prop) (E : Value → Shared → Prop), tn i s.heap → Q (.ref it) s → wpAny (model P w) A (pyIter (.ref it)) Q E s
abbrev TI := St → Hp → (It → Hp → Prop) → Prop
def PIE (X : Cx) (pins : List (Addr × Obj)) (σ : St) (tg : Expr) (R : It → Hp → Prop) (itv : Value) (s2 : Shared) : Prop :=
  ∃ (it : Addr) (fp : List Addr) (tn : Nat → Heap → Prop) (J : It) (H' : Hp), itv = .ref it ∧ Inv X pins σ H' s2 ∧ Turn X.prog X.w X.K tg J fp it tn ∧ tn 0 s2.heap ∧ (∀ b ∈ fp, FpOk X pins H' b) ∧ R J H'
def PI (X : Cx) (tg iter : Expr) (wi : TI) : Prop :=
  ∀ (pins : List (Addr × Obj)) (s : Shared) (σ : St) (H : Hp) (R : It → Hp → Prop), Inv X pins σ H s → wi σ H R →
    wpAny (model X.prog X.w) X.A (eval iter X.env) (fun v s1 => wpAny (model X.prog X.w) X.A (pyIter v) (PIE X pins σ tg R) X.xe s1) X.xe s
theorem go_of {M : Model} {A : Around} {E : Value → Shared → Prop} {s : Shared} {tg : Expr} {it : Addr} {u : Value} {o : Obj} {n : String} {vs : Array Value} {Q : Unit → Shared → Prop} (ho : s.heap.get? it = some o) (hc : o.cls = .type n) (hd : o.data = .fields vs)
    (hn : ["enumerate", "zip", "dict_itemiterator", "dict_reverseitemiterator", "odict_iterator", "itertools.zip_longest", "itertools.pairwise"].contains n = false) (hQ : Q () s) : wpAny M A (letOwnedTupleGo tg (.ref it) u) Q E s := by
  unfold letOwnedTupleGo
  cases tg <;> first
    | exact wpAny_pure hQ
    | (cases u <;> first
        | exact wpAny_pure hQ
        | (refine wpAny_bind (wpAny_load ho ?_)
           rw [hc, hd]
           show wpAny M A (if (["enumerate", "zip", "dict_itemiterator", "dict_reverseitemiterator", "odict_iterator", "itertools.zip_longest", "itertools.pairwise"].contains n && vs[0]? == some (rawInt _)) = true then _ else _) Q E s
           rw [if_neg (by intro h; rw [hn, Bool.false_and] at h; cases h)]
           exact wpAny_pure hQ))
def Itl (K : PySem.W.Frag) (a : Addr) : It :=
  ⟨fun i H => ∃ xs x, SqL K H a xs ∧ xs[i]? = some x, fun i H x H' => H' = H ∧ ∀ xs, SqL K H a xs → xs[i]? = some x, fun i H => ∃ xs, SqL K H a xs ∧ xs.length ≤ i⟩
def Itt (K : PySem.W.Frag) (a : Addr) : It :=
  ⟨fun i H => ∃ xs x, SqT K H a xs ∧ xs[i]? = some x, fun i H x H' => H' = H ∧ ∀ xs, SqT K H a xs → xs[i]? = some x, fun i H => ∃ xs, SqT K H a xs ∧ xs.length ≤ i⟩
def Itr (lo : Int) (n : Nat) : It := ⟨fun i _ => i < n, fun i H x H' => H' = H ∧ x = .int (lo + i), fun i _ => n ≤ i⟩
theorem turn_list {P : Program} {w : World} {K : PySem.W.Frag} {tg : Expr} (a it : Addr) : Turn P w K tg (Itl K a) [it] it (fun i h => h.IsListIter it a i) where
  mem := by simp
  obj := fun i h st b hb => by
    have e : b = it := by simpa using hb
    subst e
    obtain ⟨o, e, c, d⟩ := st
    exact ⟨o, e, fun v z => by rw [d] at z; cases z⟩
  keep := fun i h h' st k => st.at fun o e => k it (by simp) o e
  item := by
    intro X hP hw hK hc i pins s σ H E I hf st hg
    subst hP hw hK
    obtain ⟨xs, x, hq, hx⟩ := hg
    obtain ⟨its, rv, p, hz⟩ := I.list hq
    obtain ⟨u, hu, ru⟩ := rv.get hx
    obtain ⟨f0, f1, f2, f3, f4, f5⟩ := hf it (by simp)
    refine wpAny_pyNext_list_item st p.isList (x := u) (by simpa using hu) fun h' st' sb => ?_
    have I1 : Inv X pins σ H { s with heap := h' } := I.turned (t' := s.toks) (fun b o hb e => (sb.2 b hb).trans e) f0 f1 f3 f4 f5
    obtain ⟨o, e, c, d⟩ := id st'
    exact ⟨u, rfl, go_of (s := { s with heap := h' }) e c d (by decide) ⟨x, H, I1, ru, ⟨rfl, fun ys hy => by rw [I.list_inj hy hq]; exact hx⟩, st', fun b hb => (hf b hb).1⟩⟩
  done := by
    intro X hP hw hK hc i pins s σ H E I hf st hg
    subst hP hw hK
    obtain ⟨xs, hq, hx⟩ := hg
    obtain ⟨its, rv, p, hz⟩ := I.list hq
    obtain ⟨f0, f1, f2, f3, f4, f5⟩ := hf it (by simp)
    have hl := rv.length
    exact wpAny_pyNext_list_end (I.ok.hd hc) st p.isList (by simp; omega) fun h' eb => ⟨rfl, I.turned (t' := s.toks) (fun b o hb e => eb b o hb e) f0 f1 f3 f4 f5⟩
  self := fun _ _ _ _ _ st h => wpAny_pyIter_listiter st h
theorem turn_range {P : Program} {w : World} {K : PySem.W.Frag} {tg : Expr} (it : Addr) (lo : Int) (n : Nat) : Turn P w K tg (Itr lo n) [it] it (fun i h => IsRangeIter h it (lo + (i : Nat) * 1) ((n : Int) - (i : Nat)) 1) where
  mem := by simp
  obj := fun i h st b hb => by
    have e : b = it := by simpa using hb
    subst e
    exact ⟨_, st, fun v z => by
      have z' : Data.fields _ = Data.cell v := z
      cases z'⟩
  keep := fun i h h' st k => k it (by simp) _ st
  item := by
    intro X hP hw hK hc i pins s σ H E I hf st hg
    subst hP hw hK
    obtain ⟨f0, f1, f2, f3, f4, f5⟩ := hf it (by simp)
    have W := Walks.range (prog := X.prog) (w := X.w) (I.ok.hd hc) it lo 1 n
    refine W.item i s _ _ hg st fun v h' tk hv st' kk => ?_
    obtain ⟨t, rfl⟩ := hv
    have I1 : Inv X pins σ H { s with heap := h', toks := tk } := I.turned (fun b o hb e => kk b o (by simpa using hb) e) f0 f1 f3 f4 f5
    refine ⟨_, rfl, go_of (s := { s with heap := h', toks := tk }) (n := "range_iterator") st' rfl rfl (by decide) ⟨.int (lo + i), H, I1, ⟨t, ?_⟩, ⟨rfl, rfl⟩, st', fun b hb => (hf b hb).1⟩⟩
    rw [Int.mul_one]
  done := by
    intro X hP hw hK hc i pins s σ H E I hf st hg
    subst hP hw hK
    obtain ⟨f0, f1, f2, f3, f4, f5⟩ := hf it (by simp)
    exact wpAny_pyNext_range_end (I.ok.hd hc) st (by have : n ≤ i := hg; omega) fun h' eb => ⟨rfl, I.turned (t' := s.toks) (fun b o hb e => eb b o hb e) f0 f1 f3 f4 f5⟩
  self := fun _ _ _ _ _ st h => wpAny_pyIter_rangeiter st h
end L2
namespace L2
open PySem PySem.Spec PyProof.Rows
section
variable {X : Cx} {tg : Expr}
def iList (K : PySem.W.Frag) (tl : TE) : TI := fun σ H R => tl σ H fun x H1 => ∃ a, x = .ref a ∧ (∃ xs, SqL K H1 a xs) ∧ R (Itl K a) H1
def iTup (K : PySem.W.Frag) (tl : TE) : TI := fun σ H R => tl σ H fun x H1 => ∃ a, x = .ref a ∧ (∃ xs, SqT K H1 a xs) ∧ R (Itt K a) H1
theorem pi_list {l : Expr} {tl : TE} (hl : PE X l tl) : PI X tg l (iList X.K tl) := by
  intro pins s σ H R I h
  refine thn (hl pins s σ H _ I h) fun v s1 ⟨x, H1, I1, r1, q1⟩ => ?_
  obtain ⟨a, e, ⟨xs, hq⟩, q⟩ := q1
  subst e
  cases r1
  obtain ⟨its, rv, p, hz⟩ := I1.list hq
  refine wpAny_pyIter_list p.isList ?_
  refine ⟨s1.heap.objs.size, [s1.heap.objs.size], _, _, H1, rfl, I1.kept (t' := s1.toks) fun b o e => Heap.get?_push_of_some _ e, turn_list a _, ⟨_, Heap.get?_push_size _ rfl, rfl, rfl⟩, fun b hb => ?_, q⟩
  have e : b = s1.heap.objs.size := by simpa using hb
  subst e
  exact I1.fpOk (Nat.le_refl _) (I1.hok.fresh (Nat.le_refl _))
theorem range_it {pins : List (Addr × Obj)} {σ : St} {H : Hp} {s : Shared} {R : It → Hp → Prop} {E : Value → Shared → Prop} {lo hi : Int} {t u v : Tok} {tk : Nat} (I : Inv X pins σ H s) (h1 : -(2 ^ 62) ≤ lo) (h2 : lo < 2 ^ 62) (h3 : -(2 ^ 62) ≤ hi) (h4 : hi < 2 ^ 62)
    (q : R (Itr lo (hi - lo).toNat) H) : wpAny (model X.prog X.w) X.A (pyIter (.ref s.heap.objs.size)) (PIE X pins σ tg R) E { s with heap := s.heap.push { cls := .type "range", data := .fields #[.int lo t, .int hi u, .int 1 v] }, toks := tk } := by
  refine wpAny_pyIter_range (IsRange.new ..) (small_one h1 h2 h3 h4) ?_
  have I1 : Inv X pins σ H { s with heap := s.heap.push { cls := .type "range", data := .fields #[.int lo t, .int hi u, .int 1 v] }, toks := tk } := I.kept fun b o e => Heap.get?_push_of_some _ e
  refine ⟨(s.heap.push { cls := .type "range", data := .fields #[.int lo t, .int hi u, .int 1 v] }).objs.size, [(s.heap.push { cls := .type "range", data := .fields #[.int lo t, .int hi u, .int 1 v] }).objs.size], _, _, H, rfl,
    I1.kept (t' := tk) fun b o e => Heap.get?_push_of_some _ e, turn_range _ lo (hi - lo).toNat, ?_, fun b hb => ?_, q⟩
  · have e1 : lo + ((0 : Nat) : Int) * 1 = lo := by simp
    have e2 : (((hi - lo).toNat : Nat) : Int) - ((0 : Nat) : Int) = Builtin.Range.rangeSize lo hi 1 := by rw [rangeSize_one]; split <;> omega
    show IsRangeIter _ _ (lo + ((0 : Nat) : Int) * 1) ((((hi - lo).toNat : Nat) : Int) - ((0 : Nat) : Int)) 1
    rw [e1, e2]
    exact Heap.get?_push_size _ rfl
  · have e : b = (s.heap.push { cls := .type "range", data := .fields #[.int lo t, .int hi u, .int 1 v] }).objs.size := by simpa using hb
    subst e
    exact I1.fpOk (Nat.le_refl _) (I1.hok.fresh (Nat.le_refl _))
def iRng1 (ta : TA) : TI := fun σ H R => ta σ H fun vs H1 => ∃ j : Int, vs = [.int j] ∧ -(2 ^ 62) ≤ j ∧ j < 2 ^ 62 ∧ R (Itr 0 j.toNat) H1
def iRng2 (ta : TA) : TI := fun σ H R => ta σ H fun vs H1 => ∃ i j : Int, vs = [.int i, .int j] ∧ (-(2 ^ 62) ≤ i ∧ i < 2 ^ 62 ∧ -(2 ^ 62) ≤ j ∧ j < 2 ^ 62) ∧ R (Itr i (j - i).toNat) H1
theorem pi_range1 {a : Expr} {ta : TA} {p pos : Pos} (hg : Gl X "range") (hm : X.mg "range" = none) (ha : PA X [a] ta) (hs : starEach [a] X.env = [(false, eval a X.env)] := by rfl) : PI X tg (.Call (.Name "range" p) [a] [] pos) (iRng1 ta) := by
  intro pins s σ H R I h
  refine Call_ (ld_blt I hg hm boot_range (PyProof.Rows.callWith_type1 (thn (ha pos pins s σ H _ I h) fun us s1 ⟨vs, H1, I1, r1, q1⟩ => ?_) hs rfl))
  obtain ⟨j, e, q1, q2, q⟩ := q1
  subst e
  cases r1 with
  | cons r rr =>
    cases rr
    obtain ⟨t, rfl⟩ := r
    exact call_range_1 (range_it I1 (by omega) (by omega) q1 q2 (by simpa using q))
theorem pi_range2 {a b : Expr} {ta : TA} {p pos : Pos} (hg : Gl X "range") (hm : X.mg "range" = none) (ha : PA X [a, b] ta) (hs : starEach [a, b] X.env = [(false, eval a X.env), (false, eval b X.env)] := by rfl) (hs2 : starEach [b] X.env = [(false, eval b X.env)] := by rfl) :
    PI X tg (.Call (.Name "range" p) [a, b] [] pos) (iRng2 ta) := by
  intro pins s σ H R I h
  refine Call_ (ld_blt I hg hm boot_range (PyProof.Rows.callWith_type1 (thn (ha pos pins s σ H _ I h) fun us s1 ⟨vs, H1, I1, r1, q1⟩ => ?_) (by rw [hs, hs2]) (by rw [hs2]; rfl)))
  obtain ⟨i, j, e, ⟨q1, q2, q3, q4⟩, q⟩ := q1
  subst e
  cases r1 with
  | cons r rr =>
    cases rr with
    | cons r' rr =>
      cases rr
      obtain ⟨t, rfl⟩ := r
      obtain ⟨t', rfl⟩ := r'
      exact call_range_2 (range_it I1 q1 q2 q3 q4 q)
def tFor (wi : TI) (g : TG) (tb : TS) : TS := fun D σ H => wi σ H fun J H1 => ∃ W : Nat → Nat → St → Hp → Prop, (∃ m, W 0 m σ H1) ∧ ∀ i m σ H, W i m σ H →
  (J.stop i H ∧ D.nx σ H) ∨ (J.go i H ∧ ∃ N : St → Hp → Prop, (∀ σ' H', N σ' H' → ∃ m', m' < m ∧ W (i + 1) m' σ' H') ∧ ∀ x H', J.yld i H x H' → g x σ H' fun σ2 H2 => tb { D with nx := N, ct := N, bk := D.nx } σ2 H2)
def pinsAt (fp : List Addr) (h : Heap) : List (Addr × Obj) := fp.filterMap fun b => (h.get? b).map fun o => (b, o)
theorem mem_pinsAt {fp : List Addr} {h : Heap} {b : Addr} {o : Obj} (hb : b ∈ fp) (e : h.get? b = some o) : (b, o) ∈ pinsAt fp h := List.mem_filterMap.mpr ⟨b, hb, by rw [e]; rfl⟩
theorem of_pinsAt {fp : List Addr} {h : Heap} {p : Addr × Obj} (hp : p ∈ pinsAt fp h) : p.1 ∈ fp ∧ h.get? p.1 = some p.2 := by
  obtain ⟨b, hb, e⟩ := List.mem_filterMap.mp hp
  cases q : h.get? b with
  | none => rw [q] at e; cases e
  | some o =>
    rw [q] at e
    have e' : (b, o) = p := Option.some.inj e
    subst e'
    exact ⟨hb, q⟩
theorem Inv.pinned {pins : List (Addr × Obj)} {σ : St} {H : Hp} {s : Shared} {fp : List Addr} (I : Inv X pins σ H s) (hf : ∀ b ∈ fp, FpOk X pins H b) (ho : ∀ b ∈ fp, ∃ o, s.heap.get? b = some o ∧ ∀ v, o.data ≠ .cell v) : Inv X (pins ++ pinsAt fp s.heap) σ H s :=
  I.pins_of fun p hp => (List.mem_append.mp hp).elim (fun z => I.pin p (List.mem_append_right _ z)) fun z => by
    obtain ⟨hb, e⟩ := of_pinsAt z
    obtain ⟨f0, f1, f2, _⟩ := hf p.1 hb
    obtain ⟨o, e', d⟩ := ho p.1 hb
    rw [e] at e'; cases e'
    exact ⟨e, f0, f1, f2, d⟩
theorem Inv.unpinned {pins pl : List (Addr × Obj)} {σ : St} {H : Hp} {s : Shared} (I : Inv X (pins ++ pl) σ H s) : Inv X pins σ H s := I.pins_of fun p hp => I.pin p (List.mem_append_right _ (List.mem_append_left _ hp))
theorem ps_for {iter : Expr} {body : List Stmt} {wi : TI} {g : TG} {tb : TS} {pos : Pos} (hp : PassesOwn (model X.prog X.w) X.A X.env X.xe) (hc : X.calm = true) (hi : PI X tg iter wi) (hg : PG X tg g) (hb : PSs X body tb)
    (hs : ∀ x, foldedSetIterable iter X.env x = pure x := by intro _; rfl) : PS X (.For tg iter body [] pos) (tFor wi g tb) := by
  intro pins s σ H D I h
  refine wpAny_For (thn (hi pins s σ H _ I h) fun v s1 h1 => thn h1 fun itv s2 h2 => ?_) hs
  obtain ⟨it, fp, tn, J, H2, e, I2, T, st2, f2, W, ⟨m0, w0⟩, turn⟩ := h2
  subst e
  -- what stays true of the iterator's objects through the loop
  have stat : ∀ {H' : Hp}, (∀ b ∈ fp, H' b = none) → ∀ b ∈ fp, FpOk X pins H' b := fun hn b hb => ⟨hn b hb, (f2 b hb).2⟩
  refine codeAny_forLoop_any (fun n s' => ∃ i σ' H', Inv X pins σ' H' s' ∧ tn i s'.heap ∧ (∀ b ∈ fp, H' b = none) ∧ W i n σ' H') ?_ m0 ⟨0, σ, H2, I2, st2, fun b hb => (f2 b hb).1, w0⟩
  rintro n s3 ⟨i, σ3, H3, I3, st3, fr3, w3⟩
  rcases turn i n σ3 H3 w3 with ⟨stop, qn⟩ | ⟨go, N, hN, step⟩
  · refine wpAny_passesOwn hp (thn (T.done X rfl rfl rfl hc i pins s3 σ3 H3 X.xe I3 (stat fr3) st3 stop) fun r s4 ⟨hr, I4⟩ => ?_)
    subst hr
    exact wpAny_execs_nil ⟨σ3, H3, I4, qn⟩
  · refine wpAny_passesOwn hp (thn (T.item X rfl rfl rfl hc i pins s3 σ3 H3 X.xe I3 (stat fr3) st3 go) fun r s4 ⟨u, hr, h4⟩ => ?_)
    subst hr
    refine wpAny_passesOwn hp (thn h4 fun _ s5 ⟨x, H5, I5, r5, y5, st5, fr5⟩ => ?_)
    have I5' := I5.pinned (stat fr5) (T.obj _ _ st5)
    refine wpAny_passesOwn hp (thn (hg _ s5 σ3 H5 x u _ I5' r5 (step x H5 y5)) fun _ s6 ⟨σ6, H6, I6, q6⟩ => ?_)
    refine wpAny_passesOwn hp (thn (hb _ s6 σ6 H6 _ I6 q6) fun f s7 q7 => ?_)
    have again : ∀ {σ7 : St} {H7 : Hp}, Inv X (pins ++ pinsAt fp s5.heap) σ7 H7 s7 → N σ7 H7 → ∃ m, m < n ∧ ∃ i σ' H', Inv X pins σ' H' s7 ∧ tn i s7.heap ∧ (∀ b ∈ fp, H' b = none) ∧ W i m σ' H' := fun {σ7 H7} I7 n7 => by
      obtain ⟨m', hm, w7⟩ := hN σ7 H7 n7
      refine ⟨m', hm, i + 1, σ7, H7, I7.unpinned, T.keep _ _ _ st5 fun b hb o e => (I7.pin (b, o) (List.mem_append_right _ (List.mem_append_right _ (mem_pinsAt hb e)))).1, fun b hb => ?_, w7⟩
      obtain ⟨o, e, d⟩ := T.obj _ _ st5 b hb
      exact (I7.pin (b, o) (List.mem_append_right _ (List.mem_append_right _ (mem_pinsAt hb e)))).2.1
    cases f with
    | next => obtain ⟨σ7, H7, I7, n7⟩ := q7; exact again I7 n7
    | cont => obtain ⟨σ7, H7, I7, n7⟩ := q7; exact again I7 n7
    | brk => obtain ⟨σ7, H7, I7, q7⟩ := q7; exact ⟨σ7, H7, I7.unpinned, q7⟩
    | ret v => obtain ⟨x7, σ7, H7, I7, r7, q7⟩ := q7; exact ⟨x7, σ7, H7, I7.unpinned, r7, q7⟩
end
theorem for_list {K : PySem.W.Frag} {a : Addr} {xs : List V} {g : TG} {tb : TS} {D : Ends} {σ : St} {H : Hp} (Pv : Nat → St → Hp → Prop) (h0 : Pv 0 σ H) (hl : ∀ i σ H, i ≤ xs.length → Pv i σ H → SqL K H a xs)
    (hs : ∀ i x σ H, xs[i]? = some x → Pv i σ H → g x σ H fun σ2 H2 => tb { D with nx := Pv (i + 1), ct := Pv (i + 1), bk := D.nx } σ2 H2) (hd : ∀ σ H, Pv xs.length σ H → D.nx σ H) :
    ∃ W : Nat → Nat → St → Hp → Prop, (∃ m, W 0 m σ H) ∧ ∀ i m σ H, W i m σ H →
      ((Itl K a).stop i H ∧ D.nx σ H) ∨ ((Itl K a).go i H ∧ ∃ N : St → Hp → Prop, (∀ σ' H', N σ' H' → ∃ m', m' < m ∧ W (i + 1) m' σ' H') ∧ ∀ x H', (Itl K a).yld i H x H' → g x σ H' fun σ2 H2 => tb { D with nx := N, ct := N, bk := D.nx } σ2 H2) := by
  refine ⟨fun i m σ H => m = xs.length - i ∧ i ≤ xs.length ∧ Pv i σ H, ⟨xs.length, by simp, Nat.zero_le _, h0⟩, ?_⟩
  rintro i m σ H ⟨rfl, hi, p⟩
  have q := hl i σ H hi p
  by_cases hlt : i < xs.length
  · refine .inr ⟨⟨xs, xs[i], q, by simp [hlt]⟩, Pv (i + 1), fun σ' H' p' => ⟨xs.length - (i + 1), by omega, rfl, hlt, p'⟩, fun x H' y => ?_⟩
    obtain ⟨e, y⟩ := y
    subst e
    exact hs i x σ _ (y xs q) p
  · have e : i = xs.length := by omega
    subst e
    exact .inl ⟨⟨xs, q, Nat.le_refl _⟩, hd σ H p⟩
theorem for_range {lo : Int} {n : Nat} {g : TG} {tb : TS} {D : Ends} {σ : St} {H : Hp} (Pv : Nat → St → Hp → Prop) (h0 : Pv 0 σ H)
    (hs : ∀ i σ H, i < n → Pv i σ H → g (.int (lo + i)) σ H fun σ2 H2 => tb { D with nx := Pv (i + 1), ct := Pv (i + 1), bk := D.nx } σ2 H2) (hd : ∀ σ H, Pv n σ H → D.nx σ H) :
    ∃ W : Nat → Nat → St → Hp → Prop, (∃ m, W 0 m σ H) ∧ ∀ i m σ H, W i m σ H →
      ((Itr lo n).stop i H ∧ D.nx σ H) ∨ ((Itr lo n).go i H ∧ ∃ N : St → Hp → Prop, (∀ σ' H', N σ' H' → ∃ m', m' < m ∧ W (i + 1) m' σ' H') ∧ ∀ x H', (Itr lo n).yld i H x H' → g x σ H' fun σ2 H2 => tb { D with nx := N, ct := N, bk := D.nx } σ2 H2) := by
  refine ⟨fun i m σ H => m = n - i ∧ i ≤ n ∧ Pv i σ H, ⟨n, by simp, Nat.zero_le _, h0⟩, ?_⟩
  rintro i m σ H ⟨rfl, hi, p⟩
  by_cases hlt : i < n
  · refine .inr ⟨hlt, Pv (i + 1), fun σ' H' p' => ⟨n - (i + 1), by omega, rfl, hlt, p'⟩, fun x H' y => ?_⟩
    obtain ⟨e, y⟩ := y
    subst e y
    exact hs i σ _ hlt p
  · have e : i = n := by omega
    subst e
    exact .inl ⟨Nat.le_refl _, hd σ H p⟩
end L2
namespace L2
open PySem PySem.Spec PyProof.Rows
abbrev R2 := V → V → Hp → VK → Prop
def OpR (X : Cx) (f : Value → Value → Sem Value) (r : R2) : Prop :=
  ∀ (pins : List (Addr × Obj)) (s : Shared) (σ : St) (H : Hp) (x y : V) (v u : Value) (Q : VK), Inv X pins σ H s → RelV x v → RelV y u → r x y H Q →
    wpAny (model X.prog X.w) X.A (f v u) (EP X pins σ Q) X.xe s
def UnR (X : Cx) (f : Value → Sem Value) (r : V → Hp → VK → Prop) : Prop :=
  ∀ (pins : List (Addr × Obj)) (s : Shared) (σ : St) (H : Hp) (x : V) (v : Value) (Q : VK), Inv X pins σ H s → RelV x v → r x H Q →
    wpAny (model X.prog X.w) X.A (f v) (EP X pins σ Q) X.xe s
def CallR (X : Cx) (f : Value) (r : List V → Hp → VK → Prop) : Prop :=
  ∀ (pins : List (Addr × Obj)) (s : Shared) (σ : St) (H : Hp) (xs : List V) (us : List Value) (Q : VK), Inv X pins σ H s → Vals xs us → r xs H Q →
    wpAny (model X.prog X.w) X.A (call f us) (EP X pins σ Q) X.xe s
def TruR (X : Cx) (r : V → Hp → (Bool → Hp → Prop) → Prop) : Prop :=
  ∀ (pins : List (Addr × Obj)) (s : Shared) (σ : St) (H : Hp) (x : V) (v : Value) (Q : Bool → Hp → Prop), Inv X pins σ H s → RelV x v → r x H Q →
    wpAny (model X.prog X.w) X.A (truthy v) (TP X pins σ Q) X.xe s
def tOp (r : R2) (ta tb : TE) : TE := fun σ H Q => ta σ H fun x H1 => tb σ H1 fun y H2 => r x y H2 Q
def tUn (r : V → Hp → VK → Prop) (ta : TE) : TE := fun σ H Q => ta σ H fun x H1 => r x H1 Q
def rI (C : Int → Int → Prop) (g : Int → Int → V) : R2 := fun x y H Q => ∃ i j, x = .int i ∧ y = .int j ∧ C i j ∧ Q (g i j) H
def rI0 (g : Int → Int → V) : R2 := fun x y H Q => ∃ i j, x = .int i ∧ y = .int j ∧ Q (g i j) H
def rU (g : Int → V) : V → Hp → VK → Prop := fun x H Q => ∃ i, x = .int i ∧ Q (g i) H
section
variable {X : Cx} {a b c : Expr} {ta tb tc : TE} {pos : Pos}
theorem binT (ha : PE X a ta) (hb : PE X b tb) {pins : List (Addr × Obj)} {s : Shared} {σ : St} {H : Hp} {R : V → V → Hp → Prop} (I : Inv X pins σ H s)
    (h : ta σ H fun x H1 => tb σ H1 fun y H2 => R x y H2) {Q : Value → Shared → Prop} {f : Value → Value → Sem Value}
    (hf : ∀ v u s2 x y H2, Inv X pins σ H2 s2 → RelV x v → RelV y u → R x y H2 → wpAny (model X.prog X.w) X.A (f v u) Q X.xe s2) :
    wpAny (model X.prog X.w) X.A (eval a X.env) (fun v s₁ => wpAny (model X.prog X.w) X.A (eval b X.env) (fun u s₂ => wpAny (model X.prog X.w) X.A (f v u) Q X.xe s₂) X.xe s₁) X.xe s := by
  refine thn (ha pins s σ H _ I h) fun v s1 ⟨x, H1, I1, r1, q1⟩ => ?_
  refine thn (hb pins s1 σ H1 _ I1 q1) fun u s2 ⟨y, H2, I2, r2, q2⟩ => ?_
  exact hf v u s2 x y H2 I2 r1 r2 q2
theorem pe_op {op : Operator} {r : R2} (ho : OpR X (binaryOp op) r) (ha : PE X a ta) (hb : PE X b tb) : PE X (.BinOp a op b pos) (tOp r ta tb) := by
  intro pins s σ H Q I h
  exact wpAny_BinOp (binT ha hb I h fun v u s2 x y H2 I2 rx ry q => ho pins s2 σ H2 x y v u Q I2 rx ry q)
theorem pe_un {op : UnaryOp} {r : V → Hp → VK → Prop} (ho : UnR X (unaryOp op) r) (ha : PE X a ta) : PE X (.UnaryOp op a pos) (tUn r ta) := by
  intro pins s σ H Q I h
  exact UnaryOp_ (thn (ha pins s σ H _ I h) fun v s1 ⟨x, H1, I1, r1, q1⟩ => ho pins s1 σ H1 x v Q I1 r1 q1)
theorem opI {f : Value → Value → Sem Value} {C : Int → Int → Prop} {g : Int → Int → Int}
    (rule : ∀ (i j : Int) (t u : Tok) (s : Shared) (Q : Value → Shared → Prop) (E : Value → Shared → Prop), C i j → Q (.int (g i j) s.toks) { s with toks := s.toks + 1 } → wpAny (model X.prog X.w) X.A (f (.int i t) (.int j u)) Q E s) :
    OpR X f (rI C fun i j => .int (g i j)) := by
  intro pins s σ H x y v u Q I rx ry h
  obtain ⟨i, j, rfl, rfl, hc, q⟩ := h
  obtain ⟨t, rfl⟩ := rx
  obtain ⟨t', rfl⟩ := ry
  exact rule i j t t' s _ _ hc ⟨.int (g i j), H, I.tok _, ⟨_, rfl⟩, q⟩
theorem opI0 {f : Value → Value → Sem Value} {g : Int → Int → Int}
    (rule : ∀ (i j : Int) (t u : Tok) (s : Shared) (Q : Value → Shared → Prop) (E : Value → Shared → Prop), Q (.int (g i j) s.toks) { s with toks := s.toks + 1 } → wpAny (model X.prog X.w) X.A (f (.int i t) (.int j u)) Q E s) :
    OpR X f (rI0 fun i j => .int (g i j)) := by
  intro pins s σ H x y v u Q I rx ry h
  obtain ⟨i, j, rfl, rfl, q⟩ := h
  obtain ⟨t, rfl⟩ := rx
  obtain ⟨t', rfl⟩ := ry
  exact rule i j t t' s _ _ ⟨.int (g i j), H, I.tok _, ⟨_, rfl⟩, q⟩
theorem opB0 {f : Value → Value → Sem Value} {g : Int → Int → Bool}
    (rule : ∀ (i j : Int) (t u : Tok) (s : Shared) (Q : Value → Shared → Prop) (E : Value → Shared → Prop), Q (.bool (g i j)) s → wpAny (model X.prog X.w) X.A (f (.int i t) (.int j u)) Q E s) :
    OpR X f (rI0 fun i j => .bl (g i j)) := by
  intro pins s σ H x y v u Q I rx ry h
  obtain ⟨i, j, rfl, rfl, q⟩ := h
  obtain ⟨t, rfl⟩ := rx
  obtain ⟨t', rfl⟩ := ry
  exact rule i j t t' s _ _ ⟨.bl (g i j), H, I, rfl, q⟩
def CDiv (i j : Int) : Prop := 0 < j ∧ j < 1073741824
def CDivN (i j : Int) : Prop := j ≠ 0 ∧ j.natAbs < 1073741824
def CPow (i j : Int) : Prop := 0 ≤ j ∧ j ≤ 1000000 ∧ i.natAbs < 2 ^ 64
def CMul (i j : Int) : Prop := (-(2 ^ 64) < i ∧ i < 2 ^ 64) ∨ (-(2 ^ 64) < j ∧ j < 2 ^ 64)
theorem CMul.ok {i j : Int} (h : CMul i j) : IntMulOk i j := by
  rcases h with ⟨h1, h2⟩ | ⟨h1, h2⟩
  · exact .of_left (intBits_le_64 h1 h2)
  · exact .of_right (intBits_le_64 h1 h2)
theorem op_add : OpR X (binaryOp .Add) (rI0 fun i j => .int (i + j)) := opI0 fun _ _ _ _ _ _ _ q => add_int q
theorem op_sub : OpR X (binaryOp .Sub) (rI0 fun i j => .int (i - j)) := opI0 fun _ _ _ _ _ _ _ q => sub_int q
theorem op_mul : OpR X (binaryOp .Mult) (rI CMul fun i j => .int (i * j)) := opI fun _ _ _ _ _ _ _ hc q => mul_int q hc.ok
theorem op_fdiv : OpR X (binaryOp .FloorDiv) (rI CDiv fun i j => .int (i / j)) := opI fun i j _ _ _ _ _ hc q => by
  have h1 : (0 : Int) < j := hc.1
  have h2 : j < 1073741824 := hc.2
  exact floordiv_int (by omega) (by rw [Int.fdiv_eq_ediv_of_nonneg i (by omega)]; exact q) (.inl (PyProof.noPylong_small (by omega)))
theorem op_mod : OpR X (binaryOp .Mod) (rI (fun _ j => 0 < j) fun i j => .int (i % j)) := opI fun i j _ _ _ _ _ hc q => by
  have h1 : (0 : Int) < j := hc
  exact mod_int' (by omega) (by rw [Int.fmod_eq_emod_of_nonneg i (by omega)]; exact q)
theorem op_modN : OpR X (binaryOp .Mod) (rI (fun _ j => j ≠ 0) fun i j => .int (i.fmod j)) := opI fun _ _ _ _ _ _ _ hc q => mod_int' hc q
theorem op_pow : OpR X (binaryOp .Pow) (rI CPow fun i j => .int (i ^ j.toNat)) := opI fun _ _ _ _ _ _ _ hc q => pow_int_small hc.1 hc.2.1 hc.2.2 q
theorem unI {f : Value → Sem Value} {g : Int → Int}
    (rule : ∀ (i : Int) (t : Tok) (s : Shared) (Q : Value → Shared → Prop) (E : Value → Shared → Prop), Q (.int (g i) s.toks) { s with toks := s.toks + 1 } → wpAny (model X.prog X.w) X.A (f (.int i t)) Q E s) :
    UnR X f (rU fun i => .int (g i)) := by
  intro pins s σ H x v Q I rx h
  obtain ⟨i, rfl, q⟩ := h
  obtain ⟨t, rfl⟩ := rx
  exact rule i t s _ _ ⟨.int (g i), H, I.tok _, ⟨_, rfl⟩, q⟩
theorem un_neg : UnR X (unaryOp .USub) (rU fun i => .int (-i)) := unI fun _ _ _ _ _ q => neg_int q
end
def scal : V → V → Bool
  | .non, .non => true | .non, .int _ => true | .int _, .non => true | .non, .bl _ => true | .bl _, .non => true | .non, .str _ => true | .str _, .non => true
  | .int _, .int _ => true | .bl _, .bl _ => true | .str _, .str _ => true | .byt _, .byt _ => true
  | .int _, .str _ => true | .str _, .int _ => true | .bl _, .str _ => true | .str _, .bl _ => true
  | _, _ => false
def rEq : R2 := fun x y H Q => scal x y = true ∧ Q (.bl (decide (x = y))) H
def rNe : R2 := fun x y H Q => scal x y = true ∧ Q (.bl (!decide (x = y))) H
theorem dec_int {i j : Int} : decide (V.int i = V.int j) = (i == j) := by
  rw [Bool.eq_iff_iff]
  simp
theorem dec_bl {i j : Bool} : decide (V.bl i = V.bl j) = (i == j) := by
  rw [Bool.eq_iff_iff]
  simp
theorem dec_str {i j : Str} : decide (V.str i = V.str j) = (i == j) := by
  rw [Bool.eq_iff_iff]
  simp
theorem dec_byt {i j : Array UInt8} : decide (V.byt i = V.byt j) = (i.toList == j.toList) := by
  rw [Bool.eq_iff_iff]
  cases i
  cases j
  simp
section
variable {X : Cx} {a b c : Expr} {ta tb tc : TE} {pos : Pos}
theorem fin_bl {pins : List (Addr × Obj)} {σ : St} {H : Hp} {s : Shared} {Q : VK} {k k' : Bool} (I : Inv X pins σ H s) (q : Q (.bl k) H) (e : k = k') : EP X pins σ Q (.bool k') s := by
  subst e
  exact ⟨.bl k, H, I, rfl, q⟩
theorem op_eq : OpR X (compareOp .Eq) rEq := by
  intro pins s σ H x y v u Q I rx ry h
  obtain ⟨hs, q⟩ := h
  cases x with
  | non =>
    cases rx
    cases y with
    | non => cases ry; exact PySem.EqNone.eq_none_none (fin_bl I q (by simp))
    | bl j => cases ry; exact PySem.EqNone.eq_none_bool (fin_bl I q (by simp))
    | int j => obtain ⟨t', rfl⟩ := ry; exact PySem.EqNone.eq_none_int (fin_bl I q (by simp))
    | str j => obtain ⟨t', rfl⟩ := ry; exact PySem.EqNone.eq_none_str (fin_bl I q (by simp))
    | _ => exact absurd (show false = true from hs) Bool.false_ne_true
  | bl i =>
    cases rx
    cases y with
    | non => cases ry; exact PySem.EqNone.eq_bool_none (fin_bl I q (by simp))
    | bl j => cases ry; exact eq_bool (fin_bl I q dec_bl)
    | str j => obtain ⟨t', rfl⟩ := ry; exact PySem.EqMixed.eq_bool_str (fin_bl I q (by simp))
    | _ => exact absurd (show false = true from hs) Bool.false_ne_true
  | int i =>
    obtain ⟨t, rfl⟩ := rx
    cases y with
    | non => cases ry; exact PySem.EqNone.eq_int_none (fin_bl I q (by simp))
    | int j => obtain ⟨t', rfl⟩ := ry; exact eq_int (fin_bl I q dec_int)
    | str j => obtain ⟨t', rfl⟩ := ry; exact PySem.EqMixed.eq_int_str (fin_bl I q (by simp))
    | _ => exact absurd (show false = true from hs) Bool.false_ne_true
  | str i =>
    obtain ⟨t, rfl⟩ := rx
    cases y with
    | non => cases ry; exact PySem.EqNone.eq_str_none (fin_bl I q (by simp))
    | bl j => cases ry; exact PySem.EqMixed.eq_str_bool (fin_bl I q (by simp))
    | int j => obtain ⟨t', rfl⟩ := ry; exact PySem.EqMixed.eq_str_int (fin_bl I q (by simp))
    | str j => obtain ⟨t', rfl⟩ := ry; exact eq_str (fin_bl I q dec_str)
    | _ => exact absurd (show false = true from hs) Bool.false_ne_true
  | byt i =>
    obtain ⟨t, rfl⟩ := rx
    cases y with
    | byt j => obtain ⟨t', rfl⟩ := ry; exact PySem.W.eq_bytes (fin_bl I q dec_byt)
    | _ => exact absurd (show false = true from hs) Bool.false_ne_true
  | _ => cases y <;> exact absurd (show false = true from hs) Bool.false_ne_true
theorem op_ne : OpR X (compareOp .NotEq) rNe := by
  intro pins s σ H x y v u Q I rx ry h
  obtain ⟨hs, q⟩ := h
  cases x with
  | non =>
    cases rx
    cases y with
    | non => cases ry; exact PySem.EqNone.ne_none_none (fin_bl I q (by simp))
    | bl j => cases ry; exact PySem.EqNone.ne_none_bool (fin_bl I q (by simp))
    | int j => obtain ⟨t', rfl⟩ := ry; exact PySem.EqNone.ne_none_int (fin_bl I q (by simp))
    | str j => obtain ⟨t', rfl⟩ := ry; exact PySem.EqNone.ne_none_str (fin_bl I q (by simp))
    | _ => exact absurd (show false = true from hs) Bool.false_ne_true
  | bl i =>
    cases rx
    cases y with
    | non => cases ry; exact PySem.EqNone.ne_bool_none (fin_bl I q (by simp))
    | bl j => cases ry; exact ne_bool (fin_bl I q (congrArg not dec_bl))
    | str j => obtain ⟨t', rfl⟩ := ry; exact PySem.EqMixed.ne_bool_str (fin_bl I q (by simp))
    | _ => exact absurd (show false = true from hs) Bool.false_ne_true
  | int i =>
    obtain ⟨t, rfl⟩ := rx
    cases y with
    | non => cases ry; exact PySem.EqNone.ne_int_none (fin_bl I q (by simp))
    | int j => obtain ⟨t', rfl⟩ := ry; exact ne_int (fin_bl I q (congrArg not dec_int))
    | str j => obtain ⟨t', rfl⟩ := ry; exact PySem.EqMixed.ne_int_str (fin_bl I q (by simp))
    | _ => exact absurd (show false = true from hs) Bool.false_ne_true
  | str i =>
    obtain ⟨t, rfl⟩ := rx
    cases y with
    | non => cases ry; exact PySem.EqNone.ne_str_none (fin_bl I q (by simp))
    | bl j => cases ry; exact PySem.EqMixed.ne_str_bool (fin_bl I q (by simp))
    | int j => obtain ⟨t', rfl⟩ := ry; exact PySem.EqMixed.ne_str_int (fin_bl I q (by simp))
    | str j => obtain ⟨t', rfl⟩ := ry; exact ne_str (fin_bl I q (congrArg not dec_str))
    | _ => exact absurd (show false = true from hs) Bool.false_ne_true
  | byt i =>
    obtain ⟨t, rfl⟩ := rx
    cases y with
    | byt j => obtain ⟨t', rfl⟩ := ry; exact PySem.W.ne_bytes (fin_bl I q (congrArg not dec_byt))
    | _ => exact absurd (show false = true from hs) Bool.false_ne_true
  | _ => cases y <;> exact absurd (show false = true from hs) Bool.false_ne_true
theorem op_lt : OpR X (compareOp .Lt) (rI0 fun i j => .bl (decide (i < j))) := opB0 fun _ _ _ _ _ _ _ q => lt_int q
theorem op_le : OpR X (compareOp .LtE) (rI0 fun i j => .bl (decide (i ≤ j))) := opB0 fun _ _ _ _ _ _ _ q => le_int q
theorem op_gt : OpR X (compareOp .Gt) (rI0 fun i j => .bl (decide (j < i))) := opB0 fun _ _ _ _ _ _ _ q => gt_int q
theorem op_isN : OpR X (compareOp .Is) (fun x y H Q => y = .non ∧ Q (.bl (decide (x = .non))) H) := by
  intro pins s σ H x y v u Q I rx ry h
  obtain ⟨rfl, q⟩ := h
  cases ry
  refine is_none_gen (fin_bl I q ?_)
  cases x <;> first
    | (cases rx; rfl)
    | (obtain ⟨t, rfl⟩ := rx; rfl)
def isObj : HO → Bool
  | .lst _ => true
  | .ins _ _ _ => true
  | _ => false
theorem OpR.or {f : Value → Value → Sem Value} {r r' : R2} (h : OpR X f r) (h' : OpR X f r') : OpR X f (fun x y H Q => r x y H Q ∨ r' x y H Q) := by
  intro pins s σ H x y v u Q I rx ry q
  rcases q with q | q
  · exact h pins s σ H x y v u Q I rx ry q
  · exact h' pins s σ H x y v u Q I rx ry q
theorem nomark (b : Expr) {op : CmpOp} (h : op ≠ .In := by decide) (h2 : op ≠ .NotIn := by decide) : behindInMarks op b = false := by
  have e1 : (op == CmpOp.In) = false := by cases op <;> first | rfl | exact absurd rfl h
  have e2 : (op == CmpOp.NotIn) = false := by cases op <;> first | rfl | exact absurd rfl h2
  cases b <;> simp [behindInMarks, e1, e2]
theorem pe_cmpR {op : CmpOp} {r : R2} (ho : OpR X (compareOp op) r) (ha : PE X a ta) (hb : PE X b tb) (hm : behindInMarks op b = false) : PE X (.Compare a [op] [b] pos) (tOp r ta tb) := by
  intro pins s σ H Q I h
  exact wpAny_Compare1 (binT ha hb I h fun v u s2 x y H2 I2 rx ry q => ho pins s2 σ H2 x y v u Q I2 rx ry q) hm
def tTest (t : TE) : TT := fun σ H Q => t σ H fun x H' => ∃ k, x = .bl k ∧ Q k H'
theorem pt_cmpR {op : CmpOp} {r : R2} (ho : OpR X (compareOp op) r) (ha : PE X a ta) (hb : PE X b tb) (hm : behindInMarks op b = false) : PT X (.Compare a [op] [b] pos) (tTest (tOp r ta tb)) := by
  intro pins s σ H Q I h
  refine wpAny_isTrue_Compare1 (thn (ha pins s σ H _ I h) fun v s1 ⟨x, H1, I1, r1, q1⟩ => thn (hb pins s1 σ H1 _ I1 q1) fun u s2 ⟨y, H2, I2, r2, q2⟩ =>
    thn (ho pins s2 σ H2 x y v u _ I2 r1 r2 q2) fun c s3 ⟨z, H3, I3, r3, k, e, q3⟩ => ?_) hm
  subst e
  cases r3
  exact wpAny_truthy_bool ⟨H3, I3, q3⟩
def tChain (r r' : R2) (ta tb tc : TE) : TE := fun σ H Q => ta σ H fun x H1 => tb σ H1 fun y H2 => r x y H2 fun z H3 => ∃ k, z = .bl k ∧
  (if k = true then tc σ H3 fun w' H4 => r' y w' H4 Q else Q (.bl false) H3)
def TruV (K : PySem.W.Frag) (x : V) (H : Hp) (k : Bool) : Prop :=
  match x with
  | .non => k = false
  | .bl b => k = b
  | .int i => k = (i != 0)
  | .str y => y.length ≤ sizeLine ∧ k = ((y.length : Int) != 0)
  | .byt y => y.size ≤ sizeLine ∧ k = ((y.size : Int) != 0)
  | .ref p => (∃ xs, SqL K H p xs ∧ k = !xs.isEmpty) ∨ (∃ xs, SqT K H p xs ∧ k = !xs.isEmpty) ∨ ∃ kvs, H p = some (.dK kvs) ∧ k = !kvs.isEmpty
  | _ => False
theorem line63 : (sizeLine : Nat) < 2 ^ 63 := by rw [sizeLine_eq]; decide
def PlainIxT (b : Expr) : Prop := ∀ o i, subscripted b false o i = operate [o, i] (getItem o i)
theorem vals1 {x : V} {us : List Value} (r : Vals [x] us) : ∃ u, us = [u] ∧ RelV x u := by
  cases r with
  | cons r1 r2 => cases r2; exact ⟨_, rfl, r1⟩
theorem vals2 {x y : V} {us : List Value} (r : Vals [x, y] us) : ∃ u w', us = [u, w'] ∧ RelV x u ∧ RelV y w' := by
  cases r with
  | cons r1 r2 =>
    cases r2 with
    | cons r3 r4 => cases r4; exact ⟨_, _, rfl, r1, r3⟩
theorem call_min2 (hc : X.calm = true) : CallR X (.builtin "min") (fun xs H Q => ∃ i j, xs = [.int i, .int j] ∧ Q (.int (if j < i then j else i)) H) := by
  intro pins s σ H xs us Q I r h
  obtain ⟨i, j, rfl, q⟩ := h
  obtain ⟨u, w', rfl, ⟨t, rfl⟩, ⟨t', rfl⟩⟩ := vals2 r
  refine min_two_ints (I.ok.hd hc) fun h' tk k => ⟨_, H, I.kept k, ?_, q⟩
  by_cases hj : j < i
  · rw [if_pos hj, if_pos hj]; exact ⟨_, rfl⟩
  · rw [if_neg hj, if_neg hj]; exact ⟨_, rfl⟩
theorem call_int1 : CallR X (.type "int") (fun xs H Q => (∃ i, xs = [.int i] ∧ Q (.int i) H) ∨ ∃ k, xs = [.bl k] ∧ Q (.int (if k then 1 else 0)) H) := by
  intro pins s σ H xs us Q I r h
  rcases h with ⟨i, rfl, q⟩ | ⟨k, rfl, q⟩
  · obtain ⟨u, rfl, t, rfl⟩ := vals1 r
    exact call_int_int ⟨.int i, H, I, ⟨_, rfl⟩, q⟩
  · obtain ⟨u, rfl, r1⟩ := vals1 r
    cases r1
    exact call_int_bool ⟨.int (if k then 1 else 0), H, I.tok _, ⟨_, rfl⟩, q⟩
def LenV (K : PySem.W.Frag) (x : V) (H : Hp) (n : Nat) : Prop :=
  match x with
  | .str y => y.length ≤ sizeLine ∧ n = y.length
  | .byt y => y.size ≤ sizeLine ∧ n = y.size
  | .ref p => (∃ xs, SqL K H p xs ∧ n = xs.length) ∨ ∃ xs, SqT K H p xs ∧ n = xs.length
  | _ => False
end
end L2
namespace L2
open PySem PySem.Spec PyProof.Rows
structure ObjM (h : Heap) (x dx C : Addr) (mA : Str → Option Value) : Prop where
  obj : h.get? x = some (PySem.W.instObj C dx)
  ns : h.Ns1 dx mA
  ne : dx ≠ x
theorem lookIn_ns {h : Heap} {dx : Addr} {mA : Str → Option Value} (n : h.Ns1 dx mA) : ∃ od, h.get? dx = some od ∧ ∀ name, PySem.W.lookIn name od = some (mA name) := by
  obtain ⟨o, es, ep, ho, hd, hk, _, hm⟩ := n
  refine ⟨o, ho, fun name => ?_⟩
  have e := hm name
  unfold nsFind findBy at e
  rw [← Array.find?_toList] at e
  unfold PySem.W.lookIn
  rw [hd]
  dsimp only
  split
  · rename_i y q
    rw [q] at e
    exact congrArg some e
  · rename_i q
    rw [q] at e
    have a : es.toList.any (·.refKey) = false := by
      rw [List.any_eq_false]
      intro y hy
      obtain ⟨z, t, hkey⟩ := hk y (Array.mem_toList_iff.mp hy)
      simp [DictEntry.refKey, hkey]
    have a' : ¬ es.toList.any (·.refKey) = true := by rw [a]; exact Bool.false_ne_true
    rw [if_neg a']
    exact congrArg some e
theorem ObjM.look {h : Heap} {x dx C : Addr} {mA : Str → Option Value} (I : ObjM h x dx C mA) : ∃ od, PySem.W.InstAt h x (PySem.W.instObj C dx) C (some od) ∧ ∀ name, PySem.W.lookIn name od = some (mA name) :=
  let ⟨od, ho, hl⟩ := lookIn_ns I.ns
  ⟨od, ⟨I.obj, rfl, rfl, ho⟩, hl⟩
section
variable {prog : Program} {w : World} {A : Around} {E : Value → Shared → Prop} {s : Shared} {K : PySem.W.Frag} {x dx C f : Addr} {mA : Str → Option Value} {name : Str} {v : Value}
theorem get_map {expr : Bool} {Q : Value → Shared → Prop} (X : K.In s.heap) (I : ObjM s.heap x dx C mA) (hg : PySem.W.plainGet K C name = true) (hh : PySem.W.hasDictIn K C = true)
    (ha : PySem.W.findIn K (.ref C) name = some none) (hv : mA name = some v) (hv' : PySem.W.handedIn v = true) (h : Q v { s with toks := s.toks + 1 }) :
    wpAny (model prog w) A (getAttr (.ref x) name expr) Q E s := by
  obtain ⟨od, J, hl⟩ := I.look
  exact PySem.W.get_value X J (PySem.W.plainGet_of hg).1 (PySem.W.findObj_own hh ha rfl (by rw [hl, hv])) hv' h
theorem get_meth {pl : Sem Bool} {Q : Value × List Value → Shared → Prop} (X : K.In s.heap) (I : ObjM s.heap x dx C mA) (hg : PySem.W.plainGet K C name = true)
    (hf : PySem.W.findIn K (.ref C) name = some (some (.ref f))) (ht : PySem.W.isFn K (.ref f) = true) (hv : mA name = none) (h : Q (.ref f, [.ref x]) s) :
    wpAny (model prog w) A (getMethod (.ref x) name pl) Q E s := by
  obtain ⟨od, J, hl⟩ := I.look
  exact PySem.W.method_fn X J (PySem.W.plainGet_of hg).1 (PySem.W.plainGet_of hg).2 hf (beq_iff_eq.mp ht) (by show (PySem.W.lookIn name od).map (·.isSome) = some false; rw [hl, hv]; rfl) h
theorem set_map {ns : List Str} {Q : Unit → Shared → Prop} (X : K.In s.heap) (I : ObjM s.heap x dx C mA)
    (hs : PySem.W.findIn K (.ref C) "__setattr__" = some (some (.builtin "object.__setattr__"))) (hp : PySem.W.plainOver K C = true) (ht : PySem.W.takerIn K C name = some none) (hh : PySem.W.hasDictIn K C = true)
    (hw : PySem.Within mA ns) (hsz : ns.length ≤ sizeLine)
    (h : ∀ h', ObjM h' x dx C (fun y => if y = name then some v else mA y) → Heap.SameBut dx s.heap h' → Q () { s with heap := h', toks := s.toks + 2 }) :
    wpAny (model prog w) A (setAttr (.ref x) name v) Q E s := by
  obtain ⟨od, J, hl⟩ := I.look
  refine PySem.W.set_plain X J hs (PySem.W.osa_open (s := { s with toks := s.toks + 1 }) (r := none) X J hp ht fun b => ?_)
  obtain ⟨cd, hc, hd'⟩ := PySem.W.any_some hh
  have hx : s.heap.get? x = some ⟨.ref C, some dx, .plain, #[]⟩ := I.obj
  refine wpAny_bind (wpAny_pure (wpAny_bind (wpAny_bind (wpAny_loadPart hx (wpAny_bind (PySem.W.Looks.here (s := { s with toks := s.toks + 1 }) (PySem.W.looks_clsIn X hc) ?_))))))
  rw [hd']
  refine wpAny_pure (a := some dx) (wpAny_bind (wpAny_pure (wpAny_bind ?_)))
  refine wpAny_nsSet1 (s := { s with toks := s.toks + 1 }) I.ns fun h' hn2 hs2 => ?_
  obtain ⟨oD, esD, epD, hoD, hdD, hcD⟩ := hn2.count (PySem.Within.cons name v hw)
  refine wpAny_bind (wpAny_lookBehind hoD (by rw [hdD]; exact pastItsLine_dict (Nat.le_trans hcD (by rw [List.length_cons]; omega))) ?_)
  exact wpAny_pure (h _ ⟨(hs2.2 _ (Ne.symm I.ne)).trans I.obj, hn2, I.ne⟩ hs2)
theorem make_map {R : Result → Shared → Prop} {vs : List Value} {kw : List (Str × Value)} (X : K.In s.heap) (hm : PySem.W.makesIn K C = true)
    (hi : PySem.W.findIn K (.ref C) "__init__" = some (some (.ref f))) (hf : PySem.W.typeIn K (.ref f) = some (.type "function"))
    (h : codeAny (model prog w) (A.under (.builtin "type.__call__" ⟨.ref C :: vs, kw⟩)) (.call (.ref f) ⟨.ref (s.heap.objs.size + 1) :: vs, kw⟩) (PySem.W.InitBack (s.heap.objs.size + 1) R)
      { s with heap := (s.heap.push PySem.W.emptyDict).push (PySem.W.instObj C s.heap.objs.size) }) :
    codeAny (model prog w) A (.call (.ref C) ⟨vs, kw⟩) R s := by
  obtain ⟨hh, g, d, t, os⟩ := s
  exact PySem.W.make_core (PySem.W.makes_of X hm) (PySem.W.looks_findIn X hi) (fun self => PySem.W.bind_fn X self hf) (.inl rfl) h
end
def putF (f : Str) (v : V) : List (Str × V) → List (Str × V)
  | [] => [(f, v)]
  | (g, x) :: r => if g = f then (g, v) :: r else (g, x) :: putF f v r
theorem lookup_putF (f g : Str) (v : V) : ∀ fs : List (Str × V), (putF f v fs).lookup g = if g = f then some v else fs.lookup g
  | [] => by
    show List.lookup g [(f, v)] = _
    by_cases h : g = f
    · have hb : (g == f) = true := beq_iff_eq.mpr h
      simp only [List.lookup, hb, if_pos h]
    · have hb : (g == f) = false := beq_eq_false_iff_ne.mpr h
      simp only [List.lookup, hb, if_neg h]
  | (k, x) :: r => by
    have ih := lookup_putF f g v r
    rw [show putF f v ((k, x) :: r) = (if k = f then (k, v) :: r else (k, x) :: putF f v r) from rfl]
    by_cases hk : k = f
    · rw [if_pos hk]
      by_cases h : g = k
      · have hb : (g == k) = true := beq_iff_eq.mpr h
        simp only [List.lookup, hb, if_pos (h.trans hk)]
      · have hb : (g == k) = false := beq_eq_false_iff_ne.mpr h
        simp only [List.lookup, hb, if_neg (fun e : g = f => h (e.trans hk.symm))]
    · rw [if_neg hk]
      by_cases h : g = k
      · have hb : (g == k) = true := beq_iff_eq.mpr h
        simp only [List.lookup, hb, if_neg (fun e : g = f => hk (h.symm.trans e))]
      · have hb : (g == k) = false := beq_eq_false_iff_ne.mpr h
        simp only [List.lookup, hb]
        exact ih
theorem keys_putF (f : Str) (v : V) : ∀ fs : List (Str × V), f ∈ (putF f v fs).map (·.1) ∧ ∀ g, g ∈ fs.map (·.1) → g ∈ (putF f v fs).map (·.1)
  | [] => ⟨by simp [putF], fun g h => by simp at h⟩
  | (k, x) :: r => by
    obtain ⟨i1, i2⟩ := keys_putF f v r
    rw [show putF f v ((k, x) :: r) = (if k = f then (k, v) :: r else (k, x) :: putF f v r) from rfl]
    by_cases hk : k = f
    · rw [if_pos hk]
      subst hk
      exact ⟨by simp, fun g h => by simpa using h⟩
    · rw [if_neg hk]
      refine ⟨?_, fun g h => ?_⟩
      · rw [List.map_cons]
        exact List.mem_cons_of_mem _ i1
      · rw [List.map_cons] at h ⊢
        rcases List.mem_cons.mp h with e | e
        · exact List.mem_cons.mpr (.inl e)
        · exact List.mem_cons_of_mem _ (i2 g e)
theorem length_putF (f : Str) (v : V) : ∀ fs : List (Str × V), (putF f v fs).length ≤ fs.length + 1
  | [] => by simp [putF]
  | (k, x) :: r => by
    have ih := length_putF f v r
    rw [show putF f v ((k, x) :: r) = (if k = f then (k, v) :: r else (k, x) :: putF f v r) from rfl]
    by_cases hk : k = f
    · rw [if_pos hk, List.length_cons, List.length_cons]; omega
    · rw [if_neg hk, List.length_cons, List.length_cons]; omega
theorem RelO.some_of {v : V} {o : Option Value} (r : RelO (some v) o) : ∃ u, o = some u ∧ RelV v u := by
  cases o with
  | none => exact (show False from r).elim
  | some u => exact ⟨u, rfl, r⟩
theorem RelO.none_of {o : Option Value} (r : RelO none o) : o = none := by
  cases o with
  | none => rfl
  | some u => exact (show False from r).elim
theorem handed_of {v : V} {u : Value} (r : RelV v u) : PySem.W.handedIn u = true := by
  cases v with
  | non => cases (show u = Value.none from r); rfl
  | bl b => cases (show u = Value.bool b from r); rfl
  | int i => obtain ⟨t, e⟩ := (show ∃ t, u = Value.int i t from r); cases e; rfl
  | str x => obtain ⟨t, e⟩ := (show ∃ t, u = Value.str x t from r); cases e; rfl
  | byt b => obtain ⟨t, e⟩ := (show ∃ t, u = Value.bytes b t from r); cases e; rfl
  | flt b => obtain ⟨t, e⟩ := (show ∃ t, u = Value.float b t from r); cases e; rfl
  | ref a => cases (show u = Value.ref a from r); rfl
  | ty n => cases (show u = Value.type n from r); rfl
section
variable {P : Program} {w : World} {H H' : Hp} {h h' : Heap} {a C dx : Addr} {fs fs' : List (Str × V)}
theorem ins_get (hok : HOk P w H h) (e : H a = some (.ins C dx fs)) : ∃ mA, ObjM h a dx C mA ∧ (∀ f, RelO (fs.lookup f) (mA f)) ∧ PySem.Within mA (fs.map (·.1)) ∧ fs.length ≤ 1000 ∧ H dx = some (.own a) := by
  obtain ⟨d, z, ne, ob, mA, n, r, q⟩ := (show ObjOk P w H h a (.ins C dx fs) from hok a _ e)
  exact ⟨mA, ⟨ob, n, ne⟩, r, q, z, d⟩
end
structure Cls (K : PySem.W.Frag) (C : Addr) : Prop where
  pg : PySem.W.plainGet K C Str.empty = true
  hd : PySem.W.hasDictIn K C = true
  po : PySem.W.plainOver K C = true
  sa : PySem.W.findIn K (.ref C) "__setattr__" = some (some (.builtin "object.__setattr__"))
theorem Cls.get {K : PySem.W.Frag} {C : Addr} (c : Cls K C) (f : Str) : PySem.W.plainGet K C f = true := c.pg
def NoAttr (K : PySem.W.Frag) (C : Addr) (f : Str) : Prop := PySem.W.findIn K (.ref C) f = some none
theorem NoAttr.taker {K : PySem.W.Frag} {C : Addr} {f : Str} (n : NoAttr K C f) : PySem.W.takerIn K C f = some none := by
  unfold PySem.W.takerIn
  rw [show PySem.W.findIn K (.ref C) f = some none from n]
  rfl
structure Con (K : PySem.W.Frag) (C : Addr) (f : Str) (v : V) (u : Value) : Prop where
  at_ : PySem.W.findIn K (.ref C) f = some (some u)
  rel : RelV v u
  get : PySem.W.specialIn K u "__get__" = some none
  cp : PySem.W.copiedNames.contains f = false
structure Meth (K : PySem.W.Frag) (C : Addr) (m : Str) (f : Addr) : Prop where
  at_ : PySem.W.findIn K (.ref C) m = some (some (.ref f))
  fn : PySem.W.isFn K (.ref f) = true
  kp : PySem.W.keepIn K (.ref f) = true
section
variable {X : Cx} {pins : List (Addr × Obj)} {σ : St} {H : Hp} {s : Shared} {a C dx : Addr} {fs : List (Str × V)} {f : Str} {v : V} {A : Around} {E : Value → Shared → Prop}
theorem getattr_ok {b : Bool} {Q : Value → Shared → Prop} (I : Inv X pins σ H s) (e : H a = some (.ins C dx fs)) (c : Cls X.K C) (n : NoAttr X.K C f) (l : fs.lookup f = some v)
    (h : ∀ u s', Inv X pins σ H s' → RelV v u → Q u s') : wpAny (model X.prog X.w) A (getAttr (.ref a) f b) Q E s := by
  obtain ⟨mA, O, r, _, _, _⟩ := ins_get I.hok e
  obtain ⟨u, hu, ru⟩ := RelO.some_of (v := v) (o := mA f) (by rw [← l]; exact r f)
  exact get_map I.kIn O (c.get f) c.hd n hu (handed_of ru) (h u _ (I.tok _) ru)
theorem getmeth_ok {m : Str} {g : Addr} {pl : Sem Bool} {Q : Value × List Value → Shared → Prop} (I : Inv X pins σ H s) (e : H a = some (.ins C dx fs)) (c : Cls X.K C) (k : Meth X.K C m g) (l : fs.lookup m = none)
    (h : Q (.ref g, [.ref a]) s) : wpAny (model X.prog X.w) A (getMethod (.ref a) m pl) Q E s := by
  obtain ⟨mA, O, r, _, _, _⟩ := ins_get I.hok e
  have hn : mA m = none := RelO.none_of (by rw [← l]; exact r m)
  exact get_meth I.kIn O (c.get m) k.at_ k.fn hn h
theorem setattr_ok {y : V} {u : Value} {Q : Unit → Shared → Prop} (I : Inv X pins σ H s) (e : H a = some (.ins C dx fs)) (c : Cls X.K C) (n : NoAttr X.K C f) (hl : fs.length < 1000) (ry : RelV y u)
    (h : ∀ s', Inv X pins σ (upd H a (.ins C dx (putF f y fs))) s' → Q () s') : wpAny (model X.prog X.w) A (setAttr (.ref a) f u) Q E s := by
  obtain ⟨mA, O, r, wi, _, ho⟩ := ins_get I.hok e
  have hz : (fs.map (·.1)).length ≤ sizeLine := by rw [List.length_map, sizeLine_eq]; omega
  refine set_map I.kIn O c.sa c.po n.taker c.hd wi hz fun h' O' sb => h _ ?_
  have hd : ∃ o, h'.get? dx = some o := let ⟨o, _, _, e', _⟩ := O'.ns; ⟨o, e'⟩
  refine I.write (x := a) (e := dx) (by rw [e]; exact True.intro) (.inr ho) (fun b q hb z => (sb.2 b hb).trans z) hd ?_
  refine ⟨by rw [upd_ne O.ne]; exact ho, ?_, O.ne, O'.obj, _, O'.ns, fun g => ?_, fun g hg => ?_⟩
  · have := length_putF f y fs; omega
  · show RelO ((putF f y fs).lookup g) (if g = f then some u else mA g)
    rw [lookup_putF]
    by_cases q : g = f
    · rw [if_pos q, if_pos q]; exact ry
    · rw [if_neg q, if_neg q]; exact r g
  · by_cases q : g = f
    · rw [q]; exact (keys_putF f y fs).1
    · refine (keys_putF f y fs).2 g (wi g fun z => hg ?_)
      show (if g = f then some u else mA g) = none
      rw [if_neg q]; exact z
theorem Inv.made (I : Inv X pins σ H s) : Inv X pins σ (upd (upd H s.heap.objs.size (.own (s.heap.objs.size + 1))) (s.heap.objs.size + 1) (.ins C s.heap.objs.size []))
    { s with heap := (s.heap.push PySem.W.emptyDict).push (PySem.W.instObj C s.heap.objs.size) } := by
  have e1 : (s.heap.push PySem.W.emptyDict).get? s.heap.objs.size = some PySem.W.emptyDict := Heap.get?_push_size s.heap rfl
  have e2 : ((s.heap.push PySem.W.emptyDict).push (PySem.W.instObj C s.heap.objs.size)).get? (s.heap.objs.size + 1) = some (PySem.W.instObj C s.heap.objs.size) := by
    have := Heap.get?_push_size (s.heap.push PySem.W.emptyDict) (o := PySem.W.instObj C s.heap.objs.size) rfl
    rwa [Heap.size_push] at this
  have e3 : (s.heap.push PySem.W.emptyDict).Ns s.heap.objs.size (fun _ => none) := ⟨PySem.W.emptyDict, #[], _, e1, rfl, (fun e he => absurd he (by simp)), fun _ => rfl⟩
  have I1 := I.laid (a := s.heap.objs.size) (o := .own (s.heap.objs.size + 1)) (h' := s.heap.push PySem.W.emptyDict) (t' := s.toks) (fun b u q => Heap.get?_push_of_some _ q) (Nat.le_refl _) ⟨_, e1⟩
  refine I1.laid (a := s.heap.objs.size + 1) (o := .ins C s.heap.objs.size []) (t' := s.toks) (fun b u q => Heap.get?_push_of_some _ q) (Nat.le_of_eq (Heap.size_push _ _)) ?_
  have ne : s.heap.objs.size ≠ s.heap.objs.size + 1 := Nat.ne_of_lt (Nat.lt_succ_self _)
  refine ⟨by rw [upd_ne ne, upd_same], Nat.zero_le _, ne, e2, fun _ => none, (Heap.Ns1.of_empty e3).at fun o q => Heap.get?_push_of_some _ q, fun _ => True.intro, fun y hy => absurd rfl hy⟩
theorem attr_of {prog : Program} {w : World} {env : Env} {e : Expr} {f : Str} {pos : Pos} {s : Shared} {Q : Value → Shared → Prop} (hb : attributeBase e f env (eval e env) = eval e env)
    (h : wpAny (model prog w) A (eval e env) (fun o s₁ => wpAny (model prog w) A (getAttr o f true) Q E s₁) E s) : wpAny (model prog w) A (eval (.Attribute e f pos) env) Q E s :=
  Attribute_any_ h (by rw [arm_eval_Attribute, hb])
end
def tFld (K : PySem.W.Frag) (ta : TE) (f : Str) : TE := fun σ H Q => ta σ H fun x H1 => ∃ a C dx fs v, x = .ref a ∧ H1 a = some (.ins C dx fs) ∧ Cls K C ∧ NoAttr K C f ∧ fs.lookup f = some v ∧ Q v H1
def tCon (K : PySem.W.Frag) (ta : TE) (f : Str) : TE := fun σ H Q => ta σ H fun x H1 => ∃ a C dx fs v u, x = .ref a ∧ H1 a = some (.ins C dx fs) ∧ Cls K C ∧ Con K C f v u ∧ fs.lookup f = none ∧ Q v H1
def sFld (K : PySem.W.Frag) (ta tv : TE) (f : Str) : TS := fun D σ H => tv σ H fun y H1 => ta σ H1 fun x H2 => ∃ a C dx fs, x = .ref a ∧ H2 a = some (.ins C dx fs) ∧ Cls K C ∧ NoAttr K C f ∧ fs.length < 1000 ∧
  D.nx σ (upd H2 a (.ins C dx (putF f y fs)))
def InOp (X : Cx) (op : Operator) (rd : V → V → Hp → VK → Prop) : Prop :=
  ∀ (pins : List (Addr × Obj)) (s : Shared) (σ : St) (H : Hp) (x y : V) (u v : Value) (Q : VK), Inv X pins σ H s → RelV x u → RelV y v → rd x y H Q → wpAny (model X.prog X.w) X.A (inplaceOp op u v) (EP X pins σ Q) X.xe s
def sFldAug (K : PySem.W.Frag) (ta tv : TE) (rd : V → V → Hp → VK → Prop) (f : Str) : TS := fun D σ H => ta σ H fun x H1 => ∃ a C dx fs v, x = .ref a ∧ H1 a = some (.ins C dx fs) ∧ Cls K C ∧ NoAttr K C f ∧ fs.lookup f = some v ∧
  tv σ H1 fun y H2 => rd v y H2 fun z H3 => ∃ dx' fs', H3 a = some (.ins C dx' fs') ∧ fs'.length < 1000 ∧ D.nx σ (upd H3 a (.ins C dx' (putF f z fs')))
section
variable {X : Cx} {o e value : Expr} {f : Str} {pos pos' tpos : Pos} {ta tv : TE}
theorem pe_fld (he : PE X e ta) (hb : attributeBase e f X.env (eval e X.env) = eval e X.env) : PE X (.Attribute e f pos) (tFld X.K ta f) := by
  intro pins s σ H Q I h
  refine attr_of hb (thn (he pins s σ H _ I h) fun u s1 ⟨x, H1, I1, rx, a, C, dx, fs, v, ex, ea, c, n, l, q⟩ => ?_)
  subst ex
  obtain rfl : u = Value.ref a := rx
  exact getattr_ok I1 ea c n l fun u' s2 I2 ru => ⟨v, H1, I2, ru, q⟩
theorem ps_fld (ha : PE X o ta) (hv : PE X value tv) (hs : swapsWith value (some (.Attribute o f pos')) pos.line X.env = pure false) : PS X (.Assign [.Attribute o f pos'] value pos) (sFld X.K ta tv f) := by
  intro pins s σ H D I h
  refine plainObj_wpAny_Assign_Attribute (thn (hv pins s σ H _ I h) fun u s1 ⟨y, H1, I1, ry, q⟩ => thn (ha pins s1 σ H1 _ I1 q) fun ov s2 ⟨x, H2, I2, rx, a, C, dx, fs, ex, ea, c, n, l, q2⟩ => ?_) hs
  subst ex
  obtain rfl : ov = Value.ref a := rx
  exact setattr_ok I2 ea c n l ry fun s3 I3 => ⟨σ, _, I3, q2⟩
def rAdd : V → V → Hp → VK → Prop := fun x y H Q => ∃ i j, x = .int i ∧ y = .int j ∧ Q (.int (i + j)) H
def rSub : V → V → Hp → VK → Prop := fun x y H Q => ∃ i j, x = .int i ∧ y = .int j ∧ Q (.int (i - j)) H
theorem methcall_of {pl : Sem Bool} {m : Str} {apos : Pos} {args : List Expr} {pins : List (Addr × Obj)} {s : Shared} {σ : St} {H : Hp} {Q : Value → Shared → Prop} {te : TE} (he : PE X e te) (I : Inv X pins σ H s)
    (h : te σ H fun x H1 => ∃ a C dx fs g, x = .ref a ∧ H1 a = some (.ins C dx fs) ∧ Cls X.K C ∧ Meth X.K C m g ∧ fs.lookup m = none ∧
      ∀ s1, Inv X pins σ H1 s1 → wpAny (model X.prog X.w) X.A (callWith pos (.ref g) [.ref a] (backTo pos (starEach args X.env)) (backToKw pos (keywordEach [] X.env))) Q X.xe s1)
    (ht : eval (.Call (.Attribute e m apos) args [] pos) X.env = (do
      let ov ← eval e X.env
      standAt apos.atName
      let (f, first) ← holding [ov] (getMethod ov m pl)
      callWith pos f first (backTo pos (starEach args X.env)) (backToKw pos (keywordEach [] X.env)))) :
    wpAny (model X.prog X.w) X.A (eval (.Call (.Attribute e m apos) args [] pos) X.env) Q X.xe s := by
  refine PySem.W.methodCall_KW (pl := pl) (thn (he pins s σ H _ I h) fun u s1 ⟨x, H1, I1, rx, a, C, dx, fs, g, ex, ea, c, k, l, q⟩ => ?_) ht
  subst ex
  obtain rfl : u = Value.ref a := rx
  exact getmeth_ok I1 ea c k l (q s1 I1)
end
section
variable {X : Cx} {pins : List (Addr × Obj)} {σ : St} {H : Hp} {s : Shared} {A : Around} {E : Value → Shared → Prop} {Q : Value → Shared → Prop} {c : Value} {b : Bool}
inductive TyOf (K : PySem.W.Frag) (H : Hp) : V → Value → Prop where
  | non : TyOf K H .non (.type "NoneType")
  | bl (x : Bool) : TyOf K H (.bl x) (.type "bool")
  | int (i : Int) : TyOf K H (.int i) (.type "int")
  | str (x : Str) : TyOf K H (.str x) (.type "str")
  | flt (x : UInt64) : TyOf K H (.flt x) (.type "float")
  | lst {a : Addr} {xs : List V} (e : H a = some (.lst xs)) : TyOf K H (.ref a) (.type "list")
  | frz {a : Addr} {o : Obj} {xs : List V} (e : H a = some (.frz o (.lst xs))) : TyOf K H (.ref a) (.type "list")
  | tup {a : Addr} {xs : List V} (e : H a = some (.tup xs)) : TyOf K H (.ref a) (.type "tuple")
  | dK {a : Addr} {kvs : List (Key × V)} (e : H a = some (.dK kvs)) : TyOf K H (.ref a) (.type "dict")
  | dT {a : Addr} {kvs : List (List Key × V)} (e : H a = some (.dT kvs)) : TyOf K H (.ref a) (.type "dict")
  | ins {a C dx : Addr} {fs : List (Str × V)} (e : H a = some (.ins C dx fs)) (cl : Cls K C) (ha : PySem.W.findIn K (.ref C) "__class__" = some (some (.builtin "object.__class__")))
      (hn : PySem.W.specialIn K (.builtin "object.__class__") "__get__" = some (some (.builtin "getset_descriptor.__get__"))) (htk : PySem.W.takesIn K (.builtin "object.__class__") = some true)
      (hm : PySem.W.mroIn K C (.type "object") = some true) : TyOf K H (.ref a) (.ref C)
theorem isinst_ok {x : V} {u t : Value} (I : Inv X pins σ H s) (rx : RelV x u) (ty : TyOf X.K H x t) (e : PySem.W.kitOne X.K t c = some b) (h : ∀ tk, Q (.bool b) { s with toks := tk }) :
    wpAny (model X.prog X.w) A (call (.builtin "isinstance") [u, c]) Q E s := by
  cases ty with
  | non => cases (show u = Value.none from rx); exact PySem.W.kia_one PySem.W.kitx_none I.kIn True.intro e (fun z => nomatch z) h
  | bl y => cases (show u = Value.bool y from rx); exact PySem.W.kia_one PySem.W.kitx_bool I.kIn True.intro e (fun z => nomatch z) h
  | int i => obtain ⟨t, q⟩ := (show ∃ t, u = Value.int i t from rx); cases q; exact PySem.W.kia_one PySem.W.kitx_int I.kIn True.intro e (fun z => nomatch z) h
  | str y => obtain ⟨t, q⟩ := (show ∃ t, u = Value.str y t from rx); cases q; exact PySem.W.kia_one PySem.W.kitx_str I.kIn True.intro e (fun z => nomatch z) h
  | flt y => obtain ⟨t, q⟩ := (show ∃ t, u = Value.float y t from rx); cases q; exact PySem.W.kia_one PySem.W.kitx_float I.kIn True.intro e (fun z => nomatch z) h
  | @lst a xs ea =>
    cases (show u = Value.ref a from rx)
    obtain ⟨_, _, n, _, h1⟩ := (show ObjOk X.prog X.w H s.heap a (.lst xs) from I.hok a _ ea)
    exact PySem.W.kia_one PySem.W.kitx_list I.kIn ⟨_, h1, rfl⟩ e (fun z => nomatch z) h
  | @frz a ob xs ea =>
    cases (show u = Value.ref a from rx)
    obtain ⟨_, _, _, n, _, h1⟩ := (show ObjOk X.prog X.w H s.heap a (.frz ob (.lst xs)) from I.hok a _ ea)
    exact PySem.W.kia_one PySem.W.kitx_list I.kIn ⟨_, h1, rfl⟩ e (fun z => nomatch z) h
  | @tup a xs ea =>
    cases (show u = Value.ref a from rx)
    obtain ⟨_, _, _, p⟩ := (show ObjOk X.prog X.w H s.heap a (.tup xs) from I.hok a _ ea)
    obtain ⟨o, h1, h2, _⟩ := p
    exact PySem.W.kia_one PySem.W.kitx_tuple I.kIn ⟨o, h1, h2⟩ e (fun z => nomatch z) h
  | @dK a kvs ea =>
    cases (show u = Value.ref a from rx)
    obtain ⟨_, _, vs, _, p⟩ := (show ObjOk X.prog X.w H s.heap a (.dK kvs) from I.hok a _ ea)
    obtain ⟨o, es, ep, h1, h2, _⟩ := p
    exact PySem.W.kia_one PySem.W.kitx_dict I.kIn ⟨o, h1, h2.1⟩ e (fun z => nomatch z) h
  | @dT a kvs ea =>
    cases (show u = Value.ref a from rx)
    obtain ⟨_, _, xs, _, o, es, ep, h1, h2, _⟩ := (show ObjOk X.prog X.w H s.heap a (.dT kvs) from I.hok a _ ea)
    exact PySem.W.kia_one PySem.W.kitx_dict I.kIn ⟨o, h1, h2.1⟩ e (fun z => nomatch z) h
  | @ins a C dx fs ea cl ha hn htk hm =>
    cases (show u = Value.ref a from rx)
    obtain ⟨mA, O, _⟩ := ins_get I.hok ea
    obtain ⟨od, J, _⟩ := O.look
    exact PySem.W.kia_one (PySem.W.kitx_own (cl.get _) cl.hd ha hn htk hm) I.kIn J e (fun z => nomatch z) h
end
end L2
namespace L2
open PySem PySem.Spec PyProof.Rows
structure Room (k : Nat) (A : Around) : Prop where
  hd : A.handled = none
  dp : A.depth + 3 * k + 5 < recursionLimit
  un : A.units + 16 * k + 200 < cLine
theorem Room.mono {j k : Nat} {A : Around} (r : Room k A) (h : j ≤ k) : Room j A := ⟨r.hd, by have := r.dp; omega, by have := r.un; omega⟩
theorem Room.deeper {k : Nat} {A : Around} (r : Room (k + 1) A) (env : Env) : Room k (A.deeper env) :=
  ⟨r.hd, by have := r.dp; show A.depth + 1 + 3 * k + 5 < _; omega, by have := r.un; show A.units + 3 + 16 * k + 200 < _; omega⟩
theorem make_depth {A : Around} {C : Addr} {us : List Value} {kw : List (Str × Value)} : (A.under (.builtin "type.__call__" ⟨.ref C :: us, kw⟩)).depth = A.depth + 1 := by
  first | rfl | simp [Around.under, Code.weight, Code.isCreation, Code.isGuard, Code.isCaller, Code.frames, Code.isFrame, guardIds]
theorem make_units {A : Around} {C : Addr} {us : List Value} {kw : List (Str × Value)} : (A.under (.builtin "type.__call__" ⟨.ref C :: us, kw⟩)).units = A.units + 1 := by
  first | rfl | simp [Around.under, Code.cUnits, Code.frames, Code.isFrame]
theorem Room.make {k : Nat} {A : Around} (r : Room (k + 1) A) (C : Addr) (us : List Value) (kw : List (Str × Value)) : Room k (A.under (.builtin "type.__call__" ⟨.ref C :: us, kw⟩)) :=
  ⟨r.hd, by have := r.dp; rw [make_depth]; omega, by have := r.un; rw [make_units]; omega⟩
theorem Room.depth {k : Nat} {A : Around} (r : Room k A) : A.depth < recursionLimit := by have := r.dp; omega
theorem Room.units {k : Nat} {A : Around} (r : Room k A) : A.units + 64 < cLine := by have := r.un; omega
def tNil : TA := fun _ H Q => Q [] H
def tCons (ta : TE) (tr : TA) : TA := fun σ H Q => ta σ H fun x H1 => tr σ H1 fun xs H2 => Q (x :: xs) H2
section
variable {X : Cx} {e : Expr} {es : List Expr} {te : TE} {t : TA} {pos : Pos}
theorem pa_nil : PA X [] tNil := fun _ _ _ _ H Q I h => Calls.spliced_nil ⟨[], H, I, .nil, h⟩
theorem pa_cons (ha : PE X e te) (hr : PA X es t) (hs : starEach (e :: es) X.env = (false, eval e X.env) :: starEach es X.env := by rfl) : PA X (e :: es) (tCons te t) := by
  intro pos pins s σ H Q I h
  rw [hs]
  show wpAny _ _ (spliced ((false, eval e X.env) :: backTo pos (starEach es X.env))) _ _ s
  refine Calls.spliced_cons (thn (ha pins s σ H _ I h) fun u s1 ⟨x, H1, I1, r1, q1⟩ => ?_)
  exact thn (hr pos pins s1 σ H1 _ I1 q1) fun us s2 ⟨xs, H2, I2, r2, q2⟩ => ⟨x :: xs, H2, I2, .cons r1 r2, q2⟩
def tTup (t : TA) : TE := fun σ H Q => t σ H fun xs H1 => xs.length ≤ sizeLine ∧ ∀ p, H1 p = none → Q (.ref p) (upd H1 p (.tup xs))
def tLst (t : TA) : TE := fun σ H Q => t σ H fun xs H1 => xs.length ≤ sizeLine ∧ ∀ p, H1 p = none → Q (.ref p) (upd H1 p (.lst xs))
theorem pe_tup {x1} (h : PA X es t) : PE X (.Tuple es x1 pos) (tTup t) := by
  intro pins s σ H Q I hq
  refine wpAny_Tuple_spliced (thn (h pos pins s σ H _ I hq) fun us s1 ⟨xs, H1, I1, r, z, q⟩ => ⟨by rw [← r.length]; exact z, ?_⟩)
  have hf : H1 s1.heap.objs.size = none := I1.hok.fresh (Nat.le_refl _)
  refine ⟨.ref s1.heap.objs.size, upd H1 s1.heap.objs.size (.tup xs), I1.laid (t' := s1.toks) (fun b u e => Heap.get?_push_of_some _ e) (Nat.le_refl _) ?_, rfl, q _ hf⟩
  exact ⟨z, us, r, ⟨_, Heap.get?_push_size _ rfl, rfl, _, rfl⟩⟩
theorem pe_lst (h : PA X es t) : PE X (.List es pos) (tLst t) := by
  intro pins s σ H Q I hq
  refine wpAny_List_spliced (thn (h pos pins s σ H _ I hq) fun us s1 ⟨xs, H1, I1, r, z, q⟩ => ⟨by rw [← r.length]; exact z, ?_⟩)
  have hf : H1 s1.heap.objs.size = none := I1.hok.fresh (Nat.le_refl _)
  refine ⟨.ref s1.heap.objs.size, upd H1 s1.heap.objs.size (.lst xs), I1.laid (t' := s1.toks) (fun b u e => Heap.get?_push_of_some _ e) (Nat.le_refl _) ?_, rfl, q _ hf⟩
  exact ⟨z, us, 0, r, Heap.get?_push_size _ rfl⟩
end
abbrev Sp := List V → Hp → VK → XK → Prop
abbrev CXT := List Env → Hp → Shared → XK → Value → Shared → Prop
structure Env0 (P : Program) (w : World) (K : PySem.W.Frag) (mg : Str → Option Value) (base : Heap) (A : Around) (outer : List Env) (s : Shared) (H : Hp) : Prop where
  frames : A.frames = some outer
  mod : Mod K mg base
  bs : ∀ b o, base.get? b = some o → s.heap.get? b = some o ∧ H b = none
  bsz : base.objs.size ≤ s.heap.objs.size
  funs : s.heap.FunFrames base outer
  frf : ∀ b ∈ frs outer, H b = none
  hok : HOk P w H s.heap
  bare : AllBare s.gens
def CE (outer : List Env) (P : Program) (w : World) (H : Hp) (s : Shared) (Q : VK) (u : Value) (s' : Shared) : Prop :=
  ∃ v H', s'.os = s.os ∧ AllBare s'.gens ∧ Un (frs outer) [] H H' s.heap s'.heap ∧ HOk P w H' s'.heap ∧ RelV v u ∧ Q v H'
def CR (CX : CXT) (outer : List Env) (P : Program) (w : World) (H : Hp) (s : Shared) (Q : VK) (E : XK) (r : Result) (s' : Shared) : Prop :=
  match r with
  | .ok (.ret u) => CE outer P w H s Q u s'
  | .ok _ => False
  | .error e => CX outer H s E e s'
structure FnOk (P : Program) (w : World) (K : PySem.W.Frag) (mg : Str → Option Value) (base : Heap) (CX : CXT) (k : Nat) (f : Addr) (fd : FuncData) (ps : List Str) (sp : Sp) : Prop where
  len : ∀ vs H Q E, sp vs H Q E → vs.length = ps.length
  run : ∀ (A : Around) (outer : List Env) (s : Shared) (H : Hp) (args : Args) (us : List Value) (vs : List V) (Q : VK) (E : XK), Room k A → Env0 P w K mg base A outer s H → BindsTo s fd args (ps.zip us) → Vals vs us → sp vs H Q E →
    codeAny (model P w) A (.call (.ref f) args) (CR CX outer P w H s Q E) s
theorem FnOk.mono {P : Program} {w : World} {K : PySem.W.Frag} {mg : Str → Option Value} {base : Heap} {CX : CXT} {j k : Nat} {f : Addr} {fd : FuncData} {ps : List Str} {sp : Sp} (F : FnOk P w K mg base CX j f fd ps sp) (h : j ≤ k) :
    FnOk P w K mg base CX k f fd ps sp := ⟨F.len, fun A outer s H args us vs Q E hr => F.run A outer s H args us vs Q E (hr.mono h)⟩
theorem FnOk.imp {P : Program} {w : World} {K : PySem.W.Frag} {mg : Str → Option Value} {base : Heap} {CX : CXT} {k : Nat} {f : Addr} {fd : FuncData} {ps : List Str} {sp sp' : Sp} (F : FnOk P w K mg base CX k f fd ps sp)
    (h : ∀ vs H Q E, sp' vs H Q E → sp vs H Q E) : FnOk P w K mg base CX k f fd ps sp' :=
  ⟨fun vs H Q E q => F.len vs H Q E (h _ _ _ _ q), fun A outer s H args us vs Q E hr he hb hv hs => F.run A outer s H args us vs Q E hr he hb hv (h _ _ _ _ hs)⟩
theorem Env0.make {P : Program} {w : World} {K : PySem.W.Frag} {mg : Str → Option Value} {base : Heap} {A : Around} {outer : List Env} {s : Shared} {H : Hp} (e : Env0 P w K mg base A outer s H) (C : Addr) (us : List Value) (kw : List (Str × Value)) :
    Env0 P w K mg base (A.under (.builtin "type.__call__" ⟨.ref C :: us, kw⟩)) outer s H := ⟨by first | exact e.frames | (simpa [Around.under, Code.envs, Code.isFrame, pushEnvs] using e.frames), e.mod, e.bs, e.bsz, e.funs, e.frf, e.hok, e.bare⟩
section
variable {X : Cx} {pins : List (Addr × Obj)} {σ : St} {H : Hp} {s s' : Shared}
theorem Inv.env0 (I : Inv X pins σ H s) : Env0 X.prog X.w X.K X.mg X.base X.A X.stack s H :=
  ⟨I.ok.frames, I.ok.mod, I.bs, Nat.le_trans I.ok.bsz I.sz, I.stack, I.stkFree, I.hok, I.bare⟩
theorem Inv.after {Q : VK} {u : Value} (I : Inv X pins σ H s) (h : CE X.stack X.prog X.w H s Q u s') : EP X pins σ Q u s' := by
  obtain ⟨v, H', os, bare, un, hok, r, q⟩ := h
  obtain ⟨hh, g, d, t, os'⟩ := s'
  obtain rfl : os' = s.os := os
  exact ⟨v, H', I.call (h' := hh) (g' := g) (d' := d) (t' := t) (ch := []) un hok bare (fun b z => absurd z (by simp)), r, q⟩
end
def tCall (sp : Sp) (dvs : List V) (E : XK) (t : TA) : TE := fun σ H Q => t σ H fun vs H1 => sp (vs ++ dvs) H1 Q E
def tMeth (C : Addr) (m : Str) (sp : Sp) (dvs : List V) (E : XK) (ta : TE) (t : TA) : TE := fun σ H Q => ta σ H fun x H1 => ∃ a dx fs, x = .ref a ∧ H1 a = some (.ins C dx fs) ∧ fs.lookup m = none ∧
  t σ H1 fun vs H2 => sp (x :: (vs ++ dvs)) H2 Q E
def tMake (C : Addr) (sp : Sp) (dvs : List V) (E : XK) (t : TA) : TE := fun σ H Q => t σ H fun vs H1 => ∀ x dx, H1 x = none → H1 dx = none → dx ≠ x →
  sp (.ref x :: (vs ++ dvs)) (upd (upd H1 dx (.own x)) x (.ins C dx [])) (fun v H2 => v = .non ∧ Q (.ref x) H2) E
def Binds (K : PySem.W.Frag) (fd : FuncData) (ps : List Str) (ds : List Value) : Prop :=
  ∀ (s : Shared) (us : List Value), K.In s.heap → (us ++ ds).length = ps.length → BindsTo s fd ⟨us, []⟩ (ps.zip (us ++ ds))
theorem Binds.all {K : PySem.W.Frag} {fd : FuncData} {ps : List Str} (h : ∀ us : List Value, us.length = ps.length → bindArgs fd ⟨us, []⟩ = pure (ps.zip us)) : Binds K fd ps [] := fun s us _ hl => by
  rw [List.append_nil] at hl ⊢
  exact .of_eq (h us hl)
def Passes (CX : CXT) (X : Cx) (E : XK) : Prop := ∀ (pins : List (Addr × Obj)) (σ : St) (H : Hp) (s : Shared) (e : Value) (s' : Shared), Inv X pins σ H s → CX X.stack H s E e s' → X.xe e s'
section
variable {X : Cx} {CX : CXT} {k : Nat} {f C : Addr} {fd : FuncData} {ps : List Str} {sp : Sp} {dvs : List V} {ds : List Value} {E : XK} {x m : Str} {p pos apos : Pos} {e o : Expr} {es : List Expr} {ta : TE} {t : TA}
theorem run_fn {pins : List (Addr × Obj)} {σ : St} {H : Hp} {s : Shared} {Q : VK} {us : List Value} {vs : List V} (F : FnOk X.prog X.w X.K X.mg X.base CX k f fd ps sp) (hr : Room k X.A) (hb : Binds X.K fd ps ds) (hd : Vals dvs ds) (hx : Passes CX X E)
    (I : Inv X pins σ H s) (r : Vals vs us) (h : sp (vs ++ dvs) H Q E) : wpAny (model X.prog X.w) X.A (call (.ref f) us) (EP X pins σ Q) X.xe s := by
  have r2 : Vals (vs ++ dvs) (us ++ ds) := r.append hd
  have hl : (us ++ ds).length = ps.length := by rw [← r2.length]; exact F.len _ _ _ _ h
  refine wpAny_call (codeAny_mono (F.run X.A X.stack s H ⟨us, []⟩ (us ++ ds) (vs ++ dvs) Q E hr I.env0 (hb s us I.kIn hl) r2 h) fun r s' hq => ?_)
  cases r with
  | error e => exact hx pins σ H s e s' I hq
  | ok fl =>
    cases fl with
    | ret u => exact I.after hq
    | next => exact False.elim hq
    | brk => exact False.elim hq
    | cont => exact False.elim hq
theorem pe_call (F : FnOk X.prog X.w X.K X.mg X.base CX k f fd ps sp) (hr : Room k X.A) (hg : Gl X x) (hm : X.mg x = some (.ref f)) (hk : PySem.W.keepIn X.K (.ref f) = true) (hb : Binds X.K fd ps ds) (hd : Vals dvs ds) (hx : Passes CX X E)
    (ha : PA X (e :: es) t) (hdb : (x == ("__debug__" : Str)) = false := by decide) (he : starEach (e :: es) X.env = (false, eval e X.env) :: starEach es X.env := by rfl) (hpl : (backTo pos (starEach es X.env)).any (·.1) = false := by rfl) :
    PE X (.Call (.Name x p) (e :: es) [] pos) (tCall sp dvs E t) := by
  intro pins s σ H Q I h
  refine wpAny_Call_Name_kw (ld_glob I hg hm ?_ hdb)
  refine PySem.W.callWith_K (h₀ := X.base) I.ok.mod.kin hk (thn (ha pos pins s σ H _ I h) fun us s1 ⟨vs, H1, I1, r, q⟩ => ⟨I1.kIn, ?_⟩) he hpl
  exact run_fn F hr hb hd hx I1 r q
theorem pe_meth {pl : Sem Bool} (he : PE X o ta) (c : Cls X.K C) (hm : Meth X.K C m f) (F : FnOk X.prog X.w X.K X.mg X.base CX k f fd ps sp) (hr : Room k X.A) (hb : Binds X.K fd ps ds) (hd : Vals dvs ds) (hx : Passes CX X E) (ha : PA X (e :: es) t)
    (hst : starEach (e :: es) X.env = (false, eval e X.env) :: starEach es X.env := by rfl) (hpl : (backTo pos (starEach es X.env)).any (·.1) = false := by rfl)
    (ht : eval (.Call (.Attribute o m apos) (e :: es) [] pos) X.env = (do
      let ov ← eval o X.env
      standAt apos.atName
      let (f, first) ← holding [ov] (getMethod ov m pl)
      callWith pos f first (backTo pos (starEach (e :: es) X.env)) (backToKw pos (keywordEach [] X.env))) := by rfl) :
    PE X (.Call (.Attribute o m apos) (e :: es) [] pos) (tMeth C m sp dvs E ta t) := by
  intro pins s σ H Q I h
  refine PySem.W.methodCall_KW (pl := pl) (thn (he pins s σ H _ I h) fun u s1 ⟨x, H1, I1, rx, a, dx, fs, ex, ea, l, q⟩ => ?_) ht
  subst ex
  obtain rfl : u = Value.ref a := rx
  refine getmeth_ok I1 ea c hm l ?_
  refine PySem.W.callWith_K (first := [.ref a]) (h₀ := X.base) I.ok.mod.kin hm.kp (thn (ha pos pins s1 σ H1 _ I1 q) fun us s2 ⟨vs, H2, I2, r, q2⟩ => ⟨I2.kIn, ?_⟩) hst hpl
  exact run_fn (us := .ref a :: us) (vs := .ref a :: vs) F hr hb hd hx I2 (.cons rfl r) q2
structure Mk (K : PySem.W.Frag) (C f : Addr) : Prop where
  makes : PySem.W.makesIn K C = true
  init : PySem.W.findIn K (.ref C) "__init__" = some (some (.ref f))
  fn : PySem.W.isFn K (.ref f) = true
  kp : PySem.W.keepIn K (.ref C) = true
theorem run_make {pins : List (Addr × Obj)} {σ : St} {H : Hp} {s : Shared} {Q : VK} {us : List Value} {vs : List V} (M : Mk X.K C f) (F : FnOk X.prog X.w X.K X.mg X.base CX k f fd ps sp) (hr : Room (k + 1) X.A) (hb : Binds X.K fd ps ds) (hd : Vals dvs ds)
    (hx : Passes CX X E) (I : Inv X pins σ H s) (r : Vals vs us)
    (h : ∀ x dx, H x = none → H dx = none → dx ≠ x → sp (.ref x :: (vs ++ dvs)) (upd (upd H dx (.own x)) x (.ins C dx [])) (fun v H2 => v = .non ∧ Q (.ref x) H2) E) :
    wpAny (model X.prog X.w) X.A (call (.ref C) us) (EP X pins σ Q) X.xe s := by
  have hq := h (s.heap.objs.size + 1) s.heap.objs.size (I.hok.fresh (Nat.le_succ _)) (I.hok.fresh (Nat.le_refl _)) (Nat.ne_of_lt (Nat.lt_succ_self _))
  have I2 := Inv.made (C := C) I
  have r2 : Vals (V.ref (s.heap.objs.size + 1) :: (vs ++ dvs)) (Value.ref (s.heap.objs.size + 1) :: (us ++ ds)) := .cons rfl (r.append hd)
  have hl : (Value.ref (s.heap.objs.size + 1) :: us ++ ds).length = ps.length := by
    have e := r2.length
    rw [F.len _ _ _ _ hq] at e
    exact e.symm
  refine wpAny_call (make_map (f := f) I.kIn M.makes M.init (beq_iff_eq.mp M.fn) (codeAny_mono (F.run _ X.stack _ _ ⟨Value.ref (s.heap.objs.size + 1) :: us, []⟩ (Value.ref (s.heap.objs.size + 1) :: (us ++ ds)) _ _ E (hr.make C us [])
    (I2.env0.make C us []) (hb _ (Value.ref (s.heap.objs.size + 1) :: us) I2.kIn hl) r2 hq) fun r s' hq' => ?_))
  cases r with
  | error e => exact hx pins σ _ _ e s' I2 hq'
  | ok fl =>
    cases fl with
    | ret u =>
      obtain ⟨v, H', I3, rv, ev, q3⟩ := I2.after hq'
      subst ev
      exact ⟨rv, ⟨V.ref (s.heap.objs.size + 1), H', I3, rfl, q3⟩⟩
    | next => exact False.elim hq'
    | brk => exact False.elim hq'
    | cont => exact False.elim hq'
theorem pe_make (M : Mk X.K C f) (F : FnOk X.prog X.w X.K X.mg X.base CX k f fd ps sp) (hr : Room (k + 1) X.A) (hg : Gl X x) (hm : X.mg x = some (.ref C)) (hb : Binds X.K fd ps ds) (hd : Vals dvs ds) (hx : Passes CX X E)
    (ha : PA X (e :: es) t) (hdb : (x == ("__debug__" : Str)) = false := by decide) (he : starEach (e :: es) X.env = (false, eval e X.env) :: starEach es X.env := by rfl) (hpl : (backTo pos (starEach es X.env)).any (·.1) = false := by rfl) :
    PE X (.Call (.Name x p) (e :: es) [] pos) (tMake C sp dvs E t) := by
  intro pins s σ H Q I h
  refine wpAny_Call_Name_kw (ld_glob I hg hm ?_ hdb)
  refine PySem.W.callWith_K (h₀ := X.base) I.ok.mod.kin M.kp (thn (ha pos pins s σ H _ I h) fun us s1 ⟨vs, H1, I1, r, q⟩ => ⟨I1.kIn, ?_⟩) he hpl
  exact run_make M F hr hb hd hx I1 r q
end
def PK (X : Cx) (kws : List Keyword) (t : TA) : Prop :=
  ∀ (pos : Pos) (pins : List (Addr × Obj)) (s : Shared) (σ : St) (H : Hp) (Q : List V → Hp → Prop), Inv X pins σ H s → t σ H Q → wpAny (model X.prog X.w) X.A (evalAll ((backToKw pos (keywordEach kws X.env)).map (·.2))) (AP X pins σ Q) X.xe s
section
variable {X : Cx} {CX : CXT} {k : Nat} {f C : Addr} {fd : FuncData} {ps ks : List Str} {sp : Sp} {E : XK} {x m : Str} {p pos apos kpos : Pos} {e o : Expr} {es : List Expr} {kws : List Keyword} {te ta : TE} {t tk : TA} {nm : Option Str}
structure KBinds (K : PySem.W.Frag) (fd : FuncData) (ps ks : List Str) (g : List Value → List Value → List Value) (gV : List V → List V → List V) : Prop where
  to : ∀ (s : Shared) (us ws : List Value), K.In s.heap → (g us ws).length = ps.length → BindsTo s fd ⟨us, ks.zip ws⟩ (ps.zip (g us ws))
  rel : ∀ {vs : List V} {us : List Value} {zs : List V} {ws : List Value}, Vals vs us → Vals zs ws → Vals (gV vs zs) (g us ws)
def tCallK (sp : Sp) (gV : List V → List V → List V) (E : XK) (t tk : TA) : TE := fun σ H Q => t σ H fun vs H1 => tk σ H1 fun zs H2 => sp (gV vs zs) H2 Q E
variable {g : List Value → List Value → List Value} {gV : List V → List V → List V}
end
structure FnScope (N P : List Str) (sc : Scope) : Prop where
  kind : sc.kind = .function
  co : sc.isCoroutine = false
  gen : sc.isGenerator = false
  nd : N.Nodup
  pre : N.take P.length = P
  par : ∀ x ∈ P, sc.names.lookup x = some .local ∨ sc.names.lookup x = some .cell
  nofree : ∀ y ∈ sc.names, y.2 ≠ .free
theorem bindL_out {kindOf : Str → Option NameKind} {x : Str} : ∀ {binds : List (Str × Value)} {m : Str → Option Value}, (∀ v, (x, v) ∉ binds) → bindL kindOf binds m x = m x
  | [], _, _ => rfl
  | (n, v) :: r, m, h => by
    unfold bindL
    rw [bindL_out fun w hw => h w (List.mem_cons_of_mem _ hw)]
    split
    · have : x ≠ n := by rintro rfl; exact h v List.mem_cons_self
      simp [this]
    · rfl
theorem bindC_out {kindOf : Str → Option NameKind} {x : Str} : ∀ {binds : List (Str × Value)} {m : Str → Option Value}, (∀ v, (x, v) ∉ binds) → bindC kindOf binds m x = m x
  | [], _, _ => rfl
  | (n, v) :: r, m, h => by
    unfold bindC
    rw [bindC_out fun w hw => h w (List.mem_cons_of_mem _ hw)]
    split
    · rfl
    · have : x ≠ n := by rintro rfl; exact h v List.mem_cons_self
      simp [this]
theorem bindL_get {kindOf : Str → Option NameKind} {x : Str} {v : Value} : ∀ {P : List Str} {vs : List Value} {i : Nat} {m : Str → Option Value}, P.Nodup → P[i]? = some x → vs[i]? = some v → kindOf x = some .local →
    bindL kindOf (P.zip vs) m x = some v
  | [], _, _, _, _, h, _, _ => by simp at h
  | _ :: _, [], _, _, _, _, h, _ => by simp at h
  | p :: P, w :: vs, 0, m, nd, h1, h2, hk => by
    simp at h1 h2; subst h1; subst h2
    show bindL kindOf ((p, w) :: P.zip vs) m p = _
    unfold bindL
    rw [bindL_out fun v hv => (List.nodup_cons.mp nd).1 (List.of_mem_zip hv).1, if_pos hk]
    simp
  | p :: P, w :: vs, i + 1, m, nd, h1, h2, hk => by
    show bindL kindOf ((p, w) :: P.zip vs) m x = _
    unfold bindL
    exact bindL_get (i := i) (List.nodup_cons.mp nd).2 (by simpa using h1) (by simpa using h2) hk
theorem bindC_get {kindOf : Str → Option NameKind} {x : Str} {v : Value} : ∀ {P : List Str} {vs : List Value} {i : Nat} {m : Str → Option Value}, P.Nodup → P[i]? = some x → vs[i]? = some v → kindOf x ≠ some .local →
    bindC kindOf (P.zip vs) m x = some v
  | [], _, _, _, _, h, _, _ => by simp at h
  | _ :: _, [], _, _, _, _, h, _ => by simp at h
  | p :: P, w :: vs, 0, m, nd, h1, h2, hk => by
    simp at h1 h2; subst h1; subst h2
    show bindC kindOf ((p, w) :: P.zip vs) m p = _
    unfold bindC
    rw [bindC_out fun v hv => (List.nodup_cons.mp nd).1 (List.of_mem_zip hv).1, if_neg hk]
    simp
  | p :: P, w :: vs, i + 1, m, nd, h1, h2, hk => by
    show bindC kindOf ((p, w) :: P.zip vs) m x = _
    unfold bindC
    exact bindC_get (i := i) (List.nodup_cons.mp nd).2 (by simpa using h1) (by simpa using h2) hk
def start (N : List Str) (vs : List V) : St := vs.map some ++ List.replicate (N.length - vs.length) none
def cxOf (CX : CXT) (P : Program) (w : World) (K : PySem.W.Frag) (mg : Str → Option Value) (base : Heap) (N : List Str) (qual : Str) (scope : Scope) (f : Addr) (cd : Value) (A : Around) (outer : List Env) (s : Shared) (H : Hp) (E : XK) : Cx where
  prog := P
  w := w
  K := K
  mg := mg
  base := base
  A := A.deeper (envOfC qual scope s.heap.objs.size f cd)
  N := N
  s₀ := s
  H₀ := H
  env := envOfC qual scope s.heap.objs.size f cd
  outer := outer
  stack := envOfC qual scope s.heap.objs.size f cd :: outer
  ex := []
  calm := true
  fn := fun _ => true
  pn := []
  xe := fun e s' => wpAny (model P w) (A.deeper (envOfC qual scope s.heap.objs.size f cd)) (leaving (envOfC qual scope s.heap.objs.size f cd) e) (fun _ s'' => CX outer H s E e s'') (fun e' s'' => CX outer H s E e' s'') s'
theorem cell_has {sc : Scope} {n : Nat} {x : Str} (h : sc.names.lookup x = some .cell) : ∃ c, (cellsFrom n sc.names []).lookup x = some c := by
  have q := PySem.W.cellsFrom_some sc.names n [] (.inl h)
  exact Option.isSome_iff_exists.mp q
theorem inv_start {CX : CXT} {P : Program} {w : World} {K : PySem.W.Frag} {mg : Str → Option Value} {base : Heap} {N ps : List Str} {qual : Str} {scope : Scope} {f : Addr} {cd : Value} {A : Around} {outer : List Env} {s s1 : Shared} {H : Hp} {E : XK} {us : List Value} {vs : List V}
    (S : FnScope N ps scope) (hd : A.handled = none) (e0 : Env0 P w K mg base A outer s H) (hl : vs.length = ps.length) (r : Vals vs us)
    (x : InCallC s s.heap.objs.size (bindL (envOfC qual scope s.heap.objs.size f cd).kindOf (ps.zip us) fun _ => none) (cellsFrom (s.heap.objs.size + 1) scope.names []) (bindC (envOfC qual scope s.heap.objs.size f cd).kindOf (ps.zip us) fun _ => none) s1) :
    Inv (cxOf CX P w K mg base N qual scope f cd A outer s H E) [] (start N vs) H s1 := by
  have hpl : ps.length ≤ N.length := by have := congrArg List.length S.pre; rw [List.length_take] at this; omega
  obtain ⟨h1, tk, rfl, hk⟩ := x.done
  have noA : ∀ b : Addr, b ∉ (cxOf CX P w K mg base N qual scope f cd A outer s H E).ex := fun b z => absurd (show b ∈ ([] : List Addr) from z) (by simp)
  refine ⟨⟨e0.mod, S.kind, rfl, rfl, Nat.le_refl _, fun y z c h1 h2 => ?_, fun y hy => ?_, fun y c _ h => ?_, fun _ => hd, Around.frames_deeper e0.frames, .inr ⟨rfl, rfl⟩, fun b z => absurd z (noA b), e0.bs, e0.bsz, fun b _ _ => noA b, fun b z => absurd z (noA b), e0.funs, e0.frf⟩,
    rfl, e0.bare, Un.kept hk, ⟨_, x.toInCall.ns, fun i y v h1 h2 h3 => ?_⟩, fun y c h => ⟨_, x.cell y c h⟩, e0.hok.fresh (Nat.le_refl _), fun y c h => ?_, fun p hp => absurd (show p ∈ ([] : List (Addr × Obj)) from hp) (by simp), e0.hok.kept hk, ?_⟩
  · exact name_of_addr x.apart (PySem.mem_of_lookup h1) (PySem.mem_of_lookup h2)
  · have hy : scope.names.lookup y = some .cell ∨ scope.names.lookup y = some .free := hy
    rcases hy with hy | hy
    · exact cell_has hy
    · exact absurd rfl (S.nofree _ (PySem.mem_of_lookup hy))
  · exact Nat.le_of_lt (x.above y c (PySem.mem_of_lookup h))
  · have hi : i < vs.length := by
      unfold start at h2
      by_cases hi : i < vs.length
      · exact hi
      · rw [List.getElem?_append_right (by simpa using hi)] at h2
        rw [List.getElem?_replicate] at h2
        split at h2 <;> cases h2
    have ha : vs[i]? = some v := by
      unfold start at h2
      rw [List.getElem?_append_left (by simpa using hi), List.getElem?_map] at h2
      cases e : vs[i]? with
      | none => rw [e] at h2; cases h2
      | some a => rw [e] at h2; cases h2; rfl
    obtain ⟨u, hu, rv⟩ := r.get ha
    have hp : ps[i]? = some y := by
      rw [← S.pre, List.getElem?_take_of_lt (by omega)]; exact h1
    have ndP : ps.Nodup := by rw [← S.pre]; exact S.nd.sublist (List.take_sublist _ _)
    refine ⟨u, rv, ?_⟩
    rcases S.par y (List.mem_of_getElem? hp) with k | k
    · exact .inl ⟨k, bindL_get ndP hp hu k⟩
    · obtain ⟨c, e⟩ := cell_has (n := s.heap.objs.size + 1) k
      refine .inr ⟨.inl k, c, e, ?_⟩
      have q := x.cell y c e
      rw [bindC_get ndP hp hu (by show scope.names.lookup y ≠ _; rw [k]; decide)] at q
      exact q
  · exact e0.hok.fresh (Nat.le_of_lt (x.above y c (PySem.mem_of_lookup h)))
  · unfold start
    show _ = N.length
    rw [List.length_append, List.length_map, List.length_replicate]
    omega
theorem fn_of {CX : CXT} {P : Program} {w : World} {K : PySem.W.Frag} {mg : Str → Option Value} {base : Heap} {k : Nat} {f : Addr} {name qual : Str} {params : Arguments} {body : List Stmt} {scope : Scope} {dV kV doc pm cdv ct oc : Value} {an od : Option Addr}
    {osl : Array (Option Value)} {N ps : List Str} {sp : Sp} (lk : K.lookup f = some ⟨oc, od, .func (PySem.W.fnOf name qual params body scope dV kV doc pm an cdv ct), osl⟩) (hcd : PySem.W.codeIn K cdv qual = true) (S : FnScope N ps scope)
    (len : ∀ vs H Q E, sp vs H Q E → vs.length = ps.length)
    (hbody : ∀ (A : Around) (outer : List Env) (s : Shared) (H : Hp) (vs : List V) (Q : VK) (E : XK), Room k (A.deeper (envOfC qual scope s.heap.objs.size f cdv)) → sp vs H Q E →
      ∃ t, PSs (cxOf CX P w K mg base N qual scope f cdv A outer s H E) body t ∧ t { nx := fun _ H' => Q .non H', rt := Q } (start N vs) H) :
    FnOk P w K mg base CX (k + 1) f (PySem.W.fnOf name qual params body scope dV kV doc pm an cdv ct) ps sp := by
  refine ⟨len, fun A outer s H args us vs Q E hr e0 hb r hsp => ?_⟩
  have hl := len _ _ _ _ hsp
  have KX : K.In s.heap := e0.mod.kin.keeps fun b o e => (e0.bs b o e).1
  have lim : s.heap.NoLimit := e0.mod.nolimit.keeps fun b o e => (e0.bs b o e).1
  have hkind : ∀ y ∈ ps.zip us, scope.names.lookup y.1 = some .local ∨ (scope.names.lookup y.1 = some .cell ∧ ((cellsFrom (s.heap.objs.size + 1) scope.names []).lookup y.1).isSome = true) := fun ⟨n, v⟩ hy => by
    rcases S.par n (List.of_mem_zip hy).1 with q | q
    · exact .inl q
    · exact .inr ⟨q, PySem.W.cellsFrom_some _ _ _ (.inl q)⟩
  refine codeAny_call_function hr.depth (KX _ _ lk) rfl S.co S.gen rfl (PySem.W.codeRec_of KX hcd) (hb _ _ _ _ ?_)
  refine wpAny_newFunctionEnv_cells S.kind hkind fun env he s1 x => ?_
  subst he
  refine ⟨lim.keeps x.toInCall.keep, codeAny_func ?_⟩
  obtain ⟨t, ht, hq⟩ := hbody A outer s H vs Q E (hr.deeper _) hsp
  have I : Inv (cxOf CX P w K mg base N qual scope f cdv A outer s H E) [] (start N vs) H s1 := inv_start S hr.hd e0 hl r x
  refine wpAny_mono (ht [] s1 (start N vs) H _ I hq) (fun fl s' hs => ?_) fun e s' hs => hs
  have fin : ∀ {σ' : St} {H' : Hp} {v : V} {u : Value}, Inv (cxOf CX P w K mg base N qual scope f cdv A outer s H E) [] σ' H' s' → RelV v u → Q v H' → CE outer P w H s Q u s' :=
    fun {σ' H' v u} J rv q => ⟨v, H', J.os, J.bare, J.base, J.hok, rv, q⟩
  cases fl with
  | ret u =>
    obtain ⟨v, σ', H', J, rv, q⟩ := hs
    exact fin J rv q
  | next =>
    obtain ⟨σ', H', J, q⟩ := hs
    exact fin (v := V.non) (u := Value.none) J rfl q
  | brk =>
    obtain ⟨_, _, _, q⟩ := hs
    exact False.elim q
  | cont =>
    obtain ⟨_, _, _, q⟩ := hs
    exact False.elim q
end L2
namespace L2
open PySem PySem.Spec PyProof.Rows
section
variable {X : Cx} {x : Str} {p pos : Pos} {e : Expr} {es : List Expr} {t : TA} {id T : String} {r : List V → Hp → VK → Prop}
def tCB (r : List V → Hp → VK → Prop) (t : TA) : TE := fun σ H Q => t σ H fun vs H1 => r vs H1 Q
theorem pe_callB (hc : CallR X (.builtin id) r) (hg : Gl X x) (hm : X.mg x = none) (hv : bootBuiltins x = some (.builtin id)) (ha : PA X (e :: es) t) (hn : x ≠ "__name__" := by decide) (hdb : (x == ("__debug__" : Str)) = false := by decide)
    (he : starEach (e :: es) X.env = (false, eval e X.env) :: starEach es X.env := by rfl) (hpl : (backTo pos (starEach es X.env)).any (·.1) = false := by rfl) : PE X (.Call (.Name x p) (e :: es) [] pos) (tCB r t) := by
  intro pins s σ H Q I h
  refine wpAny_Call_Name_kw (ld_blt I hg hm hv ?_ hn hdb)
  exact PyProof.Rows.callWith_builtin1 (thn (ha pos pins s σ H _ I h) fun us s1 ⟨vs, H1, I1, r1, q1⟩ => hc pins s1 σ H1 vs us Q I1 r1 q1) he hpl
theorem pe_callTy (hc : CallR X (.type T) r) (hg : Gl X x) (hm : X.mg x = none) (hv : bootBuiltins x = some (.type T)) (ha : PA X (e :: es) t) (hn : x ≠ "__name__" := by decide) (hdb : (x == ("__debug__" : Str)) = false := by decide)
    (he : starEach (e :: es) X.env = (false, eval e X.env) :: starEach es X.env := by rfl) (hpl : (backTo pos (starEach es X.env)).any (·.1) = false := by rfl) : PE X (.Call (.Name x p) (e :: es) [] pos) (tCB r t) := by
  intro pins s σ H Q I h
  refine wpAny_Call_Name_kw (ld_blt I hg hm hv ?_ hn hdb)
  exact PyProof.Rows.callWith_type1 (thn (ha pos pins s σ H _ I h) fun us s1 ⟨vs, H1, I1, r1, q1⟩ => hc pins s1 σ H1 vs us Q I1 r1 q1) he hpl
end
end L2
namespace HT
open PySem PyProof.Rows
def lexLt : List Int → List Int → Bool
  | [], [] => false
  | [], _ :: _ => true
  | _ :: _, [] => false
  | x :: xs, y :: ys => if x = y then lexLt xs ys else decide (x < y)
section
open PySem.SeqAt
open PySem.AutoSeq1 (wpAny_loadPart')
open PySem.MeetsSeq PySem.MeetsSeq2 PySem.MeetsSeq3
end
section
variable {prog : Program} {w : World} {A : Around} {E : Value → Shared → Prop} {s : Shared}
def sIx (n d : Nat) : Option Int → Nat
  | none => d
  | some v => if v < 0 then (v + (n : Int)).toNat else min v.toNat n
theorem sIx_none (n d : Nat) : sIx n d none = d := rfl
theorem sIx_nat (n d k : Nat) : sIx n d (some (k : Int)) = min k n := by
  show (if (k : Int) < 0 then ((k : Int) + (n : Int)).toNat else min (k : Int).toNat n) = min k n
  rw [if_neg (by omega), Int.toNat_natCast]
end
end HT
namespace L2
open PySem PySem.Spec PyProof.Rows
abbrev TO := St → Hp → (Option Int → Hp → Prop) → Prop
def PO (X : Cx) (e : Option Expr) (t : TO) : Prop :=
  ∀ (pins : List (Addr × Obj)) (s : Shared) (σ : St) (H : Hp) (Q : Option Int → Hp → Prop), Inv X pins σ H s → t σ H Q →
    wpAny (model X.prog X.w) X.A (evalPart e X.env) (fun u s' => ∃ o H', Inv X pins σ H' s' ∧ IsPart u o ∧ Q o H') X.xe s
def tNoPart : TO := fun _ H Q => Q none H
def tPart (t : TE) : TO := fun σ H Q => t σ H fun x H1 => ∃ i, x = .int i ∧ Q (some i) H1
theorem intsAre_of {ns : List Int} : ∀ {us : List Value}, Vals (ns.map V.int) us → IntsAre us ns := by
  induction ns with
  | nil => intro us r; rw [List.map_nil] at r; cases r; exact .nil
  | cons n ns ih =>
    intro us r
    rw [List.map_cons] at r
    cases r with
    | cons r1 r2 =>
      obtain ⟨t, e⟩ := r1
      subst e
      exact .cons n t (ih r2)
section
variable {X : Cx} {e : Expr} {te : TE} {lo hi : Option Expr} {tl th : TO} {pos p2 : Pos}
theorem po_none : PO X none tNoPart := by
  intro pins s σ H Q I h
  rw [evalPart_none]
  exact wpAny_pure ⟨none, H, I, .none, h⟩
theorem po_some (h : PE X e te) : PO X (some e) (tPart te) := by
  intro pins s σ H Q I hw
  rw [evalPart_some]
  refine thn (h pins s σ H _ I hw) fun u s1 ⟨x, H1, I1, r1, q1⟩ => ?_
  obtain ⟨i, rfl, q⟩ := q1
  obtain ⟨t, rfl⟩ := r1
  exact ⟨some i, H1, I1, .int i t, q⟩
def SlR (X : Cx) (r : V → Option Int → Option Int → Hp → VK → Prop) : Prop :=
  ∀ (pins : List (Addr × Obj)) (s : Shared) (σ : St) (H : Hp) (x : V) (v vl vu : Value) (lo hi : Option Int) (sl : Addr) (Q : VK), Inv X pins σ H s → RelV x v → s.heap.IsSliceOf sl vl vu .none → IsPart vl lo → IsPart vu hi → r x lo hi H Q →
    ∃ T id, typeLookup (.type T) "__getitem__" = pure (some (.builtin id)) ∧ s.TypeIs v T ∧ wpAny (model X.prog X.w) X.A (getItem v (.ref sl)) (EP X pins σ Q) X.xe s
theorem SlR.or {r r' : V → Option Int → Option Int → Hp → VK → Prop} (h : SlR X r) (h' : SlR X r') : SlR X (fun x lo hi H Q => r x lo hi H Q ∨ r' x lo hi H Q) := by
  intro pins s σ H x v vl vu lo hi sl Q I rx hs pl pu q
  rcases q with q | q
  · exact h pins s σ H x v vl vu lo hi sl Q I rx hs pl pu q
  · exact h' pins s σ H x v vl vu lo hi sl Q I rx hs pl pu q
def tSl (r : V → Option Int → Option Int → Hp → VK → Prop) (te : TE) (tl th : TO) : TE := fun σ H Q => te σ H fun x H1 => tl σ H1 fun l H2 => th σ H2 fun u H3 => r x l u H3 Q
theorem pe_slice {r : V → Option Int → Option Int → Hp → VK → Prop} (hr : SlR X r) (he : PE X e te) (hl : PO X lo tl) (hu : PO X hi th) : PE X (.Subscript e (.Slice lo hi none p2) pos) (tSl r te tl th) := by
  intro pins s σ H Q I h
  refine Subscript_ (thn (he pins s σ H _ I h) fun v s1 ⟨x, H1, I1, r1, q1⟩ => ?_)
  refine wpAny_Slice (thn (hl pins s1 σ H1 _ I1 q1) fun vl s2 ⟨l, H2, I2, pl, q2⟩ => thn (hu pins s2 σ H2 _ I2 q2) fun vu s3 ⟨u, H3, I3, pu, q3⟩ => ?_)
  rw [evalPart_none]
  refine wpAny_pure ?_
  have I4 : Inv X pins σ H3 { s3 with heap := s3.heap.push { cls := .type "slice", data := .fields #[vl, vu, .none] } } := I3.kept (t' := s3.toks) fun b ob q => Heap.get?_push_of_some _ q
  obtain ⟨T, id, hT, ht, hg⟩ := hr pins { s3 with heap := s3.heap.push { cls := .type "slice", data := .fields #[vl, vu, .none] } } σ H3 x v vl vu l u s3.heap.objs.size Q I4 r1 (Heap.IsSliceOf.new ..) pl pu q3
  show wpAny (model X.prog X.w) X.A (subscriptTail e (.Slice lo hi none p2) v (.ref s3.heap.objs.size)) (EP X pins σ Q) X.xe { s3 with heap := s3.heap.push { cls := .type "slice", data := .fields #[vl, vu, .none] } }
  exact tail_any (ops := [.ref s3.heap.objs.size, v]) ht hT hg (by with_unfolding_all rfl)
def cutV (xs : List V) (lo hi : Option Int) : List V := (xs.drop (HT.sIx xs.length 0 lo)).take (HT.sIx xs.length xs.length hi - HT.sIx xs.length 0 lo)
theorem cutV_length (xs : List V) (lo hi : Option Int) : (cutV xs lo hi).length ≤ xs.length := by
  unfold cutV
  rw [List.length_take, List.length_drop]
  omega
def rSlT (K : PySem.W.Frag) : V → Option Int → Option Int → Hp → VK → Prop := fun x lo hi H Q => ∃ a xs, x = .ref a ∧ SqT K H a xs ∧
  ¬ (HT.sIx xs.length 0 lo = 0 ∧ HT.sIx xs.length xs.length hi = xs.length) ∧ ∀ p, H p = none → Q (.ref p) (upd H p (.tup (cutV xs lo hi)))
def rLtT (K : PySem.W.Frag) : R2 := fun x y H Q => ∃ a b ns ms, x = .ref a ∧ y = .ref b ∧ SqT K H a (ns.map V.int) ∧ SqT K H b (ms.map V.int) ∧ Q (.bl (HT.lexLt ns ms)) H
def rCatT (K : PySem.W.Frag) : R2 := fun x y H Q => ∃ a b xs ys, x = .ref a ∧ y = .ref b ∧ SqT K H a xs ∧ SqT K H b ys ∧ xs ≠ [] ∧ xs.length + ys.length ≤ sizeLine ∧
  (ys = [] → Q (.ref a) H) ∧ (ys ≠ [] → ∀ p, H p = none → Q (.ref p) (upd H p (.tup (xs ++ ys))))
end
end L2
namespace L2
open PySem PySem.Spec PyProof.Rows
def ixN (n : Nat) (i : Int) : Option Nat := if 0 ≤ i then (if i < n then some i.toNat else none) else if -(n : Int) ≤ i then some (i + n).toNat else none
def atI {α : Type} (xs : List α) (i : Int) : Option α := (ixN xs.length i).bind fun j => xs[j]?
theorem ixN_seq {n : Nat} {i : Int} {j : Nat} (h : ixN n i = some j) : seqIndex? i n = some j ∧ j < n ∧ -(n : Int) ≤ i ∧ i < n := by
  unfold ixN at h
  by_cases h0 : 0 ≤ i
  · rw [if_pos h0] at h
    by_cases h1 : i < n
    · rw [if_pos h1] at h
      have e : i.toNat = j := Option.some.inj h
      exact ⟨by rw [seqIndex_of h0 h1, e], by omega, by omega, h1⟩
    · rw [if_neg h1] at h; cases h
  · rw [if_neg h0] at h
    by_cases h1 : -(n : Int) ≤ i
    · rw [if_pos h1] at h
      have e : (i + n).toNat = j := Option.some.inj h
      exact ⟨by rw [seqIndex_neg (by omega) h1, e], by omega, h1, by omega⟩
    · rw [if_neg h1] at h; cases h
theorem atI_get {α : Type} {xs : List α} {i : Int} {v : α} (h : atI xs i = some v) : ∃ j, seqIndex? i xs.length = some j ∧ xs[j]? = some v ∧ j < xs.length ∧ -(xs.length : Int) ≤ i ∧ i < xs.length := by
  unfold atI at h
  cases e : ixN xs.length i with
  | none => rw [e] at h; cases h
  | some j =>
    rw [e] at h
    obtain ⟨h1, h2, h3, h4⟩ := ixN_seq e
    exact ⟨j, h1, h, h2, h3, h4⟩
theorem atI_nat {α : Type} {xs : List α} {j : Nat} {v : α} (h : xs[j]? = some v) : atI xs (j : Int) = some v := by
  have hj : j < xs.length := (List.getElem?_eq_some_iff.mp h).1
  have e : ixN xs.length (j : Int) = some j := by
    unfold ixN
    rw [if_pos (by omega), if_pos (by omega)]; simp
  unfold atI; rw [e]; exact h
def PlainIx (b : Expr) : Prop := ∀ o i, subscripted b false o i = operate [o, i] (getItem o i)
def IxR (X : Cx) (r : R2) : Prop :=
  ∀ (value slice : Expr) (pins : List (Addr × Obj)) (s : Shared) (σ : St) (H : Hp) (x y : V) (v u : Value) (Q : VK), Inv X pins σ H s → RelV x v → RelV y u → r x y H Q →
    subscripted slice false v u = operate [v, u] (getItem v u) → wpAny (model X.prog X.w) X.A (subscriptTail value slice v u) (EP X pins σ Q) X.xe s
def MtR (X : Cx) (id : String) (r : V → List V → Hp → VK → Prop) : Prop :=
  ∀ (pins : List (Addr × Obj)) (s : Shared) (σ : St) (H : Hp) (x : V) (xs : List V) (v : Value) (us : List Value) (Q : VK), Inv X pins σ H s → RelV x v → Vals xs us → r x xs H Q →
    wpAny (model X.prog X.w) X.A (call (.builtin id) (v :: us)) (EP X pins σ Q) X.xe s
section
variable {X : Cx} {a b : Expr} {ta tb : TE} {pos : Pos}
theorem IxR.or {r r' : R2} (h : IxR X r) (h' : IxR X r') : IxR X (fun x y H Q => r x y H Q ∨ r' x y H Q) := by
  intro value slice pins s σ H x y v u Q I rx ry q hs
  rcases q with q | q
  · exact h value slice pins s σ H x y v u Q I rx ry q hs
  · exact h' value slice pins s σ H x y v u Q I rx ry q hs
theorem MtR.or {id : String} {r r' : V → List V → Hp → VK → Prop} (h : MtR X id r) (h' : MtR X id r') : MtR X id (fun x xs H Q => r x xs H Q ∨ r' x xs H Q) := by
  intro pins s σ H x xs v us Q I rx rs q
  rcases q with q | q
  · exact h pins s σ H x xs v us Q I rx rs q
  · exact h' pins s σ H x xs v us Q I rx rs q
theorem pe_ix {r : R2} (hr : IxR X r) (ha : PE X a ta) (hb : PE X b tb) (hs : PlainIx b) : PE X (.Subscript a b pos) (tOp r ta tb) := by
  intro pins s σ H Q I h
  exact Subscript_ (binT ha hb I h fun v u s2 x y H2 I2 rx ry q => hr a b pins s2 σ H2 x y v u Q I2 rx ry q (hs _ _))
def rIxL (K : PySem.W.Frag) : R2 := fun x y H Q => ∃ p xs i v, x = .ref p ∧ y = .int i ∧ SqL K H p xs ∧ atI xs i = some v ∧ Q v H
def rIxT (K : PySem.W.Frag) : R2 := fun x y H Q => ∃ p xs i v, x = .ref p ∧ y = .int i ∧ SqT K H p xs ∧ atI xs i = some v ∧ Q v H
def rIxS : R2 := fun x y H Q => ∃ z i c, x = .str z ∧ y = .int i ∧ z.length ≤ sizeLine ∧ atI z.cps.toList i = some c ∧ Q (.str ⟨#[c]⟩) H
theorem ix_list : IxR X (rIxL X.K) := by
  intro value slice pins s σ H x y v u Q I rx ry h hs
  obtain ⟨p, xs, i, z, rfl, rfl, hq, he, q⟩ := h
  cases rx
  obtain ⟨t, rfl⟩ := ry
  obtain ⟨its, r, pl, hz⟩ := I.list hq
  obtain ⟨j, h1, h2, h3, h4, h5⟩ := atI_get he
  obtain ⟨w, ew, rw'⟩ := r.get h2
  have hl := r.length
  have hn := line63
  have fin : EP X pins σ Q w s := ⟨z, H, I, rw', q⟩
  by_cases h0 : 0 ≤ i
  · have hj : i.toNat = j := by
      rw [seqIndex_of h0 h5] at h1
      exact Option.some.inj h1
    exact item_listR pl.isList h0 (by omega) (by rw [hj]; simpa using ew) fin hs
  · have hj : (i + (its.toArray.size : Int)).toNat = j := by
      rw [seqIndex_neg (by omega) h4] at h1
      rw [List.size_toArray, ← hl]
      exact Option.some.inj h1
    exact subscriptTail_builtinR (x := w) pl.isList.typeIs slot_list_getitem.lookup
      (wpAny_getItem_list_neg (Q := fun r s' => r = w ∧ EP X pins σ Q r s') pl.isList (by omega) (by rw [List.size_toArray] <;> omega) (by omega) (by rw [hj]; simpa using ew) ⟨rfl, fin⟩) hs
theorem ix_tup : IxR X (rIxT X.K) := by
  intro value slice pins s σ H x y v u Q I rx ry h hs
  obtain ⟨p, xs, i, z, rfl, rfl, hq, he, q⟩ := h
  cases rx
  obtain ⟨t, rfl⟩ := ry
  obtain ⟨its, r, pl, hz⟩ := I.tuple hq
  obtain ⟨j, h1, h2, h3, h4, h5⟩ := atI_get he
  obtain ⟨w, ew, rw'⟩ := r.get h2
  have hl := r.length
  have hn := line63
  have fin : EP X pins σ Q w s := ⟨z, H, I, rw', q⟩
  exact subscriptTail_builtinR (x := w) pl.typeIs slot_tuple_getitem.lookup
    (getItem_tuple (j := j) (Q := fun r s' => r = w ∧ EP X pins σ Q r s') pl (by omega) (by omega) (by rw [List.size_toArray, ← hl]; exact h1) (by simpa using ew) ⟨rfl, fin⟩) hs
def rIx (K : PySem.W.Frag) : R2 := fun x y H Q => rIxL K x y H Q ∨ rIxT K x y H Q ∨ rIxS x y H Q
theorem mapSeq_set (its : List Value) (n j : Nat) (u : Value) : Obj.mapSeq (·.setIfInBounds j u) { cls := .type "list", data := .seq its.toArray n } = { cls := .type "list", data := .seq (its.set j u).toArray n } := by
  simp [Obj.mapSeq]
theorem Inv.lst {pins : List (Addr × Obj)} {σ : St} {H : Hp} {s : Shared} {p : Addr} {xs : List V} (I : Inv X pins σ H s) (h : H p = some (.lst xs)) :
    ∃ (its : List Value) (n : Nat), Vals xs its ∧ s.heap.get? p = some { cls := .type "list", data := .seq its.toArray n } ∧ xs.length ≤ sizeLine := by
  obtain ⟨z, its, n, r, e⟩ := I.hok p _ h
  exact ⟨its, n, r, e, z⟩
theorem Inv.lstUpd {pins : List (Addr × Obj)} {σ : St} {H : Hp} {s : Shared} {p : Addr} {xs ys : List V} {its its' : List Value} {n n' : Nat} {f : Obj → Obj} (I : Inv X pins σ H s) (h : H p = some (.lst xs))
    (ho : s.heap.get? p = some { cls := .type "list", data := .seq its.toArray n }) (hf : f { cls := .type "list", data := .seq its.toArray n } = { cls := .type "list", data := .seq its'.toArray n' }) (r : Vals ys its') (hz : ys.length ≤ sizeLine) (t : Nat) :
    Inv X pins σ (upd H p (.lst ys)) { s with heap := s.heap.update p f, toks := t } := by
  have e : (s.heap.update p f).get? p = some { cls := .type "list", data := .seq its'.toArray n' } := by
    rw [Heap.get?_update_self f ho (by rw [hf] <;> rfl), hf]
  refine I.write (x := p) (e := p) (by rw [h]; trivial) (.inl rfl) (fun b u hb q => (Heap.get?_update_other _ _ (Ne.symm hb)).trans q) ⟨_, e⟩ ?_
  exact ⟨hz, its', n', r, e⟩
def rSetL : V → V → V → Hp → (Hp → Prop) → Prop := fun o i v H Q => ∃ p xs k j, o = .ref p ∧ i = .int k ∧ H p = some (.lst xs) ∧ ixN xs.length k = some j ∧ Q (upd H p (.lst (xs.set j v)))
theorem set_list : PSet X rSetL := by
  intro pins s σ H o i v ov iv u Q I ro ri rv h
  obtain ⟨p, xs, k, j, rfl, rfl, hp, hj, q⟩ := h
  cases ro
  obtain ⟨t, rfl⟩ := ri
  obtain ⟨its, n, r, ho, hz⟩ := I.lst hp
  obtain ⟨h1, h2, h3, h4⟩ := ixN_seq hj
  have hl := r.length
  have hn := line63
  have I' : Inv X pins σ (upd H p (.lst (xs.set j v))) { s with heap := s.heap.update p (Obj.mapSeq (·.setIfInBounds j u)) } :=
    I.lstUpd hp ho (mapSeq_set its n j u) (r.set rv j) (by rw [List.length_set]; exact hz) s.toks
  by_cases h0 : 0 ≤ k
  · have hk : k.toNat = j := by
      rw [seqIndex_of h0 h4] at h1
      exact Option.some.inj h1
    exact PySem.W.ki_setAt ho h0 (by omega) (by rw [List.size_toArray, ← hl]; exact h4) (by rw [hk]; exact ⟨_, I', q⟩)
  · have hk : (k + (its.toArray.size : Int)).toNat = j := by
      rw [seqIndex_neg (by omega) h3] at h1
      rw [List.size_toArray, ← hl]
      exact Option.some.inj h1
    exact PySem.W.ki_setBack ho (by omega) (by rw [List.size_toArray, ← hl]; exact h3) (by omega) (by rw [hk]; exact ⟨_, I', q⟩)
theorem slice_bounds (lo hi : Option Int) (n : Nat) : (sliceBounds lo hi none n).1 = ((HT.sIx n 0 lo : Nat) : Int) ∧ (sliceBounds lo hi none n).2.1 = ((HT.sIx n n hi : Nat) : Int) ∧ (sliceBounds lo hi none n).2.2 = 1 := by
  refine ⟨?_, ?_, rfl⟩
  · cases lo with
    | none => simp [sliceBounds, HT.sIx]
    | some i =>
      simp only [sliceBounds, HT.sIx, Option.getD_none, show (1 : Int) > 0 by decide, if_true]
      by_cases h : i < 0
      · simp only [h, if_true] <;> omega
      · simp only [h, if_false] <;> omega
  · cases hi with
    | none => simp [sliceBounds, HT.sIx]
    | some i =>
      simp only [sliceBounds, HT.sIx, Option.getD_none, show (1 : Int) > 0 by decide, if_true]
      by_cases h : i < 0
      · simp only [h, if_true] <;> omega
      · simp only [h, if_false] <;> omega
theorem slicePick_cut (its : List Value) (lo hi : Option Int) : slicePick its.toArray lo hi none = ((its.drop (HT.sIx its.length 0 lo)).take (HT.sIx its.length its.length hi - HT.sIx its.length 0 lo)).toArray := by
  obtain ⟨h1, h2, h3⟩ := slice_bounds lo hi its.toArray.size
  unfold slicePick
  rw [h1, h2, h3]
  simp only [sliceRange_one, pick_run, List.size_toArray] <;> rfl
def rSlL (K : PySem.W.Frag) : V → Option Int → Option Int → Hp → VK → Prop := fun x lo hi H Q => ∃ a xs, x = .ref a ∧ SqL K H a xs ∧ ∀ p, H p = none → Q (.ref p) (upd H p (.lst (cutV xs lo hi)))
theorem sl_list : SlR X (rSlL X.K) := by
  intro pins s σ H x v vl vu lo hi sl Q I rx hs pl pu h
  obtain ⟨a, xs, rfl, hx, q⟩ := h
  cases rx
  obtain ⟨its, r, ht, hz⟩ := I.list hx
  have hlen := r.length
  refine ⟨"list", _, slot_list_getitem.lookup, ht.isList.typeIs, ?_⟩
  refine wpAny_getItem_list_slice ht.isList hs pl pu .none (by simp) ?_ (by rw [List.size_toArray] <;> omega)
  rw [slicePick_cut, ← hlen]
  refine ⟨.ref s.heap.objs.size, _, I.laid (t' := s.toks) (o := .lst (cutV xs lo hi)) (fun b ob q => Heap.get?_push_of_some _ q) (Nat.le_refl _) ?_, rfl, q _ (I.hok.fresh (Nat.le_refl _))⟩
  exact ⟨Nat.le_trans (cutV_length xs lo hi) hz, _, 0, (r.drop (HT.sIx xs.length 0 lo)).take (HT.sIx xs.length xs.length hi - HT.sIx xs.length 0 lo), Heap.get?_push_size _ rfl⟩
def flatV : V → Bool
  | .non => true
  | .bl _ => true
  | .int _ => true
  | .str _ => true
  | _ => false
def eqV : V → V → Bool
  | .non, .non => true
  | .bl a, .bl b => a == b
  | .bl a, .int b => (if a then 1 else 0) == b
  | .int a, .bl b => a == (if b then 1 else 0)
  | .int a, .int b => a == b
  | .str a, .str b => a == b
  | _, _ => false
def eqU (x : V) (u : Value) : Bool := match u with
  | .none => eqV .non x
  | .bool b => eqV (.bl b) x
  | .int i _ => eqV (.int i) x
  | .str z _ => eqV (.str z) x
  | _ => false
def inV (x : V) (xs : List V) : Bool := xs.any fun y => eqV y x
def rIn (K : PySem.W.Frag) (neg : Bool) : R2 := fun x y H Q => ∃ p xs, y = .ref p ∧ (SqL K H p xs ∨ SqT K H p xs) ∧ flatV x = true ∧ xs.all flatV = true ∧ Q (.bl (if neg then !inV x xs else inV x xs)) H
theorem call_len_seq : CallR X (.builtin "len") (fun xs H Q => ∃ p ys, xs = [.ref p] ∧ (SqL X.K H p ys ∨ SqT X.K H p ys) ∧ Q (.int ys.length) H) := by
  intro pins s σ H xs us Q I r h
  obtain ⟨p, ys, rfl, hq, q⟩ := h
  obtain ⟨u, rfl, rx⟩ := vals1 r
  cases rx
  have hn := line63
  rcases hq with hq | hq
  · obtain ⟨its, r', pl, hz⟩ := I.list hq
    have hlen := r'.length
    exact Calls.call_len_list pl.isList (by simp only [List.size_toArray] <;> omega) ⟨.int ys.length, H, I.tok _, ⟨s.toks + 1, by rw [List.size_toArray, hlen]⟩, q⟩
  · obtain ⟨its, r', pl, hz⟩ := I.tuple hq
    have hlen := r'.length
    exact len_tuple pl (by simp only [List.size_toArray] <;> omega) ⟨.int ys.length, H, I.tok _, ⟨s.toks + 1, by rw [List.size_toArray, hlen]⟩, q⟩
theorem CallR.or {f : Value} {r r' : List V → Hp → VK → Prop} (h : CallR X f r) (h' : CallR X f r') : CallR X f (fun xs H Q => r xs H Q ∨ r' xs H Q) := by
  intro pins s σ H xs us Q I rs q
  rcases q with q | q
  · exact h pins s σ H xs us Q I rs q
  · exact h' pins s σ H xs us Q I rs q
theorem call_list_of : CallR X (.type "list") (fun xs H Q => ∃ p ys, xs = [.ref p] ∧ (SqL X.K H p ys ∨ SqT X.K H p ys) ∧ ∀ l, H l = none → Q (.ref l) (upd H l (.lst ys))) := by
  intro pins s σ H xs us Q I r h
  obtain ⟨p, ys, rfl, hq, q⟩ := h
  obtain ⟨u, rfl, rx⟩ := vals1 r
  cases rx
  have fin : ∀ (its : List Value), Vals ys its → ys.length ≤ sizeLine → ∀ (h' : Heap) (c' : Nat), (∀ b o', s.heap.get? b = some o' → h'.get? b = some o') →
      h'.get? s.heap.objs.size = some { cls := .type "list", dict := none, data := .seq its.toArray c', slots := #[] } → EP X pins σ Q (.ref s.heap.objs.size) { s with heap := h' } := fun its r' hz h' c' kp e =>
    ⟨.ref s.heap.objs.size, _, I.laid (t' := s.toks) kp (Nat.le_refl _) (show ObjOk X.prog X.w _ h' _ (.lst ys) from ⟨hz, its, c', r', e⟩), rfl, q _ (I.hok.fresh (Nat.le_refl _))⟩
  rcases hq with hq | hq
  · obtain ⟨its, r', pl, hz⟩ := I.list hq
    have hlen := r'.length
    obtain ⟨o, ho, hc, n, hd⟩ := pl.isList
    exact call_list_seq p (.inl rfl) ho hc hd (fun h' c' kp e => fin its r' hz h' c' kp e) (by simp only [List.size_toArray] <;> omega)
  · obtain ⟨its, r', pl, hz⟩ := I.tuple hq
    have hlen := r'.length
    obtain ⟨o, ho, hc, n, hd⟩ := pl
    exact call_list_seq p (.inr rfl) ho hc hd (fun h' c' kp e => fin its r' hz h' c' kp e) (by simp only [List.size_toArray] <;> omega)
def tyV (K : PySem.W.Frag) (T : String) (x : V) (H : Hp) : Prop := match x with
  | .str _ => T = "str"
  | .int _ => T = "int"
  | .ref p => (T = "list" ∧ ∃ xs, SqL K H p xs) ∨ (T = "tuple" ∧ ∃ o, K.lookup p = some o ∧ o.cls = .type "tuple" ∧ o.dict = none) ∨
      (T = "dict" ∧ ((∃ kvs, H p = some (.dK kvs)) ∨ ∃ kvs, H p = some (.dT kvs))) ∨ (T = "set" ∧ ∃ S n, H p = some (.set S n))
  | _ => False
theorem tyV_is {pins : List (Addr × Obj)} {σ : St} {H : Hp} {s : Shared} {T : String} {x : V} {v : Value} (I : Inv X pins σ H s) (r : RelV x v) (ty : tyV X.K T x H) :
    s.TypeIs v T ∧ ∀ a, v = .ref a → ∃ ob, s.heap.get? a = some ob ∧ ob.dict = none := by
  cases x with
  | str z =>
    obtain ⟨t, rfl⟩ := r
    cases (show T = "str" from ty)
    exact ⟨typeIs_str s z t, fun _ e => nomatch e⟩
  | int i =>
    obtain ⟨t, rfl⟩ := r
    cases (show T = "int" from ty)
    exact ⟨typeIs_int s i t, fun _ e => nomatch e⟩
  | ref p =>
    cases r
    rcases ty with ⟨rfl, xs, hq⟩ | ⟨rfl, o, hk, hc, hd⟩ | ⟨rfl, hk⟩ | ⟨rfl, S, n, hk⟩
    · obtain ⟨its, _, pl, _⟩ := I.list hq
      refine ⟨pl.isList.typeIs, fun a e => ?_⟩
      cases e
      obtain ⟨o, n, e, c, hd, _⟩ := pl
      exact ⟨o, e, hd⟩
    · refine ⟨⟨o, I.kIn p o hk, hc⟩, fun a e => ?_⟩
      cases e
      exact ⟨o, I.kIn _ o hk, hd⟩
    · have z : ∃ o, s.heap.get? p = some o ∧ o.ExactDict := by
        rcases hk with ⟨kvs, hk⟩ | ⟨kvs, hk⟩
        · obtain ⟨_, _, _, _, o, _, _, e, ex, _⟩ := I.hok p _ hk
          exact ⟨o, e, ex⟩
        · obtain ⟨_, _, _, _, o, _, _, e, ex, _⟩ := I.hok p _ hk
          exact ⟨o, e, ex⟩
      obtain ⟨o, e, ex⟩ := z
      refine ⟨⟨o, e, ex.1⟩, fun a e2 => ?_⟩
      cases e2
      exact ⟨o, e, ex.2.1⟩
    · obtain ⟨o, _, _, _, e, ex, _⟩ := I.hok p _ hk
      refine ⟨⟨o, e, ex.1⟩, fun a e2 => ?_⟩
      cases e2
      exact ⟨o, e, ex.2.1⟩
  | _ => exact False.elim ty
def tBM0 (K : PySem.W.Frag) (T : String) (r : V → List V → Hp → VK → Prop) (to : TE) : TE := fun σ H Q => to σ H fun x H1 => tyV K T x H1 ∧ r x [] H1 Q
def tBM (K : PySem.W.Frag) (T : String) (r : V → List V → Hp → VK → Prop) (to : TE) (t : TA) : TE := fun σ H Q => to σ H fun x H1 => tyV K T x H1 ∧ t σ H1 fun xs H2 => r x xs H2 Q
variable {o e : Expr} {es : List Expr} {to : TE} {t : TA} {name : Str} {apos cpos : Pos} {T id : String} {r : V → List V → Hp → VK → Prop}
theorem pe_bm (pa : PlainAttrs T) (slot : Slot T name id) (hty : typeOf (.builtin id) = pure (.type "method_descriptor")) (hm : MtR X id r) (ho : PE X o to) (ha : PA X (e :: es) t)
    (hbase : attributeBase o name X.env (eval o X.env) = eval o X.env := by rfl)
    (hfew : ((backTo cpos (starEach (e :: es) X.env)).all (fun x => !x.1) && (backToKw cpos (keywordEach [] X.env)).all (fun x => x.1.isSome)
      && decide ((e :: es).length + ([] : List Keyword).length + (if ([] : List Keyword).isEmpty then 0 else 1) < 30)) = true := by rfl)
    (hline : (apos.endLine == cpos.line) = true := by rfl) (hs : starEach (e :: es) X.env = (false, eval e X.env) :: starEach es X.env := by rfl) (hplain : (backTo cpos (starEach es X.env)).any (·.1) = false := by rfl) :
    PE X (.Call (.Attribute o name apos) (e :: es) [] cpos) (tBM X.K T r to t) := by
  intro pins s σ H Q I h
  refine wpAny_Call_method_late hbase hfew hline rfl (thn (ho pins s σ H _ I h) fun v s1 ⟨x, H1, I1, r1, ty, q1⟩ => ?_)
  obtain ⟨h1, h2⟩ := tyV_is I1 r1 ty
  refine ⟨T, id, pa, slot, hty, h1, h2, ?_⟩
  have hA := ha cpos pins s1 σ H1 _ I1 q1
  rw [hs] at hA ⊢
  refine Calls.callWith_builtin (by show (false || (backTo cpos (starEach es X.env)).any (·.1)) = false; rw [hplain] <;> rfl) (Calls.evalArgs_plain ?_)
  exact thn hA fun us s2 ⟨vs, H2, I2, r2, q2⟩ => hm pins s2 σ H2 x vs v us Q I2 r1 r2 q2
/- xs.append(e), list.index on a module's tuple .. are MtR facts of 06m -/
end
end L2
namespace L2
open PySem PySem.Spec PyProof.Rows
def MtM (X : Cx) (id : String) (r : V → List V → Hp → VK → Prop) : Prop :=
  ∀ (pins : List (Addr × Obj)) (s : Shared) (σ : St) (H : Hp) (x : V) (xs : List V) (v : Value) (us : List Value) (Q : VK), Inv X pins σ H s → RelV x v → Vals xs us → r x xs H Q →
    wpAny (model X.prog X.w) X.A (call (.builtin id) (v :: us)) (EP X pins σ Q) X.xe s
theorem Vals.one : ∀ {x : V} {us : List Value}, Vals [x] us → ∃ u, us = [u] ∧ RelV x u
  | _, _, .cons r .nil => ⟨_, rfl, r⟩
theorem Vals.two : ∀ {x y : V} {us : List Value}, Vals [x, y] us → ∃ u v, us = [u, v] ∧ RelV x u ∧ RelV y v
  | _, _, _, .cons r (.cons q .nil) => ⟨_, _, rfl, r, q⟩
theorem Vals.zero : ∀ {us : List Value}, Vals [] us → us = []
  | _, .nil => rfl
theorem Vals.rep {xs : List V} {us : List Value} (h : Vals xs us) : ∀ k : Nat, Vals (List.replicate k xs).flatten (List.replicate k us).flatten
  | 0 => .nil
  | k + 1 => by
    rw [List.replicate_succ, List.replicate_succ, List.flatten_cons, List.flatten_cons]
    exact Vals.append h (Vals.rep h k)
theorem foldl_rep (its : List Value) : ∀ (k : Nat) (acc : List Value),
    List.foldl (fun x1 x2 => x1 ++ x2) acc.toArray (List.replicate k its.toArray) = (acc ++ (List.replicate k its).flatten).toArray
  | 0, acc => by simp
  | k + 1, acc => by
    have e : acc.toArray ++ its.toArray = (acc ++ its).toArray := by simp
    have e2 : (acc ++ its) ++ (List.replicate k its).flatten = acc ++ (List.replicate (k + 1) its).flatten := by
      rw [List.replicate_succ, List.flatten_cons, List.append_assoc]
    rw [← e2, ← foldl_rep its k (acc ++ its), ← e, List.replicate_succ, List.foldl_cons]
section
variable {X : Cx} {pins : List (Addr × Obj)} {σ : St} {H : Hp} {s : Shared} {l b : Addr} {xs ys zs : List V}
theorem Inv.lset {its its' : List Value} {n : Nat} {f : Array Value → Array Value} {t' : Nat} (I : Inv X pins σ H s) (hH : H l = some (.lst xs))
    (e : s.heap.get? l = some { cls := .type "list", data := .seq its.toArray n }) (hf : f its.toArray = its'.toArray) (hv : Vals ys its') (hz : ys.length ≤ sizeLine) :
    Inv X pins σ (upd H l (.lst ys)) { s with heap := s.heap.update l (Obj.mapSeq f), toks := t' } := by
  have q := PySem.IsL.update e f
  rw [hf] at q
  refine I.write (x := l) (e := l) (by rw [hH]; exact trivial) (.inl rfl) (fun b' u hb hu => (Heap.get?_update_other s.heap (Obj.mapSeq f) (Ne.symm hb)).trans hu) ⟨_, q⟩ ?_
  exact ⟨hz, its', _, hv, q⟩
theorem Inv.lnew {its : List Value} {t' : Nat} (I : Inv X pins σ H s) (hv : Vals ys its) (hz : ys.length ≤ sizeLine) :
    Inv X pins σ (upd H s.heap.objs.size (.lst ys)) { s with heap := s.heap.push { cls := .type "list", data := .seq its.toArray }, toks := t' } :=
  I.laid (fun _ _ q => Heap.get?_push_of_some _ q) (Nat.le_refl _) ⟨hz, its, 0, hv, Heap.get?_push_size _ rfl⟩
theorem Inv.fresh (I : Inv X pins σ H s) : H s.heap.objs.size = none := I.hok.fresh (Nat.le_refl _)
theorem Inv.lstM (I : Inv X pins σ H s) (hH : H l = some (.lst xs)) : xs.length ≤ sizeLine ∧ ∃ (its : List Value) (n : Nat), Vals xs its ∧ xs.length = its.length ∧ s.heap.get? l = some { cls := .type "list", data := .seq its.toArray n } := by
  obtain ⟨z, its, n, r, e⟩ := I.hok l _ hH
  exact ⟨z, its, n, r, r.length, e⟩
theorem notLongL {n : Nat} (h : n ≤ sizeLine) : Builtin.List.listTooLong n = false := by
  unfold Builtin.List.listTooLong
  exact decide_eq_false (by omega)
end
section
variable {X : Cx}
def rAppend : V → List V → Hp → VK → Prop := fun x vs H Q => ∃ l xs y, x = .ref l ∧ vs = [y] ∧ H l = some (.lst xs) ∧ xs.length < sizeLine ∧ Q .non (upd H l (.lst (xs ++ [y])))
theorem mt_append : MtM X "list.append" rAppend := by
  intro pins s σ H x vs v us Q I rx rv h
  obtain ⟨l, xs, y, rfl, rfl, hH, hz, q⟩ := h
  cases rx
  obtain ⟨u, rfl, ru⟩ := rv.one
  obtain ⟨z, its, n, r, hl, e⟩ := I.lstM hH
  refine call_meets F.slot_list_append ⟨_, e, rfl⟩ F.entry_list_append (F.args_list_append_2 _ _) (PySem.list_append l its.toArray n u (by rw [List.size_toArray]; omega)) ⟨e, ?_⟩
  refine ⟨.non, _, I.lset (its' := its ++ [u]) hH e (by simp) (r.append (.cons ru .nil)) ?_, rfl, q⟩
  rw [List.length_append, List.length_singleton]
  omega
def rExtend : V → List V → Hp → VK → Prop := fun x vs H Q => ∃ l b xs zs, x = .ref l ∧ vs = [.ref b] ∧ H l = some (.lst xs) ∧ H b = some (.lst zs) ∧ xs.length + zs.length ≤ sizeLine ∧ Q .non (upd H l (.lst (xs ++ zs)))
theorem mt_extend : MtM X "list.extend" rExtend := by
  intro pins s σ H x vs v us Q I rx rv h
  obtain ⟨l, b, xs, zs, rfl, rfl, hH, hB, hz, q⟩ := h
  cases rx
  obtain ⟨u, rfl, ru⟩ := rv.one
  cases ru
  obtain ⟨z, its, n, r, hl, e⟩ := I.lstM hH
  obtain ⟨z2, its2, n2, r2, hl2, e2⟩ := I.lstM hB
  have hsz : its.toArray.size + its2.toArray.size ≤ sizeLine := by rw [List.size_toArray, List.size_toArray]; omega
  have hlong : ¬ (!its.toArray.isEmpty && Builtin.List.listTooLong (its.toArray.size + its2.toArray.size)) = true := by
    rw [notLongL hsz, Bool.and_false]
    exact Bool.false_ne_true
  refine call_meets F.slot_list_extend ⟨_, e, rfl⟩ F.entry_list_extend (F.args_list_extend_2 _ _)
    (AutoSeq1.list_extend_list_list_0 l its.toArray n b its2.toArray n2 hlong (by rw [List.size_toArray]; omega) (by omega)) ⟨e, e2, ?_⟩
  refine ⟨.non, _, I.lset (its' := its ++ its2) hH e (by simp) (r.append r2) ?_, rfl, q⟩
  rw [List.length_append]
  omega
def rPop : V → List V → Hp → VK → Prop := fun x vs H Q => ∃ l xs y, x = .ref l ∧ vs = [] ∧ H l = some (.lst xs) ∧ xs[xs.length - 1]? = some y ∧ Q y (upd H l (.lst xs.dropLast))
def rPopAt : V → List V → Hp → VK → Prop := fun x vs H Q => ∃ l xs i k y, x = .ref l ∧ vs = [.int i] ∧ H l = some (.lst xs) ∧ -(2 ^ 63) ≤ i ∧ i < 2 ^ 63 ∧ seqIndex? i xs.length = some k ∧ xs[k]? = some y ∧ Q y (upd H l (.lst (xs.eraseIdx k)))
def rReverse : V → List V → Hp → VK → Prop := fun x vs H Q => ∃ l xs, x = .ref l ∧ vs = [] ∧ H l = some (.lst xs) ∧ Q .non (upd H l (.lst xs.reverse))
def rClear : V → List V → Hp → VK → Prop := fun x vs H Q => ∃ l xs, x = .ref l ∧ vs = [] ∧ H l = some (.lst xs) ∧ Q .non (upd H l (.lst []))
def rCat : R2 := fun x y H Q => ∃ l b xs zs, x = .ref l ∧ y = .ref b ∧ H l = some (.lst xs) ∧ H b = some (.lst zs) ∧ xs.length + zs.length ≤ sizeLine ∧ ∀ p, H p = none → Q (.ref p) (upd H p (.lst (xs ++ zs)))
theorem op_cat : OpR X (binaryOp .Add) rCat := by
  intro pins s σ H x y v u Q I rx ry h
  obtain ⟨l, b, xs, zs, rfl, rfl, hH, hB, hz, q⟩ := h
  cases rx
  cases ry
  obtain ⟨z, its, n, r, hl, e⟩ := I.lstM hH
  obtain ⟨z2, its2, n2, r2, hl2, e2⟩ := I.lstM hB
  refine PySem.P.add_list e e2 ?_ (by rw [List.size_toArray, List.size_toArray]; omega)
  have ea : its.toArray ++ its2.toArray = (its ++ its2).toArray := by simp
  rw [ea]
  exact ⟨.ref _, _, I.lnew (t' := s.toks) (r.append r2) (by rw [List.length_append]; omega), rfl, q _ I.fresh⟩
def rRep : R2 := fun x y H Q => ∃ l k xs, x = .ref l ∧ y = .int k ∧ H l = some (.lst xs) ∧ -(2 ^ 63) ≤ k ∧ k < 2 ^ 63 ∧ xs.length * k.toNat ≤ sizeLine ∧
  ∀ p, H p = none → Q (.ref p) (upd H p (.lst (List.replicate k.toNat xs).flatten))
theorem len_rep {α : Type} (xs : List α) (k : Nat) : (List.replicate k xs).flatten.length = k * xs.length := by
  induction k with
  | zero => simp
  | succ k ih => rw [List.replicate_succ, List.flatten_cons, List.length_append, ih, Nat.succ_mul, Nat.add_comm]
theorem op_rep : OpR X (binaryOp .Mult) rRep := by
  intro pins s σ H x y v u Q I rx ry h
  obtain ⟨l, k, xs, rfl, rfl, hH, h1, h2, hz, q⟩ := h
  cases rx
  obtain ⟨t, rfl⟩ := ry
  obtain ⟨z, its, n, r, hl, e⟩ := I.lstM hH
  have hlen : its.toArray.size * k.toNat ≤ sizeLine := by rw [List.size_toArray, ← hl]; exact hz
  have hcap : ¬ its.toArray.size * k.toNat > (2 ^ 63 - 1) / 8 := by
    have : (sizeLine : Nat) ≤ (2 ^ 63 - 1) / 8 := by decide
    omega
  have hfit : ¬ (!Builtin.List.listFitsIndex k) = true := by
    rw [fitsIndex_both h1 h2]
    exact Bool.false_ne_true
  have hlong : ¬ Builtin.List.listTooLong (its.toArray.size * k.toNat) = true := by
    rw [notLongL hlen]
    exact Bool.false_ne_true
  have hnew : List.foldl (fun x1 x2 => x1 ++ x2) #[] (List.replicate (if its.toArray.isEmpty = true then 0 else k.toNat) its.toArray) = (List.replicate k.toNat its).flatten.toArray := by
    have f0 : ∀ m : Nat, List.foldl (fun x1 x2 => x1 ++ x2) #[] (List.replicate m its.toArray) = (List.replicate m its).flatten.toArray := fun m => by
      have := foldl_rep its m []
      rw [List.nil_append] at this
      exact this
    rw [f0]
    cases its with
    | nil => simp
    | cons a r' => rw [if_neg (by simp)]
  refine wpAny_binaryOp_repeat_ref (T := "list") (U := "int") (by decide) ⟨_, e, rfl⟩ (fun s' => typeIs_int s' k t) noFill_list_mul F.fills_int_mul F.slot_int_rmul repeat_list F.slot_int_index.lookup
    (call_meets F.slot_int_rmul (typeIs_int s k t) F.entry_int_rmul (F.args_int_rmul_2 _ _) (int___rmul___int_list k t l its.toArray n)
      ⟨e, rfl, ⟨_, e, rfl⟩, call_meets F.slot_list_mul ⟨_, e, rfl⟩ F.entry_list_mul (F.args_list_mul_2 _ _) (AutoListH.list___mul___list_int_3 l its.toArray n k t hfit hcap hlong) ⟨e, ?_⟩⟩)
  rw [hnew]
  exact ⟨.ref _, _, I.lnew (t' := s.toks) (r.rep k.toNat) (by rw [len_rep, Nat.mul_comm]; exact hz), rfl, q _ I.fresh⟩
end
section
variable {prog : Program} {w : World} {A : Around} {E : Value → Shared → Prop} {s : Shared}
set_option maxRecDepth 100000 in
end
section
variable {X : Cx}
end
end L2
namespace Att
open PySem PySem.W PySem.Calls PyProof.Rows
theorem ints_of_wellAll {P : Params} {h : Heap} : ∀ (ns : List Int) (vs : List Value), WellAll P h vs (ns.map WData.int) → IntsAre vs ns := by
  intro ns
  induction ns with
  | nil =>
    intro vs w
    rw [List.map_nil] at w
    cases w
    exact .nil
  | cons n ns ih =>
    intro vs w
    rw [List.map_cons] at w
    cases w with
    | cons a b =>
      cases a
      exact .cons _ _ (ih _ b)
theorem script_of {l : OpenLaw} {n : Nat} (hn : l.most = some n) {P : Params} {h : Heap} {args : List WData} {vals : List Value}
    (hpre : l.row.toRowW.claim.pre args = true) (hwl : WellAll P h vals args) :
    ∃ a vs ns, vals = [Value.ref a] ∧ args = [WData.list (ns.map WData.int)] ∧ h.get? a = some { cls := .type "list", data := .seq vs.toArray } ∧ IntsAre vs ns ∧ ns.length ≤ n := by
  have hsh : WShape.hasAll [] args [.list .int] = true := (pre_splitW hpre).1
  have hc : l.pre.holds [] { args := args } = true := (pre_splitW hpre).2
  obtain ⟨d, r, rfl, h1, h2⟩ := hasAllW_cons hsh
  obtain rfl := hasAllW_nil h2
  obtain ⟨xs, rfl, h3⟩ := hasW_list h1
  obtain ⟨ns, rfl⟩ := items_int h3
  have hlen : ns.length ≤ n := by
    unfold OpenLaw.pre at hc
    have h4 : (WTm.not (.lt (.lit (.int (n : Int))) (.len (.arg 0)))).holds [] { args := [.list (ns.map .int)] } = true := by
      have h4 := (holds_andW hc).1
      rw [hn] at h4
      exact h4
    have h5 := condW_of h4 (w_not (w_lt w_lit (w_len_list (w_arg rfl))))
    rw [List.length_map] at h5
    refine Nat.le_of_not_lt fun q => ?_
    have q' : (n : Int) < ((ns.length : Nat) : Int) := by omega
    first
      | (rw [decide_eq_true q'] at h5; exact absurd h5 (by decide))
      | (simp at h5; omega)
  cases hwl with
  | cons w1 w2 =>
    cases w2
    cases w1 with
    | list ho hall => exact ⟨_, _, ns, rfl, rfl, ho, ints_of_wellAll ns _ hall, hlen⟩
theorem post_true (l : OpenLaw) (args : List WData) : l.row.toRowW.claim.post args (.bool true) args = true :=
  postW_of (r := l.row.toRowW) (X := (true == true))
    (show WShape.has [] (.bool true) .bool = true by first | rfl | decide | simp [WShape.has, WShape.arms, WShape.armsAll])
    (show (WTm.eq .res (.lit (.bool true))).value [] { args := args, res := some (.bool true), after := args } = some (.bool (true == true)) from w_eq_bool (w_res rfl) w_lit) rfl
theorem attach_call {l : OpenLaw} {n : Nat} {q : Program} {loose : List Str} {XP : (Str → Option Value) → Heap → Prop} {YP : World → Heap → Prop} {d : DefRec}
    (hn : l.most = some n) (hdf : d.params.defaults = [])
    (call : ∀ (w : World) (s₀ s₁ : Shared) (mg mb : Str → Option Value) (fa : Addr) (o : Obj) (pm cd doc : Value) (a : Addr) (vs : List Value) (ns : List Int),
      Ground q loose [] XP w s₀ mg mb s₁.heap → YP w s₁.heap →
      s₁.heap.get? fa = some o → o.data = .func (docDef d.name d.params d.body d.scope pm cd doc) → s₁.heap.CodeRec cd d.name → mg d.name = some (.ref fa) →
      s₁.heap.get? a = some { cls := .type "list", data := .seq vs.toArray } → IntsAre vs ns → ns.length ≤ n → s₁.gens = #[] →
      codeAny (model l.prog w) callerA (.call (.ref fa) ⟨[.ref a], []⟩) (fun r s' => r = .ok (.ret (.bool true)) ∧ OldK s₁.heap s'.heap ∧ s'.os = s₁.os ∧ AllBare s'.gens) s₁) :
    WalkO q loose XP YP l.row.toRowW d [] (fun f vs => PySem.call f vs) := by
  intro w s₀ s₁ mg mb G Y fa o pm cd doc dV kV ho hd hcd hD hmg hg args vals as hpre hlay hrd hwl hlo
  obtain rfl : dV = .none := Dflts.none hD hdf
  obtain rfl : kV = .none := Dflts.noKw hD
  obtain ⟨a, vs, ns, rfl, rfl, hobj, hints, hlen⟩ := script_of hn hpre hwl
  refine enter_call (codeAny_mono (call w s₀ s₁ mg mb fa o pm cd doc a vs ns G Y ho (fd_plain hd) hcd hmg hobj hints hlen hg) fun r s' hq => ?_)
  obtain ⟨rfl, h2, h3, h4⟩ := hq
  exact ⟨.inl ⟨.bool true, .bool true, [], rfl, fun _ => rfl, .bool true, post_true l _, fun _ => ⟨List.Pairwise.nil, fun _ hm => (nomatch hm)⟩⟩, h2, h3, h4⟩
section
variable {prog : Program} {w : World} {A : Around} {E : Value → Shared → Prop} {s : Shared} {K : Frag}
def noObjs (h : Heap) : Heap := { h with objs := #[] }
def ledger (h : Heap) (L d : Addr) : List (Addr × Obj) := (List.range h.objs.size).filterMap fun a => if a = L ∨ a = d then none else (h.get? a).map fun o => (a, o)
end
end Att
namespace L2
open PySem PySem.Spec PyProof.Rows
theorem vals_ints : ∀ {vs : List Value} {ns : List Int}, IntsAre vs ns → Vals (ns.map V.int) vs
  | _, _, .nil => .nil
  | _, _, .cons n t h => .cons ⟨t, rfl⟩ (vals_ints h)
def Only (H : Hp) : Prop := ∀ b, H b = none ∨ ∃ o xs, H b = some (.frz o (.lst xs))
end L2
namespace L2
open PySem PySem.Spec PyProof.Rows
abbrev KOf {K : PySem.W.Frag} {h : Heap} (_ : K.In h) : PySem.W.Frag := K
end L2
/- THE LAST THEOREM (shape; LID, My.* are yours):
   My.Adr: a structure of the addresses that your layer names (classes, functions); My.Txt K t: a structure (Prop) of the equations over K;
   My.txt_mk : {K} {implicit addresses ..} (e1 : nsIn K mainGlobals "law" = some (some (.ref f))) (e2 : K.lookup f = some ⟨oc, od, .func (fnOf "law" "law" params body scope dV kV doc pm an cdv ct), sl⟩) (e3 : codeIn K cdv "law" = true) .. : ∃ t, My.Txt K t
set_option maxRecDepth 100000 in
set_option maxHeartbeats 0 in
theorem PySem.Challenge.cw_LID_holds : PySem.Challenge.rw_LID.Holds := by
  w_on; o_law; k_head; (case hw => w_witness2)
  k_fill
  refine L2.walk_of (l := PySem.Challenge.rw_LID) (n := 63) (k := 40) (x := "script") (CX := fun w => ..) (sp := fun _ => My.sp_law) rfl (by decide) rfl ⟨rfl, by decide, by decide⟩ (fun w h Y => PySem.W.kIn_of Y) ?F ?S ?C
  case F =>
    intro w mg fa h KX G hmg
    have T : ∃ t, My.Txt (L2.KOf KX) t := by
      dsimp only [L2.KOf]                          -- K must stand as «<heap const> w.params» for k_is
      refine' My.txt_mk ?e1 ?e2 ?e3 ..
      (case e1 => PySem.W.k_is)                    -- in the order: a name -> its address -> its object -> its parts
      (case e2 => PySem.W.k_is)
      ..
    obtain ⟨t, T⟩ := T
    have e0 := hmg.symm.trans (PySem.W.mg_of KX G T.law)
    cases e0                                       -- fa is the law's own address
    exact ⟨_, fun s u => .of_eq rfl, fun base kb nb => My.law_fn T kb nb⟩     -- if «.of_eq rfl» comes too early: refine' ⟨_, ?b, fun base kb nb => My.law_fn T kb nb⟩; exact fun s u => .of_eq rfl
  case S => exact fun w H a ns hl hO hS => ..
  case C => exact ..
(the tactic k_is has no namespace: write k_is) -/
namespace L2
open PySem PySem.Spec PyProof.Rows
def inClass (s : Stmt) (j : Nat) : Stmt := match s with
  | .ClassDef _ _ _ body _ _ _ _ _ _ _ => body.getD j (.Pass ⟨0, 0, 0, 0⟩)
  | _ => .Pass ⟨0, 0, 0, 0⟩
def defArgs (s : Stmt) : Arguments := match s with
  | .FunctionDef _ a _ _ _ _ _ _ _ _ => a
  | _ => { posonlyargs := [], args := [], vararg := none, kwonlyargs := [], kw_defaults := [], kwarg := none, defaults := [] }
def defBody (s : Stmt) : List Stmt := match s with
  | .FunctionDef _ _ b _ _ _ _ _ _ _ => b
  | _ => []
def defScope (s : Stmt) : Scope := match s with
  | .FunctionDef _ _ _ _ _ _ sc _ _ _ => sc
  | _ => { kind := .function, names := [], isGenerator := false, isCoroutine := false }
abbrev CX0 : CXT := fun _ _ _ _ _ _ => False
abbrev E0 : XK := fun _ _ _ => False
theorem pass0 {X : Cx} : Passes CX0 X E0 := fun _ _ _ _ _ _ _ h => h.elim
structure Fun (K : PySem.W.Frag) (x qual : Str) (st : Stmt) (f : Addr) (fd : FuncData) : Prop where
  ex : ∃ (oc : Value) (od : Option Addr) (kV doc pm : Value) (an : Option Addr) (cdv ct : Value) (osl : Array (Option Value)),
    fd = PySem.W.fnOf x qual (defArgs st) (defBody st) (defScope st) .none kV doc pm an cdv ct ∧ K.lookup f = some ⟨oc, od, .func fd, osl⟩ ∧ PySem.W.codeIn K cdv qual = true
  kp : PySem.W.keepIn K (.ref f) = true
section
variable {P : Program} {w : World} {K : PySem.W.Frag} {mg : Str → Option Value} {base : Heap}
theorem Fun.ok {x qual : Str} {st : Stmt} {f : Addr} {fd : FuncData} {N ps : List Str} {k : Nat} {sp : Sp} (F : Fun K x qual st f fd) (S : FnScope N ps (defScope st)) (len : ∀ vs H Q E, sp vs H Q E → vs.length = ps.length)
    (hbody : ∀ (cdv : Value) (A : Around) (outer : List Env) (s : Shared) (H : Hp) (vs : List V) (Q : VK) (E : XK), Room k (A.deeper (envOfC qual (defScope st) s.heap.objs.size f cdv)) → sp vs H Q E →
      ∃ t, PSs (cxOf CX0 P w K mg base N qual (defScope st) f cdv A outer s H E).nox (defBody st) t ∧ t { nx := fun _ H' => Q .non H', rt := Q } (start N vs) H) : FnOk P w K mg base CX0 (k + 1) f fd ps sp := by
  obtain ⟨oc, od, kV, doc, pm, an, cdv, ct, osl, rfl, lk, hcd⟩ := F.ex
  refine fn_of lk hcd S len fun A outer s H vs Q E hr hsp => ?_
  obtain ⟨t, h, q⟩ := hbody cdv A outer s H vs Q E hr hsp
  exact ⟨t, h.nox, q⟩
theorem Fun.binds {x qual : Str} {st : Stmt} {f : Addr} {fd : FuncData} {ps : List Str} (F : Fun K x qual st f fd)
    (h : ∀ (kV doc pm : Value) (an : Option Addr) (cdv ct : Value) (us : List Value), us.length = ps.length → bindArgs (PySem.W.fnOf x qual (defArgs st) (defBody st) (defScope st) .none kV doc pm an cdv ct) ⟨us, []⟩ = pure (ps.zip us)) : Binds K fd ps [] := by
  obtain ⟨oc, od, kV, doc, pm, an, cdv, ct, osl, rfl, lk, hcd⟩ := F.ex
  exact .all (h kV doc pm an cdv ct)
theorem fun_mk {x qual : Str} {st : Stmt} {f : Addr} {oc : Value} {od an : Option Addr} {osl : Array (Option Value)} {kV doc pm cdv ct : Value} (l : K.lookup f = some ⟨oc, od, .func (PySem.W.fnOf x qual (defArgs st) (defBody st) (defScope st) .none kV doc pm an cdv ct), osl⟩)
    (c : PySem.W.codeIn K cdv qual = true) (k : PySem.W.keepIn K (.ref f) = true) : Fun K x qual st f (PySem.W.fnOf x qual (defArgs st) (defBody st) (defScope st) .none kV doc pm an cdv ct) := ⟨⟨oc, od, kV, doc, pm, an, cdv, ct, osl, rfl, l, c⟩, k⟩
end
section
variable {X : Cx}
theorem pv (i : Nat) {x : Str} {pos : Pos} (hN : X.N[i]? = some x := by rfl) (hv : Vis X.env.scope x := by first | exact Or.inl rfl | exact Or.inr (Or.inl rfl) | exact Or.inr (Or.inr rfl)) (hd : (x == ("__debug__" : Str)) = false := by decide)
    (hcd : (x == ("__classdict__" : Str)) = false := by decide) : PE X (.Name x pos) (tVar i) := pe_var hN hv hd hcd
end
theorem iteF {A B : Prop} (h : B) : if false = true then A else B := by
  rw [if_neg Bool.false_ne_true]
  exact h
theorem iteT {A B : Prop} (h : A) : if true = true then A else B := by
  rw [if_pos rfl]
  exact h
theorem iteNS {c A B : Prop} [Decidable c] (hc : c) (h : B) : if (!decide c) = true then A else B := by
  rw [decide_eq_true hc]
  exact iteF h
def Same (H H' : Hp) : Prop := ∀ b o, H b = some o → H' b = some o
theorem Same.refl (H : Hp) : Same H H := fun _ _ h => h
theorem Same.trans {H H1 H2 : Hp} (a : Same H H1) (b : Same H1 H2) : Same H H2 := fun c o h => b c o (a c o h)
theorem Same.free {H H' : Hp} (e : Same H H') {l : Addr} (h : H' l = Option.none) : H l = Option.none := by
  cases q : H l with
  | none => rfl
  | some o =>
    rw [e l o q] at h
    cases h
theorem Same.seq {K : PySem.W.Frag} {H H' : Hp} {a : Addr} {xs : List V} (e : Same H H') (h : SqL K H a xs) : SqL K H' a xs := by
  rcases h with (h | ⟨o, h⟩) | h
  · exact .inl (.inl (e _ _ h))
  · exact .inl (.inr ⟨o, e _ _ h⟩)
  · exact .inr h
end L2

namespace RV
open PySem
open Sem (wp)
section
variable {prog : Program} {w : World} {A : Around} {E : Value → Shared → Prop} {s : Shared}
def IsRev (h : Heap) (a l : Addr) (i : Int) : Prop := ∃ o, h.get? a = some o ∧ o.cls = .type "list_reverseiterator" ∧ o.data = .fields #[.ref l, rawInt i]
end
end RV

namespace L2
open PySem PySem.Spec PyProof.Rows
def clOf (env : Env) : List (Str × NameKind) → List (Str × Addr) → List (Str × Addr)
  | [], acc => acc
  | (n, k) :: r, acc => clOf env r (if k == .free then (match env.cells.lookup n with | some c => (n, c) :: acc | none => acc) else acc)
theorem closureFor_eq {env : Env} {scope : Scope} (h : ∀ x ∈ scope.names, x.2 = .free → ∃ c, env.cells.lookup x.1 = some c) : closureFor scope env = pure (clOf env scope.names []) := by
  have gen : ∀ (l : List (Str × NameKind)) (acc : List (Str × Addr)), (∀ x ∈ l, x.2 = .free → ∃ c, env.cells.lookup x.1 = some c) →
      (forIn l acc (fun x r => if (x.2 == NameKind.free) = true then (cellOf env x.1 >>= fun c => pure (ForInStep.yield ((x.1, c) :: r))) else pure (ForInStep.yield r)) : Sem _) = pure (clOf env l acc) := by
    intro l
    induction l with
    | nil => intro acc _; rfl
    | cons x r ih =>
      intro acc hx
      obtain ⟨n, k⟩ := x
      rw [List.forIn_cons]
      by_cases hk : k = .free
      · subst hk
        obtain ⟨c, hc⟩ := hx _ List.mem_cons_self rfl
        have hc' : cellOf env n = pure c := by unfold cellOf; simp at hc; rw [hc]
        simp at hc
        simp only [clOf, hc', hc]
        have := ih ((n, c) :: acc) fun y hy => hx y (List.mem_cons_of_mem _ hy)
        exact this
      · have hb : (k == NameKind.free) = false := by simpa using hk
        simp only [clOf, hb]
        exact ih acc fun y hy => hx y (List.mem_cons_of_mem _ hy)
  have := gen scope.names [] h
  simp only [closureFor]
  rw [this]
  rfl
theorem clOf_sub {env : Env} : ∀ (l : List (Str × NameKind)) (acc : List (Str × Addr)), (∀ p ∈ acc, env.cells.lookup p.1 = some p.2) → ∀ p ∈ clOf env l acc, env.cells.lookup p.1 = some p.2
  | [], _, h => h
  | (n, k) :: r, acc, h => by
    unfold clOf
    refine clOf_sub r _ ?_
    split
    · split
      · rename_i c hc
        intro p hp
        rcases List.mem_cons.mp hp with rfl | hp
        · exact hc
        · exact h p hp
      · exact h
    · exact h
theorem clOf_keeps {env : Env} : ∀ (l : List (Str × NameKind)) (acc : List (Str × Addr)), ∀ p ∈ acc, p ∈ clOf env l acc
  | [], _, _, h => h
  | (n, k) :: r, acc, p, h => by
    unfold clOf
    refine clOf_keeps r _ p ?_
    split
    · split
      · exact List.mem_cons_of_mem _ h
      · exact h
    · exact h
theorem clOf_has {env : Env} {x : Str} {c : Addr} (hc : env.cells.lookup x = some c) : ∀ (l : List (Str × NameKind)) (acc : List (Str × Addr)), (x, NameKind.free) ∈ l → (x, c) ∈ clOf env l acc
  | [], _, h => nomatch h
  | (n, k) :: r, acc, h => by
    unfold clOf
    rcases List.mem_cons.mp h with e | h
    · cases e
      refine clOf_keeps r _ _ ?_
      rw [hc]
      simp
    · exact clOf_has hc r _ h
theorem lookup_of_mem {κ β : Type} [BEq κ] [LawfulBEq κ] {x : κ} {b : β} : ∀ {l : List (κ × β)}, (x, b) ∈ l → ∃ c, l.lookup x = some c
  | [], h => nomatch h
  | (n, k) :: r, h => by
    rw [List.lookup_cons]
    cases e : x == n with
    | true => exact ⟨_, rfl⟩
    | false =>
      rcases List.mem_cons.mp h with q | q
      · cases q; simp at e
      · exact lookup_of_mem q
theorem relabel_free {env : Env} {x : Str} : ∀ {l : List (Str × NameKind)}, l.lookup x = some .free →
    (l.map fun (n, k) => if (k == NameKind.free && env.scope.kind == .function && env.kindOf n == some .cell) then (n, NameKind.cell) else (n, k)).lookup x = some .cell ∨
    (l.map fun (n, k) => if (k == NameKind.free && env.scope.kind == .function && env.kindOf n == some .cell) then (n, NameKind.cell) else (n, k)).lookup x = some .free
  | [], h => by simp at h
  | (n, k) :: r, h => by
    have ih := @relabel_free env x r
    rw [List.map_cons]
    cases hx : x == n with
    | true =>
      simp only [List.lookup_cons, hx] at h
      cases h
      by_cases hc : (NameKind.free == NameKind.free && env.scope.kind == .function && env.kindOf n == some .cell) = true
      · left; simp only [hc, if_true, List.lookup_cons, hx]
      · right; simp only [hc, List.lookup_cons, hx]; simp only [Bool.not_eq_true] at hc; simp only [hc, Bool.false_eq_true, if_false, List.lookup_cons, hx]
    | false =>
      simp only [List.lookup_cons, hx] at h
      by_cases hc : (k == NameKind.free && env.scope.kind == .function && env.kindOf n == some .cell) = true
      · simp only [hc, if_true, List.lookup_cons, hx]; exact ih h
      · simp only [Bool.not_eq_true] at hc; simp only [hc, Bool.false_eq_true, if_false, List.lookup_cons, hx]; exact ih h
theorem relabel_back {env : Env} {x : Str} : ∀ {l : List (Str × NameKind)}, (∀ y ∈ l, y.2 ≠ .cell) →
    ((l.map fun (n, k) => if (k == NameKind.free && env.scope.kind == .function && env.kindOf n == some .cell) then (n, NameKind.cell) else (n, k)).lookup x = some .cell ∨
    (l.map fun (n, k) => if (k == NameKind.free && env.scope.kind == .function && env.kindOf n == some .cell) then (n, NameKind.cell) else (n, k)).lookup x = some .free) → (x, NameKind.free) ∈ l
  | [], _, h => by simp at h
  | (n, k) :: r, hn, h => by
    have ih := @relabel_back env x r fun y hy => hn y (List.mem_cons_of_mem _ hy)
    rw [List.map_cons] at h
    cases hx : x == n with
    | true =>
      have e : x = n := by simpa using hx
      subst e
      by_cases hk : k = .free
      · subst hk; exact List.mem_cons_self
      · have hb : (k == NameKind.free) = false := by simpa using hk
        simp only [hb, Bool.false_and, Bool.false_eq_true, if_false, List.lookup_cons, hx] at h
        rcases h with h | h
        · cases h; exact absurd rfl (hn _ List.mem_cons_self)
        · cases h; exact absurd rfl hk
    | false =>
      refine List.mem_cons_of_mem _ (ih ?_)
      by_cases hc : (k == NameKind.free && env.scope.kind == .function && env.kindOf n == some .cell) = true
      · simp only [hc, if_true, List.lookup_cons, hx] at h; exact h
      · simp only [Bool.not_eq_true] at hc; simp only [hc, Bool.false_eq_true, if_false, List.lookup_cons, hx] at h; exact h
def cxComp (X : Cx) (scope : Scope) (N : List Str) (C : Addr) (s₀ : Shared) (H₀ : Hp) (ex : List Addr) : Cx where
  prog := X.prog
  w := X.w
  K := X.K
  mg := X.mg
  base := X.base
  A := X.A
  N := N
  s₀ := s₀
  H₀ := H₀
  env := compEnvC scope (clOf X.env scope.names []) C X.env
  outer := X.stack
  stack := X.stack
  ex := ex
  fn := fun _ => false
  calm := X.calm
  pn := []
  xe := fun _ _ => False
def capσ (σ : St) (cap : List Nat) (k : Nat) : St := cap.map (fun i => (σ[i]?).join) ++ List.replicate k none
structure CompScope (X : Cx) (scope : Scope) (N : List Str) (cap : List Nat) (k : Nat) : Prop where
  kind : scope.kind = .function
  nocell : ∀ y ∈ scope.names, y.2 ≠ .cell
  free : ∀ y ∈ scope.names, y.2 = .free → X.env.kindOf y.1 = some .cell ∨ X.env.kindOf y.1 = some .free
  loc : ∀ y ∈ scope.names, y.2 = .local → scope.names.lookup y.1 = some .local
  caps : ∀ x ∈ N.take cap.length, scope.names.lookup x = some .free
  at' : cap.map (fun i => X.N[i]?) = (N.take cap.length).map some
  len : N.length = cap.length + k
theorem inv_comp {X : Cx} {scope : Scope} {N : List Str} {cap : List Nat} {k : Nat} {pins : List (Addr × Obj)} {σ : St} {H : Hp} {s : Shared} {ex : List Addr} {h₁ : Heap} {m0 : Str → Option Value} {o : Obj} {t : Nat}
    (S : CompScope X scope N cap k) (I : Inv X pins σ H s) (hx : ∀ b ∈ ex, FpOk X pins H b ∧ b < s.heap.objs.size) (hns : h₁.Ns s.heap.objs.size m0) (hsb : Heap.SameBut s.heap.objs.size (s.heap.push o) h₁) :
    Inv (cxComp X scope N s.heap.objs.size s H ex) [] (capσ σ cap k) H { s with heap := h₁, toks := t } := by
  have old : ∀ b u, s.heap.get? b = some u → h₁.get? b = some u := fun b u e => hsb.extBut b u (Nat.ne_of_lt (Heap.lt_size e)) (Heap.get?_push_of_some _ e)
  have sub : ∀ x c, (clOf X.env scope.names []).lookup x = some c → X.env.cells.lookup x = some c := fun x c e => clOf_sub (env := X.env) scope.names [] (fun _ z => nomatch z) (x, c) (PySem.mem_of_lookup e)
  have kf : ∀ x, (x, NameKind.free) ∈ scope.names → ∃ c, X.env.cells.lookup x = some c ∧ (clOf X.env scope.names []).lookup x = some c := fun x hm => by
    obtain ⟨c, hc⟩ := I.ok.has x (S.free _ hm rfl)
    obtain ⟨c', hc'⟩ := lookup_of_mem (clOf_has hc scope.names [] hm)
    have := sub x c' hc'
    rw [hc] at this; cases this
    exact ⟨c, hc, hc'⟩
  refine ⟨⟨I.ok.mod, ?_, I.ok.glob, I.ok.blt, Nat.le_refl _, fun x y c h1 h2 => I.ok.inj x y c (sub x c h1) (sub y c h2), fun x hk => ?_, fun x c hf _ => (nomatch hf), I.ok.hd, I.ok.frames, .inl rfl, fun b hb => ⟨Nat.ne_of_lt (hx b hb).2, fun x c e => (hx b hb).1.2.2.2.2.1 x c (sub x c e)⟩, I.bs, Nat.le_trans I.ok.bsz I.sz, fun b ob e hb => ?_, fun b hb z => ?_, I.stack, I.stkFree⟩,
    rfl, I.bare, Un.kept old, ⟨m0, hns, fun i x v e1 e2 e3 => ?_⟩, fun x c e => ?_, I.hok.fresh (Nat.le_refl _), fun x c e => I.freeC x c (sub x c e), fun p hp => absurd (show p ∈ ([] : List (Addr × Obj)) from hp) (by simp), I.hok.kept old, ?_⟩
  · exact S.kind
  · obtain ⟨c, _, h2⟩ := kf x (relabel_back (env := X.env) S.nocell hk)
    exact ⟨c, h2⟩
  · rcases (hx b hb).1.2.2.2.1 with z | z
    · exact I.ok.noex b ob e z
    · exact absurd (Nat.lt_of_lt_of_le (Heap.lt_size (I.ok.bs b ob e).1) z) (Nat.lt_irrefl _)
  · rcases List.mem_cons.mp (I.stkSub b z) with e | e
    · exact (hx b hb).1.2.1 e
    · exact (hx b hb).1.2.2.1 e
  · -- a name from around
    have hi : i < cap.length := by
      by_cases hi : i < cap.length
      · exact hi
      · unfold capσ at e2
        rw [List.getElem?_append_right (by simpa using hi), List.getElem?_replicate] at e2
        split at e2 <;> cases e2
    have hv : (σ[cap[i]]?).join = some v := by
      unfold capσ at e2
      rw [List.getElem?_append_left (by simpa using hi), List.getElem?_map, List.getElem?_eq_getElem hi] at e2
      exact Option.some.inj e2
    have hv' : σ[cap[i]]? = some (some v) := by
      cases q : σ[cap[i]]? with
      | none => rw [q] at hv; cases hv
      | some z => rw [q] at hv; exact congrArg some hv
    have e1' : N[i]? = some x := e1
    have hN : (N.take cap.length)[i]? = some x := by rw [List.getElem?_take_of_lt hi]; exact e1'
    have hXN : X.N[cap[i]]? = some x := by
      have q := congrArg (fun l => l[i]?) S.at'
      simp only [List.getElem?_map, hN, List.getElem?_eq_getElem hi, Option.map_some] at q
      exact Option.some.inj q
    have hfx := S.caps x (List.mem_of_getElem? hN)
    have hm : (x, NameKind.free) ∈ scope.names := PySem.mem_of_lookup hfx
    have hkx := S.free _ hm rfl
    obtain ⟨m, hn, hl⟩ := I.loc
    obtain ⟨u, r, l⟩ := hl _ x v hXN hv' (.inr hkx)
    refine ⟨u, r, .inr ⟨relabel_free (env := X.env) hfx, ?_⟩⟩
    obtain ⟨c, hc, hc'⟩ := kf x hm
    rcases l with ⟨z, _⟩ | ⟨_, c2, q, z⟩
    · rcases hkx with y | y <;> (rw [y] at z; cases z)
    · rw [hc] at q; cases q
      obtain ⟨ob, ho, hd⟩ := z
      exact ⟨c, hc', ob, old _ _ ho, hd⟩
  · obtain ⟨v, ob, ho, hd⟩ := I.cell x c (sub x c e)
    exact ⟨v, ob, old _ _ ho, hd⟩
  · show (capσ σ cap k).length = N.length
    unfold capσ
    rw [List.length_append, List.length_map, List.length_replicate, S.len]
theorem Inv.track {X : Cx} {pins : List (Addr × Obj)} {σ : St} {H : Hp} {s : Shared} {D : Addr} {ys : List V} {its : List Value} {n : Nat} (I : Inv X pins σ H s) (hn : H D = none)
    (he : s.heap.get? D = some { cls := .type "list", data := .seq its.toArray n }) (hv : Vals ys its) (hz : ys.length ≤ sizeLine) (h0 : X.s₀.heap.objs.size ≤ D) (hL : D ≠ X.env.locals)
    (hc : ∀ x c, X.env.cells.lookup x = some c → c ≠ D) (hp : ∀ p ∈ X.pn ++ pins, p.1 ≠ D) : Inv X pins σ (upd H D (.lst ys)) s := by
  refine ⟨I.ok, I.os, I.bare, ⟨I.base.keep, I.base.slot, fun b o e n hx => ?_, I.base.there, fun b xs e => ?_, fun b o u e => ?_, fun b ps e => ?_⟩, I.loc, I.cell, ?_, fun x c e => ?_, fun p hq => ?_, fun b u e => ?_, I.len⟩
  · rw [upd_ne (Nat.ne_of_lt (Nat.lt_of_lt_of_le (Heap.lt_size e) h0))]; exact I.base.free b o e n hx
  · have q := I.base.tups b xs e
    rw [upd_ne (ne_of_none q hn)]; exact q
  · have q := I.base.frzs b o u e
    rw [upd_ne (ne_of_none q hn)]; exact q
  · obtain ⟨more, q⟩ := I.base.tbls b ps e
    exact ⟨more, by rw [upd_ne (ne_of_none q hn)]; exact q⟩
  · rw [upd_ne (Ne.symm hL)]; exact I.free
  · rw [upd_ne (hc x c e)]; exact I.freeC x c e
  · obtain ⟨a, b, c, d, e⟩ := I.pin p hq
    exact ⟨a, by rw [upd_ne (hp p hq)]; exact b, c, d, e⟩
  · by_cases hb : b = D
    · subst hb
      rw [upd_same] at e; cases e
      exact ⟨hz, its, n, hv, he⟩
    · rw [upd_ne hb] at e
      exact (I.hok b u e).stay (fun _ _ _ q => q) (fun c q => by rw [upd_ne (ne_of_none q hn)]; exact q) fun c xs q => by rw [upd_ne (ne_of_none q hn)]; exact q
theorem compLoop_any {prog : Program} {w : World} {A : Around} {R : Result → Shared → Prop} {s : Shared} {elt target iter : Expr} {scope : Scope} {pos : Pos} {it acc : Value} {env : Env} (I : Nat → Shared → Prop)
    (turn : ∀ n s, I n s → wpAny (model prog w) A (pyNext it) (fun r s₁ => match r with
      | none => R (.ok .next) s₁
      | some v => wpAny (model prog w) A (letOwnedTupleGo target it v) (fun _ s₂ => wpAny (model prog w) A (assign target env v) (fun _ s₃ => wpAny (model prog w) A (eval elt env) (fun x s₄ =>
          wpAny (model prog w) A (call (.builtin "list.append") [acc, x]) (fun _ s₅ => ∃ m, m < n ∧ I m s₅) (fun _ _ => False) s₄)
          (fun _ _ => False) s₃) (fun _ _ => False) s₂) (fun _ _ => False) s₁) (fun _ _ => False) s)
    (n : Nat) (h : I n s) :
    codeAny (model prog w) A (.compLoop (.ListComp elt [⟨target, iter, [], 0⟩] scope pos) 0 it acc env) R s := by
  refine codeAny_loop rfl I (fun n s hI => ?_) n h
  show wpAny _ _ ((compTurn (.ListComp elt [⟨target, iter, [], 0⟩] scope pos) 0 it acc env).onRaise (fun x => do noteFrame x env; theTreesLotGoes x)) _ _ s
  refine wpAny_noted ?_
  rw [compTurn_list1]
  refine wpAny_bind (wpAny_standAt (wpAny_bind (wpAny_mono (turn n s hI) (fun r s₁ h₁ => ?_) fun _ _ h' => h'.elim)))
  cases r with
  | none => exact wpAny_pure h₁
  | some v =>
    refine wpAny_bind (wpAny_mono h₁ (fun _ s₂ h₂ => ?_) fun _ _ h' => h'.elim)
    exact wpAny_bind (wpAny_mono h₂ (fun _ s₃ h₃ => wpAny_bind (wpAny_bind (wpAny_mono h₃ (fun x s₄ h₄ => wpAny_bind (wpAny_mono h₄
      (fun _ s₅ h₅ => wpAny_pure (wpAny_pure ⟨rfl, h₅⟩)) fun _ _ h' => h'.elim)) fun _ _ h' => h'.elim))) fun _ _ h' => h'.elim)
def CompW (J : It) (cap : List Nat) (k : Nat) (g : TG) (te : TE) (σ : St) (H1 : Hp) (Q : VK) : Prop :=
  ∃ W : Nat → Nat → List V → Hp → Prop, (∃ m, W 0 m [] H1) ∧ ∀ i m ys H, W i m ys H →
    (J.stop i H ∧ ∀ D, H D = none → Q (.ref D) (upd H D (.lst ys))) ∨
    (J.go i H ∧ ys.length < sizeLine ∧ ∃ Nx : VK, (∀ y H3, Nx y H3 → ∃ m', m' < m ∧ W (i + 1) m' (ys ++ [y]) H3) ∧ ∀ x H', J.yld i H x H' → g x (capσ σ cap k) H' fun σ2 H2 => σ2.take cap.length = (capσ σ cap k).take cap.length ∧ te σ2 H2 Nx)
def tComp (wi : TI) (cap : List Nat) (k : Nat) (g : TG) (te : TE) : TE := fun σ H Q => wi σ H fun J H1 => CompW J cap k g te σ H1 Q
end L2

namespace L2
open PySem PySem.Spec PyProof.Rows
section
variable {X : Cx} {elt tg iter : Expr} {scope : Scope} {pos : Pos} {N : List Str} {cap : List Nat} {k : Nat} {wi : TI} {g : TG} {te : TE}
theorem comp_block (S : CompScope X scope N cap k) (hc : X.calm = true)
    (hg : ∀ C s₀ H₀ ex, PG (cxComp X scope N C s₀ H₀ ex) tg g) (he : ∀ C s₀ H₀ ex, PE (cxComp X scope N C s₀ H₀ ex) elt te)
    {pins : List (Addr × Obj)} {σ : St} {H : Hp} {s : Shared} {it : Addr} {fp : List Addr} {tn : Nat → Heap → Prop} {J : It} {Q : VK} {RR : Value → Addr → Result → Shared → Prop} {E : Value → Shared → Prop}
    (I : Inv X pins σ H s) (T : Turn X.prog X.w X.K tg J fp it tn) (st : tn 0 s.heap) (hf : ∀ b ∈ fp, FpOk X pins H b)
    (W : Nat → Nat → List V → Hp → Prop) (w0 : ∃ m, W 0 m [] H)
    (turn : ∀ i m ys H, W i m ys H →
      (J.stop i H ∧ ∀ D, H D = none → Q (.ref D) (upd H D (.lst ys))) ∨
      (J.go i H ∧ ys.length < sizeLine ∧ ∃ Nx : VK, (∀ y H3, Nx y H3 → ∃ m', m' < m ∧ W (i + 1) m' (ys ++ [y]) H3) ∧ ∀ x H', J.yld i H x H' → g x (capσ σ cap k) H' fun σ2 H2 => σ2.take cap.length = (capσ σ cap k).take cap.length ∧ te σ2 H2 Nx))
    (hRR : ∀ D C s' m', (∃ H', s'.heap.Ns C m' ∧ (∀ h', Heap.SameBut C s'.heap h' → Inv X pins σ H' { s' with heap := h' } ∧ X.env.locals ≠ C ∧ (∀ x c, X.env.cells.lookup x = some c → c ≠ C)) ∧ FpOk X pins H' C ∧ Q (.ref D) H') → RR (.ref D) C (.ok .next) s') :
    wpAny (model X.prog X.w) X.A (newList []) (fun acc s₃ => wpAny (model X.prog X.w) X.A (newFunctionEnv scope X.env.globals (clOf X.env scope.names []) [] X.env.qual none .none (some X.env)) (fun cenv s₄ =>
      codeAny (model X.prog X.w) X.A (.compStart (.ListComp elt [⟨tg, iter, [], 0⟩] scope pos) 0 (.ref it) acc { cenv with scope := relabel scope X.env }) (RR acc cenv.locals) s₄) E s₃) E s := by
  refine wpAny_newObj_type (wpAny_newFunctionEnv S.nocell (by intro y hy; simp at hy) (fun h₁ hns₁ hsb₁ => ?_) S.kind)
  have I3 : Inv X pins σ H { s with heap := s.heap.push { cls := .type "list", dict := none, data := .seq ([] : List Value).toArray } } := I.kept (t' := s.toks) fun b u e => Heap.get?_push_of_some _ e
  have hD0 : (s.heap.push { cls := .type "list", dict := none, data := .seq ([] : List Value).toArray }).get? s.heap.objs.size = some { cls := .type "list", data := .seq ([] : List Value).toArray } := Heap.get?_push_size _ rfl
  have hfpl : ∀ b ∈ fp, b < s.heap.objs.size := fun b hb => by
    obtain ⟨o, e, _⟩ := T.obj _ _ st b hb
    exact Heap.lt_size e
  have hDf : s.heap.objs.size ∉ fp := fun hm => Nat.lt_irrefl _ (hfpl _ hm)
  have fD : FpOk X pins H s.heap.objs.size := I.fpOk (Nat.le_refl _) (I.hok.fresh (Nat.le_refl _))
  dsimp only at hns₁ hsb₁ ⊢
  generalize hH2 : s.heap.push { cls := .type "list", dict := none, data := .seq ([] : List Value).toArray } = H2 at hns₁ hsb₁ I3 hD0 ⊢
  have hsz : H2.objs.size = s.heap.objs.size + 1 := by rw [← hH2, Heap.size_push]
  have hle : s.heap.objs.size ≤ H2.objs.size := by rw [hsz]; exact Nat.le_succ _
  have st3 : tn 0 H2 := T.keep _ _ _ st fun b _ o e => by rw [← hH2]; exact Heap.get?_push_of_some _ e
  generalize hD : s.heap.objs.size = D at hD0 hDf fD hsz ⊢
  have hCD : H2.objs.size ≠ D := by (first | lia | omega)
  have IC := inv_comp (t := s.toks + ([] : List (Str × Value)).length) (ex := D :: fp) S I3 (fun b hb => by
    rcases List.mem_cons.mp hb with rfl | hb
    · exact ⟨fD, by show _ < H2.objs.size; (first | lia | omega)⟩
    · exact ⟨hf b hb, Nat.lt_of_lt_of_le (hfpl b hb) hle⟩) hns₁ hsb₁
  have old : ∀ b u, H2.get? b = some u → h₁.get? b = some u := fun b u e => hsb₁.extBut b u (Nat.ne_of_lt (Heap.lt_size e)) (Heap.get?_push_of_some _ e)
  have st4 : tn 0 h₁ := T.keep _ _ _ st3 fun b _ o e => old b o e
  have hD1 := old _ _ hD0
  generalize hXC : cxComp X scope N H2.objs.size { s with heap := H2 } H (D :: fp) = XC at IC
  have fpC : ∀ {H' : Hp} {pl : List (Addr × Obj)}, (∀ p ∈ pl, p.1 ∉ fp) → (∀ b ∈ fp, H' b = none) → ∀ b ∈ fp, FpOk XC pl H' b := fun {H' pl} hpl hn b hb => by
    subst hXC
    obtain ⟨f0, f1, f2, f3, f4, f5⟩ := hf b hb
    refine ⟨hn b hb, Nat.ne_of_lt (Nat.lt_of_lt_of_le (hfpl b hb) hle), fun z => ?_, .inl (List.mem_cons_of_mem _ hb), fun x c e => ?_, fun p hp z => ?_⟩
    · rcases List.mem_cons.mp (I3.stkSub b z) with e | e
      · exact f1 e
      · exact f2 e
    · exact f4 x c (clOf_sub (env := X.env) scope.names [] (fun _ z => nomatch z) (x, c) (PySem.mem_of_lookup e))
    · have hp' : p ∈ pl := by simpa [cxComp] using hp
      exact hpl p hp' (by rw [z]; exact hb)
  have fpD : ∀ {H' : Hp}, H' D = none → FpOk XC [] H' D := fun {H'} hn => by
    subst hXC
    obtain ⟨f0, f1, f2, f3, f4, f5⟩ := fD
    refine ⟨hn, Ne.symm hCD, fun z => ?_, .inl List.mem_cons_self, fun x c e => ?_, fun p hp z => by simp [cxComp] at hp⟩
    · rcases List.mem_cons.mp (I3.stkSub D z) with e | e
      · exact f1 e
      · exact f2 e
    · exact f4 x c (clOf_sub (env := X.env) scope.names [] (fun _ z => nomatch z) (x, c) (PySem.mem_of_lookup e))
  have hgC : PG XC tg g := by rw [← hXC]; exact hg _ _ _ _
  have heC : PE XC elt te := by rw [← hXC]; exact he _ _ _ _
  have e1 : XC.prog = X.prog := by rw [← hXC]; rfl
  have e2 : XC.w = X.w := by rw [← hXC]; rfl
  have e3 : XC.K = X.K := by rw [← hXC]; rfl
  have e4 : XC.A = X.A := by rw [← hXC]; rfl
  have e5 : XC.calm = true := by rw [← hXC]; exact hc
  have e6 : XC.xe = fun _ _ => False := by rw [← hXC]; rfl
  have e7 : XC.env = compEnvC scope (clOf X.env scope.names []) H2.objs.size X.env := by rw [← hXC]; rfl
  have fin : ∀ (ys : List V) (its : List Value) (n : Nat) (H' : Hp) (s' : Shared), Inv XC [] (capσ σ cap k) H' s' → H' D = none → s'.heap.get? D = some { cls := .type "list", data := .seq its.toArray n } → Vals ys its → ys.length ≤ sizeLine →
      Q (.ref D) (upd H' D (.lst ys)) → RR (.ref D) H2.objs.size (.ok .next) s' := fun ys its n H' s' I' hn hd hv hz q => by
    obtain ⟨m', hm', _⟩ := I'.loc
    have hm'' : s'.heap.Ns H2.objs.size m' := by rw [e7] at hm'; exact hm'
    have hfree : H' H2.objs.size = none := by have := I'.free; rw [e7] at this; exact this
    have hos : s'.os = s.os := by have := I'.os; rw [← hXC] at this; exact this
    have hun : Un (frs X.stack) (D :: fp) H H' H2 s'.heap := by have := I'.base; rw [← hXC] at this; exact this
    have hok : HOk X.prog X.w H' s'.heap := by have := I'.hok; rw [e1, e2] at this; exact this
    have IP : Inv X pins σ H' s' := I3.call' (ch := D :: fp) hos hun hok I'.bare (fun b hb => by
      have hb' : FpOk X pins H b := by
        rcases List.mem_cons.mp hb with rfl | hb
        · exact fD
        · exact hf b hb
      exact ⟨hb'.2.2.2.1, hb'.2.1, hb'.2.2.2.2.1, hb'.2.2.2.2.2⟩)
    have fC : FpOk X pins H' H2.objs.size := I3.fpOk (Nat.le_refl _) hfree
    refine hRR D H2.objs.size s' m' ⟨upd H' D (.lst ys), hm'', fun h' hs' => ⟨?_, Ne.symm fC.2.1, fC.2.2.2.2.1⟩, ⟨by rw [upd_ne hCD]; exact fC.1, fC.2⟩, q⟩
    have I4 : Inv X pins σ H' { s' with heap := h' } := IP.turned (t' := s'.toks) (it := H2.objs.size) (fun b o hb e => hs'.extBut b o hb e) hfree (Ne.symm (Ne.symm fC.2.1)) fC.2.2.2.1 fC.2.2.2.2.1 fC.2.2.2.2.2
    refine I4.track hn (hs'.extBut D _ (Ne.symm hCD) hd) hv hz ?_ fD.2.1 fD.2.2.2.2.1 fD.2.2.2.2.2
    have := I.sz
    (first | lia | omega)
  have loop : ∀ s₄ : Shared, s₄ = { s with heap := h₁, toks := s.toks + ([] : List (Str × Value)).length } →
      codeAny (model X.prog X.w) X.A (.compLoop (.ListComp elt [⟨tg, iter, [], 0⟩] scope pos) 0 (.ref it) (.ref D) (compEnvC scope (clOf X.env scope.names []) H2.objs.size X.env)) (RR (.ref D) H2.objs.size) s₄ := by
    rintro s₄ rfl
    obtain ⟨m0, w0⟩ := w0
    refine compLoop_any (fun n s' => ∃ i ys its n' H', Inv XC [] (capσ σ cap k) H' s' ∧ tn i s'.heap ∧ (∀ b ∈ fp, H' b = none) ∧ H' D = none ∧ s'.heap.get? D = some { cls := .type "list", data := .seq its.toArray n' } ∧ Vals ys its ∧ ys.length ≤ sizeLine ∧ W i n ys H') ?_ m0
      ⟨0, [], [], _, H, IC, st4, fun b hb => (hf b hb).1, fD.1, hD1, .nil, Nat.zero_le _, w0⟩
    rintro n s5 ⟨i, ys, its, n', H5, I5, st5, fr5, hn5, hd5, hv5, hz5, w5⟩
    have IP5 : Inv XC [(D, { cls := .type "list", data := .seq its.toArray n' })] (capσ σ cap k) H5 s5 := I5.pins_of fun p hp => by
      have ep : p = (D, { cls := .type "list", data := .seq its.toArray n' }) := by simpa using hp
      subst ep
      obtain ⟨f0, f1, f2, _⟩ := fpD hn5
      exact ⟨hd5, f0, f1, f2, fun v z => by cases z⟩
    have nofp : ∀ p ∈ [(D, ({ cls := .type "list", data := .seq its.toArray n' } : Obj))], p.1 ∉ fp := fun p hp => by
      have ep : p = (D, { cls := .type "list", data := .seq its.toArray n' }) := by simpa using hp
      subst ep
      exact hDf
    rcases turn i n ys H5 w5 with ⟨stop, qn⟩ | ⟨go, hlen, Nx, hNx, step⟩
    · have hd := T.done XC e1 e2 e3 e5 i _ s5 _ H5 (fun _ _ => False) IP5 (fpC nofp fr5) st5 stop
      rw [e4] at hd
      refine thn hd fun r s6 ⟨hr, I6⟩ => ?_
      subst hr
      have p6 := I6.pin (D, { cls := .type "list", data := .seq its.toArray n' }) (List.mem_append_right _ (by simp))
      exact fin ys its n' H5 s6 (I6.pins_of fun p hp => nomatch hp) hn5 p6.1 hv5 hz5 (qn D hn5)
    · have hi := T.item XC e1 e2 e3 e5 i _ s5 _ H5 (fun _ _ => False) IP5 (fpC nofp fr5) st5 go
      rw [e4] at hi
      refine thn hi fun r s6 ⟨u, hr, h6⟩ => ?_
      subst hr
      refine thn h6 fun _ s7 ⟨x, H7, I7, r7, y7, st7, fr7⟩ => ?_
      have p7 := I7.pin (D, { cls := .type "list", data := .seq its.toArray n' }) (List.mem_append_right _ (by simp))
      have IP7 := I7.pinned (fpC nofp fr7) (T.obj _ _ st7)
      have hg7 := hgC _ s7 _ H7 x u _ IP7 r7 (step x H7 y7)
      rw [e1, e2, e4, e6, e7] at hg7
      refine thn hg7 fun _ s8 ⟨σ8, H8, I8, q8⟩ => ?_
      have he8 := heC _ s8 σ8 H8 _ I8 q8.2
      rw [e1, e2, e4, e6, e7] at he8
      refine thn he8 fun v s9 ⟨y, H9, I9, r9, q9⟩ => ?_
      obtain ⟨m', hm', w9⟩ := hNx y H9 q9
      have p9 := I9.pin (D, { cls := .type "list", data := .seq its.toArray n' }) (List.mem_append_right _ (List.mem_append_left _ (by simp)))
      have st9 : tn (i + 1) s9.heap := T.keep _ _ _ st7 fun b hb o e => (I9.pin (b, o) (List.mem_append_right _ (List.mem_append_right _ (mem_pinsAt hb e)))).1
      have fr9 : ∀ b ∈ fp, H9 b = none := fun b hb => by
        obtain ⟨o, e, d⟩ := T.obj _ _ st7 b hb
        exact (I9.pin (b, o) (List.mem_append_right _ (List.mem_append_right _ (mem_pinsAt hb e)))).2.1
      have hlv := hv5.length
      refine call_meets F.slot_list_append ⟨_, p9.1, rfl⟩ F.entry_list_append (F.args_list_append_2 _ _) (PySem.list_append D its.toArray n' v (by rw [List.size_toArray]; (first | lia | omega))) ⟨p9.1, ?_⟩
      have q := PySem.IsL.update p9.1 (·.push v)
      have eo : (its.toArray.push v) = (its ++ [v]).toArray := by simp
      rw [eo] at q
      have I9' : Inv XC [] (capσ σ cap k) H9 s9 := (I9.pins_of (pins' := []) fun p hp => nomatch hp).weak (by
        have a := I9.len
        have b := IC.len
        rw [b, a]) (fun j z hz => by
          have hj : j < cap.length := by
            by_cases hj : j < cap.length
            · exact hj
            · unfold capσ at hz
              rw [List.getElem?_append_right (by simpa using hj), List.getElem?_replicate] at hz
              split at hz <;> cases hz
          have q := congrArg (fun l => l[j]?) q8.1
          simp only [List.getElem?_take_of_lt hj] at q
          rw [q]
          exact hz)
      refine ⟨m', hm', i + 1, ys ++ [y], its ++ [v], _, H9, I9'.turned (it := D) (fun b o hb e => (Heap.get?_update_other s9.heap _ (Ne.symm hb)).trans e) p9.2.1 p9.2.2.1 (fpD p9.2.1).2.2.2.1 (fpD p9.2.1).2.2.2.2.1 (fun p hp => by rw [← hXC] at hp; simp [cxComp] at hp), ?_, fr9, p9.2.1, q, hv5.append (.cons r9 .nil), ?_, w9⟩
      · exact T.keep _ _ _ st9 fun b hb o e => (Heap.get?_update_other s9.heap _ (by rintro rfl; exact hDf hb)).trans e
      · rw [List.length_append, List.length_singleton]; (first | lia | omega)
  exact codeAny_compStart_list (loop _ rfl) (T.self _ 0 _ _ _ st4 (loop _ rfl))
theorem pe_comp (S : CompScope X scope N cap k) (hc : X.calm = true) (hi : PI X tg iter wi)
    (hg : ∀ C s₀ H₀ ex, PG (cxComp X scope N C s₀ H₀ ex) tg g) (he : ∀ C s₀ H₀ ex, PE (cxComp X scope N C s₀ H₀ ex) elt te)
    (hs : ∀ x, foldedSetIterable iter X.env x = pure x := by intro _; rfl) : PE X (.ListComp elt [⟨tg, iter, [], 0⟩] scope pos) (tComp wi cap k g te) := by
  intro pins s σ H Q I h
  rw [eval_ListComp]
  refine wpAny_comprehension_free (use := none) rfl hs (closureFor_eq fun x hx hf => I.ok.has x.1 (S.free x hx hf)) S.kind S.loc (thn (hi pins s σ H _ I h) fun xv s1 h1 => thn h1 fun itv s2 h2 => ?_)
  obtain ⟨it, fp, tn, J, H2, e, I2, T, st2, f2, W, w0, turn⟩ := h2
  subst e
  refine comp_block (Q := Q) (RR := fun acc C => compPost (model X.prog X.w) X.A X.xe none (EP X pins σ Q) acc C) S hc hg he I2 T st2 f2 W w0 turn ?_
  rintro D C s' m' ⟨H', hn, hk, _, q⟩
  exact ⟨m', hn, fun h' hs' => ⟨.ref D, H', (hk h' hs').1, rfl, q⟩⟩
theorem ps_setComp {i : Nat} {x : Str} {pos' spos : Pos} (hN : X.N.Nodup) (hi' : X.N[i]? = some x) (hx : Loc X.env.scope x) (S : CompScope X scope N cap k) (hc : X.calm = true) (hi : PI X tg iter wi)
    (hg : ∀ C s₀ H₀ ex, PG (cxComp X scope N C s₀ H₀ ex) tg g) (he : ∀ C s₀ H₀ ex, PE (cxComp X scope N C s₀ H₀ ex) elt te)
    (hsw : swapsWith (.ListComp elt [⟨tg, iter, [], 0⟩] scope pos) (some (.Name x pos')) spos.line X.env = pure true := by rfl)
    (hs : ∀ x, foldedSetIterable iter X.env x = pure x := by intro _; rfl) (hf : X.fn x = true ∨ X.env.scope.names.lookup x = some .local := by first | exact .inl rfl | exact .inr rfl | assumption) :
    PS X (.Assign [.Name x pos'] (.ListComp elt [⟨tg, iter, [], 0⟩] scope pos) spos) (tAsg (tComp wi cap k g te) (gName i)) := by
  intro pins s σ H D I h
  rw [exec_Assign_Name_used _ _ _ _ hsw]
  refine wpAny_bind (wpAny_standAt (wpAny_bind ?_))
  show wpAny _ X.A (do let _ ← comprehension (.ListComp elt [⟨tg, iter, [], 0⟩] scope pos) scope X.env _ (newList []) false (eval iter X.env) (some (assign (.Name x pos') X.env))) _ _ s
  refine wpAny_bind (wpAny_mono (wpAny_comprehension_free (use := some (assign (.Name x pos') X.env)) (Q := fun _ s' => SP X pins D .next s') rfl hs (closureFor_eq fun x hx hf => I.ok.has x.1 (S.free x hx hf)) S.kind S.loc
    (thn (hi pins s σ H _ I h) fun xv s1 h1 => thn h1 fun itv s2 h2 => ?_)) (fun _ s' hq => wpAny_pure (wpAny_pure hq)) fun _ _ e => e)
  obtain ⟨it, fp, tn, J, H2, e, I2, T, st2, f2, W, w0, turn⟩ := h2
  subst e
  refine comp_block (Q := fun v H' => D.nx (σ.set i (some v)) H') (RR := fun acc C => compPost (model X.prog X.w) X.A X.xe (some (assign (.Name x pos') X.env)) (fun _ s' => SP X pins D .next s') acc C) S hc hg he I2 T st2 f2 W w0 turn ?_
  rintro DD C s' m' ⟨H', hn, hk, fC, q⟩
  obtain ⟨IP, hL, hcl⟩ := hk s'.heap ⟨rfl, fun _ _ => rfl⟩
  show wpAny _ X.A (assign (.Name x pos') X.env (.ref DD)) _ _ s'
  refine wpAny_assign_Name (store_ok2 (v := .ref DD) IP hN hi' hx rfl (fun s2 I2 ⟨a, hsb, ha⟩ => ?_) hf)
  have hCa : C ≠ a := by
    rcases ha with z | z
    · rw [z]; exact Ne.symm hL
    · exact Ne.symm (hcl x a z)
  refine ⟨m', hn.sameBut hsb hCa, fun h' hs' => ?_⟩
  exact ⟨_, H', I2.turned (t' := s2.toks) (it := C) (fun b o hb e => hs'.extBut b o hb e) fC.1 fC.2.1 fC.2.2.2.1 fC.2.2.2.2.1 fC.2.2.2.2.2, q⟩
end
end L2

namespace L2
open PySem PySem.Spec PyProof.Rows
def Itv (K : PySem.W.Frag) (a : Addr) (n : Nat) : It :=
  ⟨fun i H => i < n ∧ ∃ xs, SqL K H a xs ∧ xs.length = n, fun i H x H' => H' = H ∧ ∀ xs, SqL K H a xs → xs[n - 1 - i]? = some x, fun i _ => i = n⟩
section
variable {X : Cx} {tg : Expr}
def iRev (K : PySem.W.Frag) (ta : TA) : TI := fun σ H R => ta σ H fun vs H1 => ∃ a xs, vs = [.ref a] ∧ H1 a = some (.lst xs) ∧ R (Itv K a xs.length) H1
end
theorem ne4 {m c n : Nat} (h : m + 4 < n) (hc : c = m + 4 ∨ c = m + 2 ∨ c = m + 3 ∨ c = m ∨ c = m + 1) : c ≠ n := by (first | lia | omega)
theorem le4 {m c : Nat} (hc : c = m + 4 ∨ c = m + 2 ∨ c = m + 3 ∨ c = m ∨ c = m + 1) : m ≤ c := by (first | lia | omega)
theorem ne1 {m c n : Nat} (h : m + 1 < n) (hc : c = m + 1 ∨ c = m) : c ≠ n := by (first | lia | omega)
theorem le1 {m c : Nat} (hc : c = m + 1 ∨ c = m) : m ≤ c := by (first | lia | omega)
def Itz (K : PySem.W.Frag) (a b : Addr) : It :=
  ⟨fun i H => ∃ xs ys, SqL K H a xs ∧ SqL K H b ys ∧ i < xs.length ∧ i < ys.length,
   fun i H x H' => ∃ p u v, x = .ref p ∧ H p = none ∧ H' = upd H p (.tup [u, v]) ∧ (∀ xs, SqL K H a xs → xs[i]? = some u) ∧ ∀ ys, SqL K H b ys → ys[i]? = some v,
   fun i H => ∃ xs ys, SqL K H a xs ∧ SqL K H b ys ∧ (xs.length ≤ i ∨ ys.length ≤ i)⟩
theorem turn_zip {P : Program} {w : World} {K : PySem.W.Frag} {elts : List Expr} {k : Nat} {tpos : Pos} (a b m : Addr) (ha : a < m) (hb : b < m) :
    Turn P w K (.Tuple elts k tpos) (Itz K a b) [m + 4, m + 2, m + 3, m, m + 1] (m + 4)
      (fun i h => IsZip h (m + 4) (m + 2) (m + 3) .none ∧ IsPair h (m + 2) (.ref m) (.ref (m + 1)) ∧ (∃ u v, IsPair h (m + 3) u v) ∧ h.IsListIter m a i ∧ h.IsListIter (m + 1) b i) where
  mem := by simp
  obj := fun i h st c hc => by
    obtain ⟨s1, s2, ⟨u, v, s3⟩, ⟨o4, e4, c4, d4⟩, ⟨o5, e5, c5, d5⟩⟩ := st
    simp only [List.mem_cons, List.not_mem_nil, or_false] at hc
    rcases hc with rfl | rfl | rfl | rfl | rfl
    · exact ⟨_, s1, fun v z => by cases z⟩
    · exact ⟨_, s2, fun v z => by cases z⟩
    · exact ⟨_, s3, fun v z => by cases z⟩
    · exact ⟨_, e4, fun v z => by rw [d4] at z; cases z⟩
    · exact ⟨_, e5, fun v z => by rw [d5] at z; cases z⟩
  keep := fun i h h' st kk => by
    obtain ⟨s1, s2, ⟨u, v, s3⟩, s4, s5⟩ := st
    exact ⟨kk _ (by simp) _ s1, kk _ (by simp) _ s2, ⟨u, v, kk _ (by simp) _ s3⟩, s4.at fun o e => kk _ (by simp) o e, s5.at fun o e => kk _ (by simp) o e⟩
  item := by
    intro X hP hw hK hc i pins s σ H E I hf st hg
    subst hP hw hK
    obtain ⟨xs, ys, hx, hy, hxl, hyl⟩ := hg
    obtain ⟨s1, s2, ⟨u0, v0, s3⟩, s4, s5⟩ := st
    obtain ⟨ix, rx, px, _⟩ := I.list hx
    obtain ⟨iy, ry, py, _⟩ := I.list hy
    obtain ⟨u, hu, ru⟩ := rx.get (List.getElem?_eq_getElem hxl)
    obtain ⟨v, hv, rv⟩ := ry.get (List.getElem?_eq_getElem hyl)
    have D := zipApart_new ha hb
    refine wpAny_pyNext_zip_item D s1 s2 s3 s4 s5 px.isList py.isList (x := u) (y := v) (by simpa using hu) (by simpa using hv) fun h' a1 a2 a3 a4 a5 a6 hk => ?_
    refine ⟨_, rfl, wpAny_letOwnedTupleGo_zip a1 fun h2 hz2 hs2 => ?_⟩
    replace hs2 : Heap.SameBut (m + 4) h' h2 := hs2
    have lt4 : m + 4 < s.heap.objs.size := Heap.lt_size s1
    have keepO : ∀ c o, c ∉ [m + 4, m + 2, m + 3, m, m + 1] → s.heap.get? c = some o → h2.get? c = some o := fun c o hc e => by
      simp only [List.mem_cons, List.not_mem_nil, or_false, not_or] at hc
      exact hs2.extBut c o hc.1 (hk c o hc.1 hc.2.2.1 hc.2.2.2.1 hc.2.2.2.2 e)
    have I1 : Inv X pins σ H { s with heap := h2 } := by
      refine I.step (g' := s.gens) (d' := s.drawn) (t' := s.toks) (ch := [m + 4, m + 2, m + 3, m, m + 1]) (fun c hc => ?_) (fun c o _ _ hc e _ => keepO c o hc e) (fun c o _ _ hc e _ => ⟨o.slots, keepO c o hc e⟩) (fun _ _ _ _ nn => nn)
        (fun c o hc e => ⟨o, keepO c o hc e⟩) (fun _ _ e => e) (fun _ _ _ e => e) (fun c ps e => ⟨#[], by rw [e]; simp⟩) (fun mm hm => ?_) (fun c o e => ?_) I.bare
      · obtain ⟨f0, f1, f2, f3, f4, f5⟩ := hf c hc
        exact ⟨f3, f1, f4, f5⟩
      · obtain ⟨o, es, ep, ho, r⟩ := hm
        exact ⟨o, es, ep, keepO _ o (fun z => (hf _ z).2.1 rfl) ho, r⟩
      · have nin : ∀ d u', H d = some u' → d ∉ [m + 4, m + 2, m + 3, m, m + 1] := fun d u' q z => by have := (hf d z).1; rw [q] at this; cases this
        refine (I.hok c o e).stay (fun d v' hd q => keepO d v' ?_ q) (fun _ q => q) fun _ _ q => q
        rcases hd with z | z
        · rw [z]; exact nin c o e
        · exact nin d _ z
    have hfr : H s.heap.objs.size = none := I.hok.fresh (Nat.le_refl _)
    have ht2 : IsPair h2 s.heap.objs.size u v := hs2.extBut _ _ (Nat.ne_of_gt lt4) a5
    have I2 : Inv X pins σ (upd H s.heap.objs.size (.tup [xs[i], ys[i]])) { s with heap := h2 } := by
      have fD : FpOk X pins H s.heap.objs.size := I.fpOk (Nat.le_refl _) hfr
      refine ⟨I1.ok, I1.os, I1.bare, ⟨I1.base.keep, I1.base.slot, fun c o e nn hx => ?_, I1.base.there, fun c zs e => ?_, fun c o u' e => ?_, fun c ps e => ?_⟩, I1.loc, I1.cell, ?_, fun y c e => ?_, fun p hq => ?_, fun c u' e => ?_, I1.len⟩
      · rw [upd_ne (Nat.ne_of_lt (Nat.lt_of_lt_of_le (Heap.lt_size e) I.sz))]; exact I1.base.free c o e nn hx
      · have q := I1.base.tups c zs e
        rw [upd_ne (ne_of_none q hfr)]; exact q
      · have q := I1.base.frzs c o u' e
        rw [upd_ne (ne_of_none q hfr)]; exact q
      · obtain ⟨more, q⟩ := I1.base.tbls c ps e
        exact ⟨more, by rw [upd_ne (ne_of_none q hfr)]; exact q⟩
      · rw [upd_ne (Ne.symm fD.2.1)]; exact I1.free
      · rw [upd_ne (fD.2.2.2.2.1 y c e)]; exact I1.freeC y c e
      · obtain ⟨q1, q2, q3, q4, q5⟩ := I1.pin p hq
        exact ⟨q1, by rw [upd_ne (fD.2.2.2.2.2 p hq)]; exact q2, q3, q4, q5⟩
      · by_cases hc' : c = s.heap.objs.size
        · subst hc'
          rw [upd_same] at e; cases e
          exact ⟨by show 2 ≤ sizeLine; decide, [u, v], .cons ru (.cons rv .nil), ⟨_, ht2, rfl, _, rfl⟩⟩
        · rw [upd_ne hc'] at e
          exact (I1.hok c u' e).stay (fun _ _ _ q => q) (fun d q => by rw [upd_ne (ne_of_none q hfr)]; exact q) fun d zs q => by rw [upd_ne (ne_of_none q hfr)]; exact q
    refine ⟨.ref s.heap.objs.size, _, I2, rfl, ⟨_, _, _, rfl, hfr, rfl, fun zs hz => by rw [I.list_inj hz hx]; exact List.getElem?_eq_getElem hxl, fun zs hz => by rw [I.list_inj hz hy]; exact List.getElem?_eq_getElem hyl⟩, ?_, fun c hc => ?_⟩
    · exact ⟨hz2, hs2.extBut _ _ D.TIz (hk _ _ D.TIz D.TITO D.TIi1 D.TIi2 s2), ⟨_, _, hs2.extBut _ _ D.TOz a2⟩, a3.extBut hs2.extBut D.i1z, a4.extBut hs2.extBut D.i2z⟩
    · have hc2 := (hf c hc).1
      have hlt : c ≠ s.heap.objs.size := by
        simp only [List.mem_cons, List.not_mem_nil, or_false] at hc
        exact ne4 lt4 hc
      rw [upd_ne hlt]; exact hc2
  done := by
    intro X hP hw hK hc i pins s σ H E I hf st hg
    subst hP hw hK
    obtain ⟨xs, ys, hx, hy, hend⟩ := hg
    obtain ⟨s1, s2, ⟨u0, v0, s3⟩, s4, s5⟩ := st
    obtain ⟨ix, rx, px, _⟩ := I.list hx
    obtain ⟨iy, ry, py, _⟩ := I.list hy
    have lx := rx.length
    have ly := ry.length
    have D := zipApart_new ha hb
    refine wpAny_pyNext_zip_end (I.ok.hd hc) D s1 s2 s3 s4 s5 px.isList py.isList (by rcases hend with z | z; exact .inl (by simp; (first | lia | omega)); exact .inr (by simp; (first | lia | omega))) fun h' hk => ⟨rfl, ?_⟩
    have keepO : ∀ c o, c ∉ [m + 4, m + 2, m + 3, m, m + 1] → s.heap.get? c = some o → h'.get? c = some o := fun c o hc e => by
      simp only [List.mem_cons, List.not_mem_nil, or_false, not_or] at hc
      exact hk c o hc.1 hc.2.2.1 hc.2.2.2.1 hc.2.2.2.2 e
    refine I.step (g' := s.gens) (d' := s.drawn) (t' := s.toks) (ch := [m + 4, m + 2, m + 3, m, m + 1]) (fun c hc => ?_) (fun c o _ _ hc e _ => keepO c o hc e) (fun c o _ _ hc e _ => ⟨o.slots, keepO c o hc e⟩) (fun _ _ _ _ nn => nn)
      (fun c o hc e => ⟨o, keepO c o hc e⟩) (fun _ _ e => e) (fun _ _ _ e => e) (fun c ps e => ⟨#[], by rw [e]; simp⟩) (fun mm hm => ?_) (fun c o e => ?_) I.bare
    · obtain ⟨f0, f1, f2, f3, f4, f5⟩ := hf c hc
      exact ⟨f3, f1, f4, f5⟩
    · obtain ⟨o, es, ep, ho, r⟩ := hm
      exact ⟨o, es, ep, keepO _ o (fun z => (hf _ z).2.1 rfl) ho, r⟩
    · have nin : ∀ d u', H d = some u' → d ∉ [m + 4, m + 2, m + 3, m, m + 1] := fun d u' q z => by have := (hf d z).1; rw [q] at this; cases this
      refine (I.hok c o e).stay (fun d v' hd q => keepO d v' ?_ q) (fun _ q => q) fun _ _ q => q
      rcases hd with z | z
      · rw [z]; exact nin c o e
      · exact nin d _ z
  self := fun _ _ _ _ _ st h => wpAny_pyIter_zip st.1 h
end L2

namespace L2
open PySem PySem.Spec PyProof.Rows
theorem boot_zipX : bootBuiltins "zip" = some (.type "zip") := by decide +kernel
theorem boot_enumX : bootBuiltins "enumerate" = some (.type "enumerate") := by decide +kernel
section
variable {X : Cx} {tg : Expr}
def iZip (K : PySem.W.Frag) (ta : TA) : TI := fun σ H R => ta σ H fun vs H1 => ∃ a b xs ys, vs = [.ref a, .ref b] ∧ SqL K H1 a xs ∧ SqL K H1 b ys ∧ R (Itz K a b) H1
theorem pi_zip {e e' : Expr} {ta : TA} {p pos tpos : Pos} {elts : List Expr} {k : Nat} (hg : Gl X "zip") (hm : X.mg "zip" = none) (ha : PA X [e, e'] ta) (hs : starEach [e, e'] X.env = [(false, eval e X.env), (false, eval e' X.env)] := by rfl) (hs2 : starEach [e'] X.env = [(false, eval e' X.env)] := by rfl) :
    PI X (.Tuple elts k tpos) (.Call (.Name "zip" p) [e, e'] [] pos) (iZip X.K ta) := by
  intro pins s σ H R I h
  refine Call_ (ld_blt I hg hm boot_zipX (PyProof.Rows.callWith_type1 (thn (ha pos pins s σ H _ I h) fun us s1 ⟨vs, H1, I1, r1, q1⟩ => ?_) (by rw [hs, hs2]) (by rw [hs2]; rfl)))
  obtain ⟨a, b, xs, ys, e, hx, hy, q⟩ := q1
  subst e
  cases r1 with
  | cons r rr =>
    cases rr with
    | cons r' rr =>
      cases rr
      cases r
      cases r'
      obtain ⟨ix, rx, px, _⟩ := I1.list hx
      obtain ⟨iy, ry, py, _⟩ := I1.list hy
      have la : a < s1.heap.objs.size := by obtain ⟨o, ho, _⟩ := px.isList; exact Heap.lt_size ho
      have lb : b < s1.heap.objs.size := by obtain ⟨o, ho, _⟩ := py.isList; exact Heap.lt_size ho
      refine call_zip_2 px.isList py.isList fun h' hz hTI hTO hi1 hi2 hsz hk => wpAny_pyIter_zip (s := { s1 with heap := h' }) hz ?_
      refine ⟨s1.heap.objs.size + 4, [s1.heap.objs.size + 4, s1.heap.objs.size + 2, s1.heap.objs.size + 3, s1.heap.objs.size, s1.heap.objs.size + 1], _, _, H1, rfl, I1.kept (t' := s1.toks) hk, turn_zip a b s1.heap.objs.size la lb, ⟨hz, hTI, ⟨_, _, hTO⟩, hi1, hi2⟩, fun c hc => ?_, q⟩
      have hle : s1.heap.objs.size ≤ c := by
        simp only [List.mem_cons, List.not_mem_nil, or_false] at hc
        exact le4 hc
      exact I1.fpOk hle (I1.hok.fresh hle)
end
def Ite (K : PySem.W.Frag) (a : Addr) : It :=
  ⟨fun i H => ∃ xs, SqL K H a xs ∧ i < xs.length,
   fun i H x H' => ∃ p u, x = .ref p ∧ H p = none ∧ H' = upd H p (.tup [.int i, u]) ∧ ∀ xs, SqL K H a xs → xs[i]? = some u,
   fun i H => ∃ xs, SqL K H a xs ∧ xs.length ≤ i⟩
theorem turn_enum {P : Program} {w : World} {K : PySem.W.Frag} {elts : List Expr} {k : Nat} {tpos : Pos} (a m : Addr) (ha : a < m) :
    Turn P w K (.Tuple elts k tpos) (Ite K a) [m + 1, m] (m + 1) (fun i h => (∃ old, IsEnum h (m + 1) m (i : Nat) old) ∧ h.IsListIter m a i) where
  mem := by simp
  obj := fun i h st c hc => by
    obtain ⟨⟨old, s1⟩, ⟨o4, e4, c4, d4⟩⟩ := st
    simp only [List.mem_cons, List.not_mem_nil, or_false] at hc
    rcases hc with rfl | rfl
    · exact ⟨_, s1, fun v z => by cases z⟩
    · exact ⟨_, e4, fun v z => by rw [d4] at z; cases z⟩
  keep := fun i h h' st kk => by
    obtain ⟨⟨old, s1⟩, s4⟩ := st
    exact ⟨⟨old, kk _ (by simp) _ s1⟩, s4.at fun o e => kk _ (by simp) o e⟩
  item := by
    intro X hP hw hK hc i pins s σ H E I hf st hg
    subst hP hw hK
    obtain ⟨xs, hx, hxl⟩ := hg
    obtain ⟨⟨old, s1⟩, s4⟩ := st
    obtain ⟨ix, rx, px, _⟩ := I.list hx
    obtain ⟨u, hu, ru⟩ := rx.get (List.getElem?_eq_getElem hxl)
    have hne : m + 1 ≠ m := Nat.succ_ne_self m
    refine wpAny_pyNext_enum_item s1 s4 px.isList (x := u) (by simpa using hu) hne fun h' a1 a3 a5 a6 hk => ?_
    refine ⟨_, rfl, wpAny_letOwnedTupleGo_enum (s := { s with heap := h', toks := s.toks + 1 }) a1 fun h2 hz2 hs2 => ?_⟩
    replace hs2 : Heap.SameBut (m + 1) h' h2 := hs2
    have lt4 : m + 1 < s.heap.objs.size := Heap.lt_size s1
    have keepO : ∀ c o, c ∉ [m + 1, m] → s.heap.get? c = some o → h2.get? c = some o := fun c o hc e => by
      simp only [List.mem_cons, List.not_mem_nil, or_false, not_or] at hc
      exact hs2.extBut c o hc.1 (hk c o hc.1 hc.2 e)
    have I1 : Inv X pins σ H { s with heap := h2, toks := s.toks + 1 } := by
      refine I.step (g' := s.gens) (d' := s.drawn) (t' := s.toks + 1) (ch := [m + 1, m]) (fun c hc => ?_) (fun c o _ _ hc e _ => keepO c o hc e) (fun c o _ _ hc e _ => ⟨o.slots, keepO c o hc e⟩) (fun _ _ _ _ nn => nn)
        (fun c o hc e => ⟨o, keepO c o hc e⟩) (fun _ _ e => e) (fun _ _ _ e => e) (fun c ps e => ⟨#[], by rw [e]; simp⟩) (fun mm hm => ?_) (fun c o e => ?_) I.bare
      · obtain ⟨f0, f1, f2, f3, f4, f5⟩ := hf c hc
        exact ⟨f3, f1, f4, f5⟩
      · obtain ⟨o, es, ep, ho, r⟩ := hm
        exact ⟨o, es, ep, keepO _ o (fun z => (hf _ z).2.1 rfl) ho, r⟩
      · have nin : ∀ d u', H d = some u' → d ∉ [m + 1, m] := fun d u' q z => by have := (hf d z).1; rw [q] at this; cases this
        refine (I.hok c o e).stay (fun d v' hd q => keepO d v' ?_ q) (fun _ q => q) fun _ _ q => q
        rcases hd with z | z
        · rw [z]; exact nin c o e
        · exact nin d _ z
    have hfr : H s.heap.objs.size = none := I.hok.fresh (Nat.le_refl _)
    have ht2 : h2.get? s.heap.objs.size = some { cls := .type "tuple", data := .seq #[.int i s.toks, u] } := hs2.extBut _ _ (Nat.ne_of_gt lt4) a5
    have I2 : Inv X pins σ (upd H s.heap.objs.size (.tup [.int i, xs[i]])) { s with heap := h2, toks := s.toks + 1 } := by
      have fD : FpOk X pins H s.heap.objs.size := I.fpOk (Nat.le_refl _) hfr
      refine ⟨I1.ok, I1.os, I1.bare, ⟨I1.base.keep, I1.base.slot, fun c o e nn hx => ?_, I1.base.there, fun c zs e => ?_, fun c o u' e => ?_, fun c ps e => ?_⟩, I1.loc, I1.cell, ?_, fun y c e => ?_, fun p hq => ?_, fun c u' e => ?_, I1.len⟩
      · rw [upd_ne (Nat.ne_of_lt (Nat.lt_of_lt_of_le (Heap.lt_size e) I.sz))]; exact I1.base.free c o e nn hx
      · have q := I1.base.tups c zs e
        rw [upd_ne (ne_of_none q hfr)]; exact q
      · have q := I1.base.frzs c o u' e
        rw [upd_ne (ne_of_none q hfr)]; exact q
      · obtain ⟨more, q⟩ := I1.base.tbls c ps e
        exact ⟨more, by rw [upd_ne (ne_of_none q hfr)]; exact q⟩
      · rw [upd_ne (Ne.symm fD.2.1)]; exact I1.free
      · rw [upd_ne (fD.2.2.2.2.1 y c e)]; exact I1.freeC y c e
      · obtain ⟨q1, q2, q3, q4, q5⟩ := I1.pin p hq
        exact ⟨q1, by rw [upd_ne (fD.2.2.2.2.2 p hq)]; exact q2, q3, q4, q5⟩
      · by_cases hc' : c = s.heap.objs.size
        · subst hc'
          rw [upd_same] at e; cases e
          exact ⟨by show 2 ≤ sizeLine; decide, [.int i s.toks, u], .cons ⟨_, rfl⟩ (.cons ru .nil), ⟨_, ht2, rfl, _, rfl⟩⟩
        · rw [upd_ne hc'] at e
          exact (I1.hok c u' e).stay (fun _ _ _ q => q) (fun d q => by rw [upd_ne (ne_of_none q hfr)]; exact q) fun d zs q => by rw [upd_ne (ne_of_none q hfr)]; exact q
    refine ⟨.ref s.heap.objs.size, _, I2, rfl, ⟨_, _, rfl, hfr, rfl, fun zs hz => by rw [I.list_inj hz hx]; exact List.getElem?_eq_getElem hxl⟩, ?_, fun c hc => ?_⟩
    · refine ⟨⟨u, ?_⟩, a3.extBut hs2.extBut (Ne.symm hne)⟩
      have e1 : ((i + 1 : Nat) : Int) = (i : Int) + 1 := by push_cast; rfl
      rw [e1]; exact hz2
    · have hc2 := (hf c hc).1
      have hlt : c ≠ s.heap.objs.size := by
        simp only [List.mem_cons, List.not_mem_nil, or_false] at hc
        exact ne1 lt4 hc
      rw [upd_ne hlt]; exact hc2
  done := by
    intro X hP hw hK hc i pins s σ H E I hf st hg
    subst hP hw hK
    obtain ⟨xs, hx, hend⟩ := hg
    obtain ⟨⟨old, s1⟩, s4⟩ := st
    obtain ⟨ix, rx, px, _⟩ := I.list hx
    have lx := rx.length
    refine wpAny_pyNext_enum_end (I.ok.hd hc) s1 s4 px.isList (by simp; (first | lia | omega)) fun h' hk => ⟨rfl, ?_⟩
    have keepO : ∀ c o, c ∉ [m + 1, m] → s.heap.get? c = some o → h'.get? c = some o := fun c o hc e => by
      simp only [List.mem_cons, List.not_mem_nil, or_false, not_or] at hc
      exact hk c o hc.2 e
    refine I.step (g' := s.gens) (d' := s.drawn) (t' := s.toks) (ch := [m + 1, m]) (fun c hc => ?_) (fun c o _ _ hc e _ => keepO c o hc e) (fun c o _ _ hc e _ => ⟨o.slots, keepO c o hc e⟩) (fun _ _ _ _ nn => nn)
      (fun c o hc e => ⟨o, keepO c o hc e⟩) (fun _ _ e => e) (fun _ _ _ e => e) (fun c ps e => ⟨#[], by rw [e]; simp⟩) (fun mm hm => ?_) (fun c o e => ?_) I.bare
    · obtain ⟨f0, f1, f2, f3, f4, f5⟩ := hf c hc
      exact ⟨f3, f1, f4, f5⟩
    · obtain ⟨o, es, ep, ho, r⟩ := hm
      exact ⟨o, es, ep, keepO _ o (fun z => (hf _ z).2.1 rfl) ho, r⟩
    · have nin : ∀ d u', H d = some u' → d ∉ [m + 1, m] := fun d u' q z => by have := (hf d z).1; rw [q] at this; cases this
      refine (I.hok c o e).stay (fun d v' hd q => keepO d v' ?_ q) (fun _ q => q) fun _ _ q => q
      rcases hd with z | z
      · rw [z]; exact nin c o e
      · exact nin d _ z
  self := fun _ _ _ _ _ st h => let ⟨⟨_, s1⟩, _⟩ := st; wpAny_pyIter_enum s1 h
section
variable {X : Cx} {tg : Expr}
def iEnum (K : PySem.W.Frag) (ta : TA) : TI := fun σ H R => ta σ H fun vs H1 => ∃ a xs, vs = [.ref a] ∧ SqL K H1 a xs ∧ R (Ite K a) H1
theorem pi_enum {e : Expr} {ta : TA} {p pos tpos : Pos} {elts : List Expr} {k : Nat} (hg : Gl X "enumerate") (hm : X.mg "enumerate" = none) (ha : PA X [e] ta) (hs : starEach [e] X.env = [(false, eval e X.env)] := by rfl) :
    PI X (.Tuple elts k tpos) (.Call (.Name "enumerate" p) [e] [] pos) (iEnum X.K ta) := by
  intro pins s σ H R I h
  refine Call_ (ld_blt I hg hm boot_enumX (PyProof.Rows.callWith_type1 (thn (ha pos pins s σ H _ I h) fun us s1 ⟨vs, H1, I1, r1, q1⟩ => ?_) hs rfl))
  obtain ⟨a, xs, e, hx, q⟩ := q1
  subst e
  cases r1 with
  | cons r rr =>
    cases rr
    cases r
    obtain ⟨ix, rx, px, _⟩ := I1.list hx
    have la : a < s1.heap.objs.size := by obtain ⟨o, ho, _⟩ := px.isList; exact Heap.lt_size ho
    refine call_enumerate_list px.isList fun h' he hit hsz hk => wpAny_pyIter_enum (s := { s1 with heap := h' }) he ?_
    refine ⟨s1.heap.objs.size + 1, [s1.heap.objs.size + 1, s1.heap.objs.size], _, _, H1, rfl, I1.kept (t' := s1.toks) hk, turn_enum a s1.heap.objs.size la, ⟨⟨_, he⟩, hit⟩, fun c hc => ?_, q⟩
    have hle : s1.heap.objs.size ≤ c := by
      simp only [List.mem_cons, List.not_mem_nil, or_false] at hc
      exact le1 hc
    exact I1.fpOk hle (I1.hok.fresh hle)
end
def Itd (hi : Int) (n : Nat) : It := ⟨fun i _ => i < n, fun i H x H' => H' = H ∧ x = .int (hi - i), fun i _ => n ≤ i⟩
theorem turn_down {P : Program} {w : World} {K : PySem.W.Frag} {tg : Expr} (it : Addr) (hi : Int) (n : Nat) : Turn P w K tg (Itd hi n) [it] it (fun i h => IsRangeIter h it (hi + (i : Nat) * (-1)) ((n : Int) - (i : Nat)) (-1)) where
  mem := by simp
  obj := fun i h st b hb => by
    have e : b = it := by simpa using hb
    subst e
    exact ⟨_, st, fun v z => by
      have z' : Data.fields _ = Data.cell v := z
      cases z'⟩
  keep := fun i h h' st k => k it (by simp) _ st
  item := by
    intro X hP hw hK hc i pins s σ H E I hf st hg
    subst hP hw hK
    obtain ⟨f0, f1, f2, f3, f4, f5⟩ := hf it (by simp)
    have W := Walks.range (prog := X.prog) (w := X.w) (I.ok.hd hc) it hi (-1) n
    refine W.item i s _ _ hg st fun v h' tk hv st' kk => ?_
    obtain ⟨t, rfl⟩ := hv
    have I1 : Inv X pins σ H { s with heap := h', toks := tk } := I.turned (fun b o hb e => kk b o (by simpa using hb) e) f0 f1 f3 f4 f5
    refine ⟨_, rfl, go_of (s := { s with heap := h', toks := tk }) (n := "range_iterator") st' rfl rfl (by decide) ⟨.int (hi - i), H, I1, ⟨t, ?_⟩, ⟨rfl, rfl⟩, st', fun b hb => (hf b hb).1⟩⟩
    have e : hi + (i : Int) * (-1) = hi - i := by (first | lia | omega)
    rw [e]
  done := by
    intro X hP hw hK hc i pins s σ H E I hf st hg
    subst hP hw hK
    obtain ⟨f0, f1, f2, f3, f4, f5⟩ := hf it (by simp)
    exact wpAny_pyNext_range_end (I.ok.hd hc) st (by have : n ≤ i := hg; (first | lia | omega)) fun h' eb => ⟨rfl, I.turned (t' := s.toks) (fun b o hb e => eb b o hb e) f0 f1 f3 f4 f5⟩
  self := fun _ _ _ _ _ st h => wpAny_pyIter_rangeiter st h
theorem size_down {a b : Int} : Builtin.Range.rangeSize a b (-1) = (((a - b).toNat : Nat) : Int) := by
  unfold Builtin.Range.rangeSize
  rw [if_neg (by decide)]
  split
  · have : (a - b - 1) / (- -1) = a - b - 1 := by simp
    rw [this]; (first | lia | omega)
  · (first | lia | omega)
theorem small_down {a b : Int} (ha : -(2 ^ 62) ≤ a) (ha' : a < 2 ^ 62) (hb : -(2 ^ 62) ≤ b) (hb' : b < 2 ^ 62) : Builtin.Range.small a b (-1) = true := by
  unfold Builtin.Range.small
  rw [size_down]
  have e : (((a - b).toNat : Nat) : Int) ≤ 2 ^ 63 - 1 := by (first | lia | omega)
  simp only [Builtin.Range.rangeFitsLong, Bool.and_eq_true, Bool.or_eq_true, decide_eq_true_eq, beq_iff_eq]
  refine ⟨⟨⟨⟨⟨by (first | lia | omega), by (first | lia | omega)⟩, by (first | lia | omega), by (first | lia | omega)⟩, by (first | lia | omega), by (first | lia | omega)⟩, by (first | lia | omega), by (first | lia | omega)⟩, .inr ?_⟩
  rw [if_neg (by decide)]
  simp only [Bool.and_eq_true, decide_eq_true_eq]
  (first | lia | omega)
section
variable {X : Cx} {tg : Expr}
def iRngD (ta : TA) : TI := fun σ H R => ta σ H fun vs H1 => ∃ i j : Int, vs = [.int i, .int j, .int (-1)] ∧ (-(2 ^ 62) ≤ i ∧ i < 2 ^ 62 ∧ -(2 ^ 62) ≤ j ∧ j < 2 ^ 62) ∧ R (Itd i (i - j).toNat) H1
theorem pi_rangeD {a b c : Expr} {ta : TA} {p pos : Pos} (hg : Gl X "range") (hm : X.mg "range" = none) (ha : PA X [a, b, c] ta) (hs : starEach [a, b, c] X.env = [(false, eval a X.env), (false, eval b X.env), (false, eval c X.env)] := by rfl) (hs2 : starEach [b, c] X.env = [(false, eval b X.env), (false, eval c X.env)] := by rfl) :
    PI X tg (.Call (.Name "range" p) [a, b, c] [] pos) (iRngD ta) := by
  intro pins s σ H R I h
  refine Call_ (ld_blt I hg hm boot_range (PyProof.Rows.callWith_type1 (thn (ha pos pins s σ H _ I h) fun us s1 ⟨vs, H1, I1, r1, q1⟩ => ?_) (by rw [hs, hs2]) (by rw [hs2]; rfl)))
  obtain ⟨i, j, e, ⟨q1, q2, q3, q4⟩, q⟩ := q1
  subst e
  cases r1 with
  | cons r rr =>
    cases rr with
    | cons r' rr =>
      cases rr with
      | cons r'' rr =>
        cases rr
        obtain ⟨t, rfl⟩ := r
        obtain ⟨t', rfl⟩ := r'
        obtain ⟨t'', rfl⟩ := r''
        refine call_range_3 (by decide) ?_ (Or.inl (PyProof.noPylong_small (by decide)))
        refine wpAny_pyIter_range (IsRange.new ..) (small_down q1 q2 q3 q4) ?_
        have I2 : Inv X pins σ H1 { s1 with heap := s1.heap.push { cls := .type "range", data := .fields #[.int i t, .int j t', .int (-1) t''] }, toks := s1.toks } := I1.kept fun b o e => Heap.get?_push_of_some _ e
        refine ⟨(s1.heap.push { cls := .type "range", data := .fields #[.int i t, .int j t', .int (-1) t''] }).objs.size, [(s1.heap.push { cls := .type "range", data := .fields #[.int i t, .int j t', .int (-1) t''] }).objs.size], _, _, H1, rfl,
          I2.kept (t' := s1.toks) fun b o e => Heap.get?_push_of_some _ e, turn_down _ i (i - j).toNat, ?_, fun b hb => ?_, q⟩
        · have e1 : i + ((0 : Nat) : Int) * (-1) = i := by simp
          have e2 : (((i - j).toNat : Nat) : Int) - ((0 : Nat) : Int) = Builtin.Range.rangeSize i j (-1) := by rw [size_down]; simp
          show IsRangeIter _ _ (i + ((0 : Nat) : Int) * (-1)) ((((i - j).toNat : Nat) : Int) - ((0 : Nat) : Int)) (-1)
          rw [e1, e2]
          exact Heap.get?_push_size _ rfl
        · have e : b = (s1.heap.push { cls := .type "range", data := .fields #[.int i t, .int j t', .int (-1) t''] }).objs.size := by simpa using hb
          subst e
          exact I2.fpOk (Nat.le_refl _) (I2.hok.fresh (Nat.le_refl _))
end
theorem for_down {hi : Int} {n : Nat} {g : TG} {tb : TS} {D : Ends} {σ : St} {H : Hp} (Pv : Nat → St → Hp → Prop) (h0 : Pv 0 σ H)
    (hs : ∀ i σ H, i < n → Pv i σ H → g (.int (hi - i)) σ H fun σ2 H2 => tb { D with nx := Pv (i + 1), ct := Pv (i + 1), bk := D.nx } σ2 H2) (hd : ∀ σ H, Pv n σ H → D.nx σ H) :
    ∃ W : Nat → Nat → St → Hp → Prop, (∃ m, W 0 m σ H) ∧ ∀ i m σ H, W i m σ H →
      ((Itd hi n).stop i H ∧ D.nx σ H) ∨ ((Itd hi n).go i H ∧ ∃ N : St → Hp → Prop, (∀ σ' H', N σ' H' → ∃ m', m' < m ∧ W (i + 1) m' σ' H') ∧ ∀ x H', (Itd hi n).yld i H x H' → g x σ H' fun σ2 H2 => tb { D with nx := N, ct := N, bk := D.nx } σ2 H2) := by
  refine ⟨fun i m σ H => m = n - i ∧ i ≤ n ∧ Pv i σ H, ⟨n, by simp, Nat.zero_le _, h0⟩, ?_⟩
  rintro i m σ H ⟨rfl, hi, p⟩
  by_cases hlt : i < n
  · refine .inr ⟨hlt, Pv (i + 1), fun σ' H' p' => ⟨n - (i + 1), by (first | lia | omega), rfl, hlt, p'⟩, fun x H' y => ?_⟩
    obtain ⟨e, y⟩ := y
    subst e y
    exact hs i σ _ hlt p
  · have e : i = n := by (first | lia | omega)
    subst e
    exact .inl ⟨Nat.le_refl _, hd σ H p⟩
inductive TyN (H : Hp) : V → String → Prop where
  | non : TyN H .non "NoneType"
  | bl (x : Bool) : TyN H (.bl x) "bool"
  | int (i : Int) : TyN H (.int i) "int"
  | str (x : Str) : TyN H (.str x) "str"
  | lst {a : Addr} {xs : List V} (e : H a = some (.lst xs)) : TyN H (.ref a) "list"
  | tup {a : Addr} {xs : List V} (e : H a = some (.tup xs)) : TyN H (.ref a) "tuple"
theorem TyN.of {H : Hp} {x : V} {n : String} (K : PySem.W.Frag) (t : TyN H x n) : TyOf K H x (.type n) := by
  cases t with
  | non => exact .non
  | bl x => exact .bl x
  | int i => exact .int i
  | str x => exact .str x
  | lst e => exact .lst e
  | tup e => exact .tup e
def isiB (n T : String) : Bool := n == T || (n == "bool" && T == "int")
theorem kit_of (K : PySem.W.Frag) {n T : String} (hn : n ∈ ["NoneType", "bool", "int", "str", "list", "tuple"]) (hT : T ∈ ["bool", "int", "str", "list", "tuple"]) : PySem.W.kitOne K (.type n) (.type T) = some (isiB n T) := by
  simp only [List.mem_cons, List.not_mem_nil, or_false] at hn hT
  rcases hn with rfl | rfl | rfl | rfl | rfl | rfl <;> rcases hT with rfl | rfl | rfl | rfl | rfl <;> kernel_rfl
theorem TyN.mem {H : Hp} {x : V} {n : String} (t : TyN H x n) : n ∈ ["NoneType", "bool", "int", "str", "list", "tuple"] := by
  cases t <;> simp
section
variable {X : Cx}
def rIsi : List V → Hp → VK → Prop := fun xs H Q => ∃ x n T, xs = [x, .ty T] ∧ TyN H x n ∧ T ∈ ["bool", "int", "str", "list", "tuple"] ∧ Q (.bl (isiB n T)) H
theorem call_isi : CallR X (.builtin "isinstance") rIsi := by
  intro pins s σ H xs us Q I rv h
  obtain ⟨x, n, T, rfl, t, hT, q⟩ := h
  obtain ⟨u, v, rfl, ru, rv⟩ := vals2 rv
  cases (show v = Value.type T from rv)
  exact isinst_ok I ru (t.of X.K) (kit_of X.K t.mem hT) fun tk => ⟨.bl _, H, I.tok tk, rfl, q⟩
def isiAny (n : String) (Ts : List String) : Bool := Ts.any (isiB n)
def rIsiT (K : PySem.W.Frag) : List V → Hp → VK → Prop := fun xs H Q => ∃ x n a Ts, xs = [x, .ref a] ∧ TyN H x n ∧ H a = some (.tup (Ts.map V.ty)) ∧ (∀ T ∈ Ts, T ∈ ["bool", "int", "str", "list", "tuple"]) ∧ Q (.bl (isiAny n Ts)) H
end
theorem CompScope.mk' {X : Cx} {scope : Scope} {N : List Str} {cap : List Nat} {k : Nat} (fs : Scope) (XN : List Str) (hfs : X.env.scope = fs) (hXN : X.N = XN)
    (h : (scope.kind = .function ∧ (∀ y ∈ scope.names, y.2 ≠ .cell) ∧ (∀ y ∈ scope.names, y.2 = .free → fs.names.lookup y.1 = some .cell ∨ fs.names.lookup y.1 = some .free) ∧ (∀ y ∈ scope.names, y.2 = .local → scope.names.lookup y.1 = some .local) ∧
      (∀ x ∈ N.take cap.length, scope.names.lookup x = some .free) ∧ cap.map (fun i => XN[i]?) = (N.take cap.length).map some ∧ N.length = cap.length + k)) : CompScope X scope N cap k := by
  subst hfs hXN
  exact ⟨h.1, h.2.1, h.2.2.1, h.2.2.2.1, h.2.2.2.2.1, h.2.2.2.2.2.1, h.2.2.2.2.2.2⟩
def relabelS (scope fs : Scope) : Scope :=
  { scope with names := scope.names.map fun (n, k) => if (k == .free && fs.kind == .function && fs.names.lookup n == some .cell) then (n, .cell) else (n, k) }
def IsRow (H : Hp) (r : Addr) (row : List Int) : Prop := H r = some (.lst (row.map V.int))
def IsRows (H : Hp) : List Addr → List (List Int) → Prop := Paired (IsRow H)
def IsTab (H : Hp) (a : Addr) (rs : List Addr) (T : List (List Int)) : Prop := H a = some (.lst (rs.map V.ref)) ∧ IsRows H rs T
def datT (T : List (List Int)) : PyData := .list (T.map fun r => .list (r.map .int))
theorem shaped_T (T : List (List Int)) : SeqAt.shaped (datT T) = true := by
  have h1 : ∀ T : List (List Int), PyData.canLayAll0 (T.map fun r => PyData.list (r.map .int)) = true := fun T => by
    induction T with
    | nil => rfl
    | cons r T ih => simp [PyData.canLayAll0, PyData.canLay0, PySem.W.ke_canLayAll0, ih]
  have h2 : ∀ T : List (List Int), PyData.depthAll (T.map fun r => PyData.list (r.map .int)) ≤ 1 := fun T => by
    induction T with
    | nil => exact Nat.zero_le _
    | cons r T ih => simp [PyData.depthAll, PyData.depth, PySem.W.ke_depthAll]; (first | lia | omega)
  have := h2 T
  simp [SeqAt.shaped, datT, PyData.canLay0, PyData.depth, h1]
  (first | lia | omega)
theorem eqv_T : ∀ T U : List (List Int), PyData.eqvAll (T.map fun r => PyData.list (r.map .int)) (U.map fun r => PyData.list (r.map .int)) = decide (T = U)
  | [], [] => by simp [PyData.eqvAll]
  | [], _ :: _ => by simp [PyData.eqvAll]
  | _ :: _, [] => by simp [PyData.eqvAll]
  | a :: r, b :: t => by
    simp only [List.map_cons, PyData.eqvAll, PyData.eqv, PySem.W.ked_eqvAll, eqv_T r t]
    by_cases h : a = b <;> by_cases h' : r = t <;> simp [h, h']
section
variable {X : Cx} {pins : List (Addr × Obj)} {σ : St} {H : Hp} {s : Shared}
theorem reads_row (I : Inv X pins σ H s) {r : Addr} {row : List Int} (h : IsRow H r row) : Reads s.heap (.ref r) (.list (row.map .int)) [r] := by
  obtain ⟨_, its, n, rv, e⟩ := (show ObjOk X.prog X.w H s.heap r (.lst (row.map V.int)) from I.hok r _ h)
  have hi := intsAre_of rv
  have all : ∀ {vs : List Value} {ns : List Int}, IntsAre vs ns → ReadsAll s.heap vs (ns.map .int) [] := fun {vs ns} hi => by
    induction hi with
    | nil => exact .nil
    | cons i t _ ih => exact .cons (.int _ _) ih
  exact .list e rfl rfl (all hi)
theorem reads_rows (I : Inv X pins σ H s) : ∀ {rs : List Addr} {T : List (List Int)}, IsRows H rs T → ReadsAll s.heap (rs.map Value.ref) (T.map fun r => .list (r.map .int)) rs
  | _, _, .nil => .nil
  | _, _, .cons h t => .cons (reads_row I h) (reads_rows I t)
theorem vals_ref : ∀ {rs : List Addr} {us : List Value}, Vals (rs.map V.ref) us → us = rs.map Value.ref
  | [], _, .nil => rfl
  | _ :: _, _, .cons r t => by rw [vals_ref t]; cases r; rfl
theorem reads_tab (I : Inv X pins σ H s) {a : Addr} {rs : List Addr} {T : List (List Int)} (h : IsTab H a rs T) : Reads s.heap (.ref a) (datT T) (a :: rs) := by
  obtain ⟨_, its, n, rv, e⟩ := (show ObjOk X.prog X.w H s.heap a (.lst (rs.map V.ref)) from I.hok a _ h.1)
  have := vals_ref rv
  subst this
  exact .list e rfl rfl (reads_rows I h.2)
def rEqT : R2 := fun x y H Q => ∃ a b rs qs T U, x = .ref a ∧ y = .ref b ∧ IsTab H a rs T ∧ IsTab H b qs U ∧ Q (.bl (decide (T = U))) H
def rNeT : R2 := fun x y H Q => ∃ a b rs qs T U, x = .ref a ∧ y = .ref b ∧ IsTab H a rs T ∧ IsTab H b qs U ∧ Q (.bl (!decide (T = U))) H
theorem op_neT (hu : X.A.units + 64 < cLine) : OpR X (compareOp .NotEq) rNeT := by
  intro pins s σ H x y v u Q I rx ry h
  obtain ⟨a, b, rs, qs, T, U, rfl, rfl, ha, hb, q⟩ := h
  cases rx
  cases ry
  refine ne_dataH (reads_tab I ha) (reads_tab I hb) (shaped_T T) (shaped_T U) hu ?_
  refine ⟨.bl (!decide (T = U)), H, I, ?_, q⟩
  show Value.bool (!(PyData.eqvAll _ _)) = _
  rw [eqv_T]
end
end L2

namespace L2
open PySem PySem.Spec PyProof.Rows
structure Callee (P : Program) (w : World) (K : PySem.W.Frag) (mg : Str → Option Value) (base : Heap) (k : Nat) (x : Str) (ps : List Str) (sp : Sp) : Prop where
  ex : ∃ (f : Addr) (fd : FuncData), FnOk P w K mg base CX0 k f fd ps sp ∧ mg x = some (.ref f) ∧ PySem.W.keepIn K (.ref f) = true ∧ Binds K fd ps [] ∧ ∃ (oc : Value) (od : Option Addr) (osl : Array (Option Value)), K.lookup f = some ⟨oc, od, .func fd, osl⟩
theorem pe_callC {X : Cx} {k : Nat} {x : Str} {ps : List Str} {sp : Sp} {p pos : Pos} {e : Expr} {es : List Expr} {t : TA} (C : Callee X.prog X.w X.K X.mg X.base k x ps sp) (hr : Room k X.A) (hg : Gl X x) (ha : PA X (e :: es) t)
    (hdb : (x == ("__debug__" : Str)) = false := by decide) (he : starEach (e :: es) X.env = (false, eval e X.env) :: starEach es X.env := by rfl) (hpl : (backTo pos (starEach es X.env)).any (·.1) = false := by rfl) :
    PE X (.Call (.Name x p) (e :: es) [] pos) (tCall sp [] E0 t) := by
  obtain ⟨f, fd, F, hm, hk, hb, _⟩ := C.ex
  exact pe_call F hr hg hm hk hb .nil pass0 ha hdb he hpl
structure DefAt (K : PySem.W.Frag) (mg : Str → Option Value) (x : Str) (st : Stmt) (ps : List Str) : Prop where
  ex : ∃ (f : Addr) (fd : FuncData), Fun K x x st f fd ∧ mg x = some (.ref f) ∧ Binds K fd ps []
theorem DefAt.ok {P : Program} {w : World} {K : PySem.W.Frag} {mg : Str → Option Value} {base : Heap} {x : Str} {st : Stmt} {N ps : List Str} {k : Nat} {sp : Sp} (D : DefAt K mg x st ps) (S : FnScope N ps (defScope st)) (len : ∀ vs H Q E, sp vs H Q E → vs.length = ps.length)
    (hbody : ∀ (f : Addr) (cdv : Value) (A : Around) (outer : List Env) (s : Shared) (H : Hp) (vs : List V) (Q : VK) (E : XK), Room k (A.deeper (envOfC x (defScope st) s.heap.objs.size f cdv)) → sp vs H Q E →
      ∃ t, PSs (cxOf CX0 P w K mg base N x (defScope st) f cdv A outer s H E).nox (defBody st) t ∧ t { nx := fun _ H' => Q .non H', rt := Q } (start N vs) H) : Callee P w K mg base (k + 1) x ps sp := by
  obtain ⟨f, fd, F, hm, hb⟩ := D.ex
  obtain ⟨oc, od, _, _, _, _, _, _, osl, _, lk, _⟩ := F.ex
  exact ⟨f, fd, F.ok S len (hbody f), hm, F.kp, hb, oc, od, osl, lk⟩
theorem def_mk {K : PySem.W.Frag} {h : Heap} {mg : Str → Option Value} (X : K.In h) (G : h.Ns mainGlobals mg) {x : Str} {st : Stmt} {ps : List Str} {f : Addr} {oc : Value} {od an : Option Addr} {osl : Array (Option Value)} {kV doc pm cdv ct : Value}
    (a : PySem.W.nsIn K mainGlobals x = some (some (.ref f))) (l : K.lookup f = some ⟨oc, od, .func (PySem.W.fnOf x x (defArgs st) (defBody st) (defScope st) .none kV doc pm an cdv ct), osl⟩)
    (c : PySem.W.codeIn K cdv x = true) (k : PySem.W.keepIn K (.ref f) = true)
    (hb : ∀ (kV doc pm : Value) (an : Option Addr) (cdv ct : Value) (us : List Value), us.length = ps.length → bindArgs (PySem.W.fnOf x x (defArgs st) (defBody st) (defScope st) .none kV doc pm an cdv ct) ⟨us, []⟩ = pure (ps.zip us)) : DefAt K mg x st ps :=
  ⟨f, _, fun_mk l c k, PySem.W.mg_of X G a, (fun_mk l c k).binds hb⟩
structure Bt (mg : Str → Option Value) : Prop where
  len : mg "len" = none
  list : mg "list" = none
  tuple : mg "tuple" = none
  int : mg "int" = none
  bool : mg "bool" = none
  str : mg "str" = none
  range : mg "range" = none
  zip : mg "zip" = none
  enumerate : mg "enumerate" = none
  reversed : mg "reversed" = none
  isinstance : mg "isinstance" = none
  min : mg "min" = none
theorem bt_len : bootBuiltins "len" = some (.builtin "len") := by decide +kernel
theorem bt_list : bootBuiltins "list" = some (.type "list") := by decide +kernel
theorem bt_int : bootBuiltins "int" = some (.type "int") := by decide +kernel
theorem bt_bool : bootBuiltins "bool" = some (.type "bool") := by decide +kernel
theorem bt_isinstance : bootBuiltins "isinstance" = some (.builtin "isinstance") := by decide +kernel
theorem bt_min : bootBuiltins "min" = some (.builtin "min") := by decide +kernel
theorem ix_listK {X : Cx} {K : PySem.W.Frag} (h : X.K = K) : IxR X (rIxL K) := h ▸ ix_list
theorem ix_tupK {X : Cx} {K : PySem.W.Frag} (h : X.K = K) : IxR X (rIxT K) := h ▸ ix_tup
theorem call_len_seqK {X : Cx} {K : PySem.W.Frag} (h : X.K = K) : CallR X (.builtin "len") (fun xs H Q => ∃ p ys, xs = [.ref p] ∧ (SqL K H p ys ∨ SqT K H p ys) ∧ Q (.int ys.length) H) := h ▸ call_len_seq
theorem call_list_ofK {X : Cx} {K : PySem.W.Frag} (h : X.K = K) : CallR X (.type "list") (fun xs H Q => ∃ p ys, xs = [.ref p] ∧ (SqL K H p ys ∨ SqT K H p ys) ∧ ∀ l, H l = none → Q (.ref l) (upd H l (.lst ys))) := h ▸ call_list_of
theorem pg_tupK {X : Cx} {K : PySem.W.Frag} {pos : Pos} {es : List Expr} {k : Nat} {t : TGs} {n : Nat} (hK : X.K = K) (hc : X.calm = true) (h : PGs X es t)
    (hn : (assignEach es X.env).length = n := by rfl) (hst : (assignEach es X.env).findIdx? (·.1) = none := by rfl) : PG X (.Tuple es k pos) (gTup K n t) := hK ▸ pg_tup hc h hn hst
theorem comp_it {J : It} {n : Nat} {g : TG} {te : TE} {σ : St} {cap : List Nat} {k : Nat} {H : Hp} {Q : VK} (Pv : Nat → List V → Hp → Prop) (hz : n ≤ sizeLine) (h0 : Pv 0 [] H) (hlen : ∀ i ys H, Pv i ys H → ys.length = i)
    (hgo : ∀ i ys H, i < n → Pv i ys H → J.go i H) (hstop : ∀ ys H, Pv n ys H → J.stop n H)
    (hs : ∀ i x ys H H', i < n → Pv i ys H → J.yld i H x H' → g x (capσ σ cap k) H' fun σ2 H2 => σ2.take cap.length = (capσ σ cap k).take cap.length ∧ te σ2 H2 fun y H3 => Pv (i + 1) (ys ++ [y]) H3)
    (hd : ∀ ys H, Pv n ys H → ∀ D, H D = none → Q (.ref D) (upd H D (.lst ys))) :
    CompW J cap k g te σ H Q := by
  refine ⟨fun i m ys H => m = n - i ∧ i ≤ n ∧ Pv i ys H, ⟨n, by simp, Nat.zero_le _, h0⟩, ?_⟩
  rintro i m ys H ⟨rfl, hi, p⟩
  by_cases hlt : i < n
  · refine .inr ⟨hgo i ys H hlt p, by rw [hlen i ys H p]; (first | lia | omega), fun y H3 => Pv (i + 1) (ys ++ [y]) H3, fun y H3 p' => ⟨n - (i + 1), by (first | lia | omega), rfl, hlt, p'⟩, fun x H' y => hs i x ys H H' hlt p y⟩
  · have e : i = n := by (first | lia | omega)
    subst e
    exact .inl ⟨hstop ys H p, hd ys H p⟩
theorem comp_list {K : PySem.W.Frag} {a : Addr} {xs : List V} {g : TG} {te : TE} {σ : St} {cap : List Nat} {k : Nat} {H : Hp} {Q : VK} (Pv : Nat → List V → Hp → Prop) (hz : xs.length ≤ sizeLine) (h0 : Pv 0 [] H) (hlen : ∀ i ys H, Pv i ys H → ys.length = i)
    (hl : ∀ i ys H, i ≤ xs.length → Pv i ys H → SqL K H a xs)
    (hs : ∀ i x ys H, xs[i]? = some x → Pv i ys H → g x (capσ σ cap k) H fun σ2 H2 => σ2.take cap.length = (capσ σ cap k).take cap.length ∧ te σ2 H2 fun y H3 => Pv (i + 1) (ys ++ [y]) H3)
    (hd : ∀ ys H, Pv xs.length ys H → ∀ D, H D = none → Q (.ref D) (upd H D (.lst ys))) :
    CompW (Itl K a) cap k g te σ H Q := by
  refine comp_it Pv hz h0 hlen (fun i ys H hi p => ⟨xs, xs[i], hl i ys H (Nat.le_of_lt hi) p, by simp [hi]⟩) (fun ys H p => ⟨xs, hl _ ys H (Nat.le_refl _) p, Nat.le_refl _⟩) (fun i x ys H H' hi p y => ?_) hd
  obtain ⟨e, y⟩ := y
  subst e
  exact hs i x ys _ (y xs (hl i ys _ (Nat.le_of_lt hi) p)) p
theorem iteN {c A B : Prop} [Decidable c] (hc : ¬ c) (h : B) : if decide c = true then A else B := by
  rw [decide_eq_false hc]; exact iteF h
theorem iteP {c A B : Prop} [Decidable c] (hc : c) (h : A) : if decide c = true then A else B := by
  rw [decide_eq_true hc]; exact iteT h
theorem iteNN {c A B : Prop} [Decidable c] (hc : ¬ c) (h : A) : if (!decide c) = true then A else B := by
  rw [decide_eq_false hc]; exact iteT h
theorem v_ne {i j : Int} (h : i ≠ j) : ¬ V.int i = V.int j := fun z => h (V.int.inj z)
def Stay (H H' : Hp) (F : List Addr) : Prop := ∀ b o, H b = some o → b ∉ F → H' b = some o
theorem Same.stay {H H' : Hp} (h : Same H H') (F : List Addr) : Stay H H' F := fun b o e _ => h b o e
theorem Stay.same {H H' : Hp} (h : Stay H H' []) : Same H H' := fun b o e => h b o e (by simp)
theorem Same.laid {H H1 : Hp} {p : Addr} {o : HO} (h : Same H H1) (hn : H1 p = none) : Same H (upd H1 p o) := fun b u e => by
  have q := h b u e
  rw [upd_ne (ne_of_none q hn)]; exact q
theorem same_upd {H : Hp} {p : Addr} {o : HO} (hn : H p = none) : Same H (upd H p o) := (Same.refl H).laid hn
structure TabAt (H : Hp) (a : Addr) (rs : List Addr) (T : List (List Int)) : Prop where
  tab : IsTab H a rs T
  nd : (a :: rs).Nodup
theorem IsRows.imp {H H' : Hp} : ∀ {rs : List Addr} {T : List (List Int)}, IsRows H rs T → (∀ r ∈ rs, ∀ o, H r = some o → H' r = some o) → IsRows H' rs T
  | _, _, .nil, _ => .nil
  | _, _, .cons h t, f => .cons (f _ List.mem_cons_self _ h) (IsRows.imp t fun r hr => f r (List.mem_cons_of_mem _ hr))
theorem TabAt.stay {H H' : Hp} {a : Addr} {rs : List Addr} {T : List (List Int)} {F : List Addr} (t : TabAt H a rs T) (s : Stay H H' F) (d : ∀ b ∈ a :: rs, b ∉ F) : TabAt H' a rs T :=
  ⟨⟨s _ _ t.tab.1 (d a List.mem_cons_self), t.tab.2.imp fun r hr o e => s r o e (d r (List.mem_cons_of_mem _ hr))⟩, t.nd⟩
theorem TabAt.same {H H' : Hp} {a : Addr} {rs : List Addr} {T : List (List Int)} (t : TabAt H a rs T) (s : Same H H') : TabAt H' a rs T := t.stay (s.stay []) (by simp)
theorem IsRows.length {H : Hp} {rs : List Addr} {T : List (List Int)} (h : IsRows H rs T) : rs.length = T.length := Paired.length h
theorem IsRows.get {H : Hp} : ∀ {rs : List Addr} {T : List (List Int)} {i : Nat} {row : List Int}, IsRows H rs T → T[i]? = some row → ∃ r, rs[i]? = some r ∧ IsRow H r row
  | _, _, _, _, .nil, e => by simp at e
  | _, _, 0, _, .cons h _, e => by simp at e; subst e; exact ⟨_, rfl, h⟩
  | _, _, i + 1, row, .cons _ t, e => by
    obtain ⟨r, h1, h2⟩ := IsRows.get (i := i) (row := row) t (by simpa using e)
    exact ⟨r, by simpa using h1, h2⟩
theorem IsRows.tracked {H : Hp} : ∀ {rs : List Addr} {T : List (List Int)}, IsRows H rs T → ∀ r ∈ rs, ∃ row, IsRow H r row
  | _, _, .nil, _, h => nomatch h
  | _, _, .cons h t, r, hr => by
    rcases List.mem_cons.mp hr with rfl | hr
    · exact ⟨_, h⟩
    · exact IsRows.tracked t r hr
theorem TabAt.tracked {H : Hp} {a : Addr} {rs : List Addr} {T : List (List Int)} (t : TabAt H a rs T) : ∀ b ∈ a :: rs, ∃ o, H b = some o := fun b hb => by
  rcases List.mem_cons.mp hb with rfl | hb
  · exact ⟨_, t.tab.1⟩
  · obtain ⟨row, h⟩ := t.tab.2.tracked b hb
    exact ⟨_, h⟩
theorem IsRows.set {H : Hp} : ∀ {rs : List Addr} {T : List (List Int)} {i : Nat} {r : Addr} {row : List Int}, IsRows H rs T → rs.Nodup → rs[i]? = some r → IsRows (upd H r (.lst (row.map V.int))) rs (T.set i row)
  | _, _, _, _, _, .nil, _, e => by simp at e
  | q :: rs, t :: T, 0, r, row, .cons h l, nd, e => by
    simp at e; subst e
    refine .cons upd_same (IsRows.imp l fun b hb o eo => ?_)
    rw [upd_ne (by rintro rfl; exact (List.nodup_cons.mp nd).1 hb)]; exact eo
  | q :: rs, t :: T, i + 1, r, row, .cons h l, nd, e => by
    have e' : rs[i]? = some r := by simpa using e
    have hr : r ∈ rs := List.mem_of_getElem? e'
    refine .cons ?_ (IsRows.set l (List.nodup_cons.mp nd).2 e')
    have hne : q ≠ r := by rintro rfl; exact (List.nodup_cons.mp nd).1 hr
    show upd H r _ q = _
    rw [upd_ne hne]; exact h
theorem TabAt.cell {H : Hp} {a : Addr} {rs : List Addr} {T : List (List Int)} {i : Nat} {r : Addr} {row : List Int} (t : TabAt H a rs T) (e : rs[i]? = some r) : TabAt (upd H r (.lst (row.map V.int))) a rs (T.set i row) := by
  have nd := List.nodup_cons.mp t.nd
  refine ⟨⟨?_, t.tab.2.set nd.2 e⟩, t.nd⟩
  have hne : a ≠ r := by rintro rfl; exact nd.1 (List.mem_of_getElem? e)
  rw [upd_ne hne]; exact t.tab.1
theorem IsRows.put {H : Hp} : ∀ {rs : List Addr} {T : List (List Int)} {i : Nat} {p : Addr} {row : List Int}, IsRows H rs T → IsRow H p row → IsRows H (rs.set i p) (T.set i row)
  | _, _, _, _, _, .nil, _ => .nil
  | _, _, 0, _, _, .cons _ l, hp => .cons hp l
  | _, _, i + 1, _, _, .cons h l, hp => .cons h (IsRows.put l hp)
end L2

namespace X1
open PySem L2
abbrev Tb := List (List Int)
inductive Ch where
  | add (s : Bool) (i j : Nat) (q : Int) | swap (s : Bool) (i j : Nat) | turn (s : Bool) (i : Nat)
def sd (s : Bool) : Str := if s then "row" else "column"
def chV : Ch → List V
  | .add s i j q => [.str "add", .str (sd s), .int i, .int j, .int q]
  | .swap s i j => [.str "swap", .str (sd s), .int i, .int j]
  | .turn s i => [.str "turn", .str (sd s), .int i]
def Ch.side : Ch → Bool
  | .add s _ _ _ => s
  | .swap s _ _ => s
  | .turn s _ => s
def dim (s : Bool) (m n : Nat) : Nat := if s then m else n
def Ch.ok (m n : Nat) : Ch → Prop
  | .add s i j _ => i < dim s m n ∧ j < dim s m n ∧ i ≠ j
  | .swap s i j => i < dim s m n ∧ j < dim s m n ∧ i ≠ j
  | .turn s i => i < dim s m n
def Ch.small : Ch → Prop
  | .add _ _ _ q => -(2 ^ 64) < q ∧ q < 2 ^ 64
  | _ => True
def Ch.app : Ch → Tb → Tb
  | .add true i j q, T => T.set i (List.zipWith (fun x y => x + q * y) (T.getD i []) (T.getD j []))
  | .add false i j q, T => T.map fun r => r.set i (r.getD i 0 + q * r.getD j 0)
  | .swap true i j, T => (T.set i (T.getD j [])).set j (T.getD i [])
  | .swap false i j, T => T.map fun r => (r.set i (r.getD j 0)).set j (r.getD i 0)
  | .turn true i, T => T.set i ((T.getD i []).map fun x => -x)
  | .turn false i, T => T.map fun r => r.set i (-(r.getD i 0))
def apps (cs : List Ch) (T : Tb) : Tb := cs.foldl (fun T c => c.app T) T
def Ch.back : Ch → Ch
  | .add s i j q => .add s i j (-q)
  | c => c
def backs (cs : List Ch) : List Ch := cs.reverse.map Ch.back
def Rect (m n : Nat) (T : Tb) : Prop := T.length = m ∧ ∀ r ∈ T, r.length = n
def ent (T : Tb) (i j : Nat) : Int := (T.getD i []).getD j 0
def setE (T : Tb) (i j : Nat) (v : Int) : Tb := T.set i ((T.getD i []).set j v)
section
variable {m n : Nat} {T U : Tb}
theorem Rect.row (h : Rect m n T) {i : Nat} (hi : i < m) : (T.getD i []).length = n := by
  have hi' : i < T.length := by rw [h.1]; exact hi
  have e : T.getD i [] = T[i] := by simp [hi']
  rw [e]
  exact h.2 _ (List.getElem_mem hi')
theorem Rect.set (h : Rect m n T) {i : Nat} {r : List Int} (hr : r.length = n) : Rect m n (T.set i r) := by
  refine ⟨by rw [List.length_set]; exact h.1, fun q hq => ?_⟩
  rcases List.mem_or_eq_of_mem_set hq with z | z
  · exact h.2 q z
  · rw [z]; exact hr
theorem Rect.map (h : Rect m n T) {f : List Int → List Int} (hf : ∀ r, r.length = n → (f r).length = n) : Rect m n (T.map f) := by
  refine ⟨by rw [List.length_map]; exact h.1, fun q hq => ?_⟩
  obtain ⟨r, hr, rfl⟩ := List.mem_map.mp hq
  exact hf r (h.2 r hr)
theorem Rect.setE (h : Rect m n T) {i j : Nat} {v : Int} (hi : i < m) : Rect m n (setE T i j v) := h.set (by rw [List.length_set]; exact h.row hi)
theorem ent_set {i : Nat} {r : List Int} (hi : i < T.length) (x y : Nat) : ent (T.set i r) x y = if x = i then r.getD y 0 else ent T x y := by
  unfold ent
  by_cases hx : x = i
  · subst hx
    simp [hi]
  · rw [if_neg hx]
    simp only [List.getD_eq_getElem?_getD, List.getElem?_set_ne (Ne.symm hx)]
theorem getD_set {r : List Int} {i : Nat} {v : Int} (hi : i < r.length) (y : Nat) : (r.set i v).getD y 0 = if y = i then v else r.getD y 0 := by
  by_cases hy : y = i
  · subst hy; simp [hi]
  · rw [if_neg hy]; simp only [List.getD_eq_getElem?_getD, List.getElem?_set_ne (Ne.symm hy)]
theorem ent_setE (h : Rect m n T) {i j : Nat} {v : Int} (hi : i < m) (hj : j < n) (x y : Nat) : ent (setE T i j v) x y = if x = i ∧ y = j then v else ent T x y := by
  unfold setE
  rw [ent_set (by rw [h.1]; exact hi)]
  have hl := h.row hi
  by_cases hx : x = i
  · subst hx
    rw [if_pos rfl, getD_set (by rw [hl]; exact hj)]
    by_cases hy : y = j
    · rw [if_pos hy, if_pos ⟨rfl, hy⟩]
    · rw [if_neg hy, if_neg (fun z => hy z.2)]; rfl
  · simp [hx]
theorem ent_map {f : List Int → List Int} {x y : Nat} (hx : x < T.length) : ent (T.map f) x y = (f (T.getD x [])).getD y 0 := by
  unfold ent
  simp [hx]
theorem tb_ext (h : Rect m n T) (h' : Rect m n U) (e : ∀ i j, i < m → j < n → ent T i j = ent U i j) : T = U := by
  refine List.ext_getElem (by rw [h.1, h'.1]) fun i h1 h2 => ?_
  have l1 := h.2 _ (List.getElem_mem h1)
  have l2 := h'.2 _ (List.getElem_mem h2)
  refine List.ext_getElem (by rw [l1, l2]) fun j g1 g2 => ?_
  have q := e i j (by rw [← h.1]; exact h1) (by rw [← l1]; exact g1)
  unfold ent at q
  simpa [h1, h2, g1, g2] using q
theorem Ch.app_rect (h : Rect m n T) {c : Ch} (hc : c.ok m n) : Rect m n (c.app T) := by
  cases c with
  | add s i j q =>
    cases s with
    | true =>
      obtain ⟨h1, h2, h3⟩ := hc
      refine h.set ?_
      rw [List.length_zipWith, h.row h1, h.row h2, Nat.min_self]
    | false => exact h.map fun r hr => by rw [List.length_set]; exact hr
  | swap s i j =>
    cases s with
    | true =>
      obtain ⟨h1, h2, h3⟩ := hc
      exact (h.set (h.row h2)).set (h.row h1)
    | false => exact h.map fun r hr => by rw [List.length_set, List.length_set]; exact hr
  | turn s i =>
    cases s with
    | true => exact h.set (by rw [List.length_map]; exact h.row hc)
    | false => exact h.map fun r hr => by rw [List.length_set]; exact hr
theorem getD_zip {f : Int → Int → Int} {a b : List Int} {y : Nat} (ha : y < a.length) (hb : y < b.length) : (List.zipWith f a b).getD y 0 = f (a.getD y 0) (b.getD y 0) := by
  simp [List.getElem?_zipWith, ha, hb]
theorem ent_add_row (h : Rect m n T) {i j : Nat} {q : Int} (h1 : i < m) (h2 : j < m) {x y : Nat} (hy : y < n) : ent ((Ch.add true i j q).app T) x y = if x = i then ent T i y + q * ent T j y else ent T x y := by
  show ent (T.set i _) x y = _
  rw [ent_set (by rw [h.1]; exact h1)]
  by_cases hx : x = i
  · rw [if_pos hx, if_pos hx, getD_zip (by rw [h.row h1]; exact hy) (by rw [h.row h2]; exact hy)]
    rfl
  · rw [if_neg hx, if_neg hx]
theorem ent_swap_row (h : Rect m n T) {i j : Nat} (h1 : i < m) (h2 : j < m) {x y : Nat} : ent ((Ch.swap true i j).app T) x y = if x = j then ent T i y else if x = i then ent T j y else ent T x y := by
  show ent ((T.set i _).set j _) x y = _
  rw [ent_set (by rw [List.length_set, h.1]; exact h2), ent_set (by rw [h.1]; exact h1)]
  rfl
theorem ent_turn_row (h : Rect m n T) {i : Nat} (h1 : i < m) {x y : Nat} : ent ((Ch.turn true i).app T) x y = if x = i then -(ent T i y) else ent T x y := by
  show ent (T.set i _) x y = _
  rw [ent_set (by rw [h.1]; exact h1)]
  by_cases hx : x = i
  · rw [if_pos hx, if_pos hx]
    unfold ent
    generalize T.getD i [] = r
    by_cases hy : y < r.length
    · simp [hy]
    · simp [Nat.not_lt.mp hy]
  · rw [if_neg hx, if_neg hx]
theorem ent_add_col (h : Rect m n T) {i j : Nat} {q : Int} (h1 : i < n) {x y : Nat} (hx : x < m) : ent ((Ch.add false i j q).app T) x y = if y = i then ent T x i + q * ent T x j else ent T x y := by
  show ent (T.map _) x y = _
  rw [ent_map (by rw [h.1]; exact hx), getD_set (by rw [h.row hx]; exact h1)]
  rfl
theorem ent_swap_col (h : Rect m n T) {i j : Nat} (h1 : i < n) (h2 : j < n) {x y : Nat} (hx : x < m) : ent ((Ch.swap false i j).app T) x y = if y = j then ent T x i else if y = i then ent T x j else ent T x y := by
  show ent (T.map _) x y = _
  rw [ent_map (by rw [h.1]; exact hx), getD_set (by rw [List.length_set, h.row hx]; exact h2), getD_set (by rw [h.row hx]; exact h1)]
  rfl
theorem ent_turn_col (h : Rect m n T) {i : Nat} (h1 : i < n) {x y : Nat} (hx : x < m) : ent ((Ch.turn false i).app T) x y = if y = i then -(ent T x i) else ent T x y := by
  show ent (T.map _) x y = _
  rw [ent_map (by rw [h.1]; exact hx), getD_set (by rw [h.row hx]; exact h1)]
  rfl
theorem apps_rect : ∀ {cs : List Ch} {T : Tb}, Rect m n T → (∀ c ∈ cs, c.ok m n) → Rect m n (apps cs T)
  | [], _, h, _ => h
  | c :: cs, T, h, hc => apps_rect (cs := cs) (c.app_rect h (hc c List.mem_cons_self)) fun d hd => hc d (List.mem_cons_of_mem _ hd)
theorem apps_append (cs ds : List Ch) (T : Tb) : apps (cs ++ ds) T = apps ds (apps cs T) := by unfold apps; rw [List.foldl_append]
end
def spot (s : Bool) (p k : Nat) : Nat × Nat := if s then (p, k) else (k, p)
def stepW (c : Ch) (T : Tb) (k : Nat) : Tb := match c with
  | .turn s i => setE T (spot s i k).1 (spot s i k).2 (0 - ent T (spot s i k).1 (spot s i k).2)
  | .swap s i j => setE (setE T (spot s i k).1 (spot s i k).2 (ent T (spot s j k).1 (spot s j k).2)) (spot s j k).1 (spot s j k).2 (ent T (spot s i k).1 (spot s i k).2)
  | .add s i j q => setE T (spot s i k).1 (spot s i k).2 (ent T (spot s i k).1 (spot s i k).2 + ent T (spot s j k).1 (spot s j k).2 * q)
def walkN (c : Ch) (T : Tb) (k : Nat) : Tb := (List.range k).foldl (stepW c) T
theorem walkN_succ (c : Ch) (T : Tb) (k : Nat) : walkN c T (k + 1) = stepW c (walkN c T k) k := by
  unfold walkN; rw [List.range_succ, List.foldl_append]; rfl
theorem walkN_spec {m n : Nat} {T : Tb} (h : Rect m n T) {c : Ch} (hc : c.ok m n) : ∀ k, k ≤ dim c.side n m → Rect m n (walkN c T k) ∧ ∀ x y, x < m → y < n → ent (walkN c T k) x y = if (if c.side then y else x) < k then ent (c.app T) x y else ent T x y
  | 0, _ => ⟨h, fun x y _ _ => by simp [walkN]⟩
  | k + 1, hk => by
    obtain ⟨hr, he⟩ := walkN_spec h hc k (by (first | lia | omega))
    rw [walkN_succ]
    generalize hW : walkN c T k = W at hr he
    have hk' : k < dim c.side n m := hk
    cases c with
    | turn s i =>
      cases s with
      | true =>
        have h1 : i < m := hc
        have h2 : k < n := hk'
        show Rect m n (setE W i k (0 - ent W i k)) ∧ ∀ x y, x < m → y < n → ent (setE W i k (0 - ent W i k)) x y = if y < k + 1 then _ else _
        refine ⟨hr.setE h1, fun x y hx hy => ?_⟩
        rw [ent_setE hr h1 h2]
        have e1 := he x y hx hy
        have e2 := he i k h1 h2
        simp only [Ch.side, if_true, Nat.lt_irrefl, if_false] at e1 e2
        rw [e1, e2, ent_turn_row h h1]
        by_cases hxi : x = i
        · subst hxi
          by_cases hyk : y = k
          · subst hyk; simp
          · simp only [hyk, and_false, if_false, if_true]
            have : (y < k) = (y < k + 1) := by apply propext; (first | lia | omega)
            simp only [this]
        · simp [hxi]
      | false =>
        have h1 : i < n := hc
        have h2 : k < m := hk'
        show Rect m n (setE W k i (0 - ent W k i)) ∧ ∀ x y, x < m → y < n → ent (setE W k i (0 - ent W k i)) x y = if x < k + 1 then _ else _
        refine ⟨hr.setE h2, fun x y hx hy => ?_⟩
        rw [ent_setE hr h2 h1]
        have e1 := he x y hx hy
        have e2 := he k i h2 h1
        simp only [Ch.side, Bool.false_eq_true, Nat.lt_irrefl, if_false] at e1 e2
        rw [e1, e2, ent_turn_col h h1 hx]
        by_cases hyi : y = i
        · subst hyi
          by_cases hxk : x = k
          · subst hxk; simp
          · simp only [hxk, false_and, if_false, if_true]
            have : (x < k) = (x < k + 1) := by apply propext; (first | lia | omega)
            simp only [this]
        · simp [hyi]
    | add s i j q =>
      obtain ⟨h1, h1', h3⟩ := hc
      cases s with
      | true =>
        have h2 : k < n := hk'
        have h1 : i < m := h1
        have h1' : j < m := h1'
        show Rect m n (setE W i k (ent W i k + ent W j k * q)) ∧ ∀ x y, x < m → y < n → ent (setE W i k (ent W i k + ent W j k * q)) x y = if y < k + 1 then _ else _
        refine ⟨hr.setE h1, fun x y hx hy => ?_⟩
        rw [ent_setE hr h1 h2]
        have e1 := he x y hx hy
        have e2 := he i k h1 h2
        have e3 := he j k h1' h2
        simp only [Ch.side, if_true, Nat.lt_irrefl, if_false] at e1 e2 e3
        rw [e1, e2, e3, ent_add_row h h1 h1' hy]
        by_cases hxi : x = i
        · subst hxi
          by_cases hyk : y = k
          · subst hyk; simp [Int.mul_comm]
          · simp only [hyk, and_false, if_false, if_true]
            have : (y < k) = (y < k + 1) := by apply propext; (first | lia | omega)
            simp only [this]
        · simp [hxi]
      | false =>
        have h2 : k < m := hk'
        have h1 : i < n := h1
        have h1' : j < n := h1'
        show Rect m n (setE W k i (ent W k i + ent W k j * q)) ∧ ∀ x y, x < m → y < n → ent (setE W k i (ent W k i + ent W k j * q)) x y = if x < k + 1 then _ else _
        refine ⟨hr.setE h2, fun x y hx hy => ?_⟩
        rw [ent_setE hr h2 h1]
        have e1 := he x y hx hy
        have e2 := he k i h2 h1
        have e3 := he k j h2 h1'
        simp only [Ch.side, Bool.false_eq_true, Nat.lt_irrefl, if_false] at e1 e2 e3
        rw [e1, e2, e3, ent_add_col h h1 hx]
        by_cases hyi : y = i
        · subst hyi
          by_cases hxk : x = k
          · subst hxk; simp [Int.mul_comm]
          · simp only [hxk, false_and, if_false, if_true]
            have : (x < k) = (x < k + 1) := by apply propext; (first | lia | omega)
            simp only [this]
        · simp [hyi]
    | swap s i j =>
      obtain ⟨h1, h1', h3⟩ := hc
      cases s with
      | true =>
        have h2 : k < n := hk'
        have h1 : i < m := h1
        have h1' : j < m := h1'
        show Rect m n (setE (setE W i k (ent W j k)) j k (ent W i k)) ∧ ∀ x y, x < m → y < n → ent (setE (setE W i k (ent W j k)) j k (ent W i k)) x y = if y < k + 1 then _ else _
        refine ⟨(hr.setE h1).setE h1', fun x y hx hy => ?_⟩
        rw [ent_setE (hr.setE h1) h1' h2, ent_setE hr h1 h2]
        have e1 := he x y hx hy
        have e2 := he i k h1 h2
        have e3 := he j k h1' h2
        simp only [Ch.side, if_true, Nat.lt_irrefl, if_false] at e1 e2 e3
        rw [e1, e2, e3, ent_swap_row h h1 h1']
        have hlt : (y < k) = (y < k + 1 ∧ y ≠ k) := by apply propext; (first | lia | omega)
        by_cases hyk : y = k
        · subst hyk
          by_cases hxj : x = j
          · subst hxj; simp
          · by_cases hxi : x = i
            · subst hxi; simp [hxj]
            · simp [hxi, hxj]
        · simp only [hyk, and_false, if_false]
          have : (y < k) = (y < k + 1) := by apply propext; (first | lia | omega)
          simp only [this]
      | false =>
        have h2 : k < m := hk'
        have h1 : i < n := h1
        have h1' : j < n := h1'
        show Rect m n (setE (setE W k i (ent W k j)) k j (ent W k i)) ∧ ∀ x y, x < m → y < n → ent (setE (setE W k i (ent W k j)) k j (ent W k i)) x y = if x < k + 1 then _ else _
        refine ⟨(hr.setE h2).setE h2, fun x y hx hy => ?_⟩
        rw [ent_setE (hr.setE h2) h2 h1', ent_setE hr h2 h1]
        have e1 := he x y hx hy
        have e2 := he k i h2 h1
        have e3 := he k j h2 h1'
        simp only [Ch.side, Bool.false_eq_true, Nat.lt_irrefl, if_false] at e1 e2 e3
        rw [e1, e2, e3, ent_swap_col h h1 h1' hx]
        by_cases hxk : x = k
        · subst hxk
          by_cases hyj : y = j
          · subst hyj; simp
          · by_cases hyi : y = i
            · subst hyi; simp [hyj]
            · simp [hyi, hyj]
        · simp only [hxk, false_and, if_false]
          have : (x < k) = (x < k + 1) := by apply propext; (first | lia | omega)
          simp only [this]
theorem walkN_all {m n : Nat} {T : Tb} (h : Rect m n T) {c : Ch} (hc : c.ok m n) : walkN c T (dim c.side n m) = c.app T := by
  obtain ⟨hr, he⟩ := walkN_spec h hc (dim c.side n m) (Nat.le_refl _)
  refine tb_ext hr (c.app_rect h hc) fun x y hx hy => ?_
  rw [he x y hx hy, if_pos]
  unfold dim
  cases c.side <;> simp <;> assumption
end X1

namespace L2
open PySem PySem.Spec PyProof.Rows
section
variable {X : Cx}
def CMulB (i j : Int) : Prop := i.natAbs ≤ 2 ^ 33554432 ∧ j.natAbs ≤ 2 ^ 33554432
theorem le_pow_bits {c : Nat} {i : Int} (h : i.natAbs ≤ 2 ^ c) : Builtin.Int.intBits i ≤ c + 1 :=
  PySem.intBits_le_iff.mpr (Nat.lt_of_le_of_lt h (Nat.pow_lt_pow_succ (by decide)))
theorem mulOkB {i j : Int} {c : Nat} (hc : c ≤ 33554432) (hi : i.natAbs ≤ 2 ^ c) (hj : j.natAbs ≤ 2 ^ c) : IntMulOk i j := PySem.IntMulOk.of_le (le_pow_bits hi) (le_pow_bits hj) (by (first | lia | omega))
theorem op_mulB (c : Nat) (hc : c ≤ 33554432) : OpR X (binaryOp .Mult) (rI (fun i j => i.natAbs ≤ 2 ^ c ∧ j.natAbs ≤ 2 ^ c) fun i j => .int (i * j)) := opI fun _ _ _ _ _ _ _ h q => mul_int q (mulOkB hc h.1 h.2)
theorem op_fdivB {k : Nat} (hs : X.base.NoSeer) (ht : X.prog.given.tree = none) (hr : Room k X.A) (hk : 32 ≤ k) (hgen : X.env.scope.isGenerator = false) (hco : X.env.scope.isCoroutine = false) (hst : ∃ l, X.stack = X.env :: l) :
    OpR X (binaryOp .FloorDiv) (rI (fun _ j => j ≠ 0) fun i j => .int (i.fdiv j)) := by
  intro pins s σ H x y v u Q I rx ry h
  obtain ⟨i, j, rfl, rfl, hj, q⟩ := h
  obtain ⟨t, rfl⟩ := rx
  obtain ⟨t', rfl⟩ := ry
  obtain ⟨l, hl⟩ := hst
  refine floordiv_int hj ⟨.int (i.fdiv j), H, I.tok _, ⟨_, rfl⟩, q⟩ (.inr (PylongRoom.of I.nolimit ?_ (SeerAt.of (env := X.env) (l := l) (hs.keeps I.bk) ht (by rw [I.env0.frames, hl]) hgen hco I.ok.blt I.ok.glob)))
  have := hr.dp
  show X.A.depth + 100 < recursionLimit
  (first | lia | omega)
def rInsert : V → List V → Hp → VK → Prop := fun x vs H Q => ∃ l xs i y, x = .ref l ∧ vs = [.int (i : Nat), y] ∧ H l = some (.lst xs) ∧ i ≤ xs.length ∧ xs.length < sizeLine ∧ Q .non (upd H l (.lst (xs.take i ++ y :: xs.drop i)))
theorem vals_take : ∀ {vs : List V} {us : List Value} (i : Nat), Vals vs us → Vals (vs.take i) (us.take i)
  | _, _, 0, _ => .nil
  | _, _, _ + 1, .nil => .nil
  | _, _, i + 1, .cons h t => .cons h (vals_take i t)
theorem vals_drop : ∀ {vs : List V} {us : List Value} (i : Nat), Vals vs us → Vals (vs.drop i) (us.drop i)
  | _, _, 0, h => h
  | _, _, _ + 1, .nil => .nil
  | _, _, i + 1, .cons _ t => vals_drop i t
theorem mt_insert : MtM X "list.insert" rInsert := by
  intro pins s σ H x vs v us Q I rx rv h
  obtain ⟨l, xs, i, y, rfl, rfl, hH, hi, hz, q⟩ := h
  cases rx
  cases rv with
  | cons r1 r2 =>
  cases r2 with
  | cons r2 r3 =>
  cases r3
  rename_i u1 u2
  obtain ⟨tk, rfl⟩ := (show ∃ t, u1 = Value.int (i : Nat) t from r1)
  obtain ⟨z, its, n, r, hl, e⟩ := I.lstM hH
  obtain ⟨x, hx⟩ : ∃ x : Int, x = ((i : Nat) : Int) := ⟨_, rfl⟩
  rw [← hx]
  have hsz := PySem.sizeLine_eq
  have hf : Builtin.List.listFitsIndex x = true := by
    unfold Builtin.List.listFitsIndex
    simp
    (first | lia | omega)
  refine call_meets PySem.F.slot_list_insert ⟨_, e, rfl⟩ PySem.F.entry_list_insert (PySem.F.args_list_insert_3 _ _ _) (PySem.AutoSeq1.list_insert_list_int_val_1 l its.toArray n x tk u2 (by simp [hf]) (by rw [List.size_toArray]; (first | lia | omega))) ⟨e, ?_⟩
  refine ⟨.non, _, I.lset (its' := its.take i ++ u2 :: its.drop i) hH e ?_ ((vals_take i r).append (.cons r2 (vals_drop i r))) ?_, rfl, q⟩
  · have hk : (if x < 0 then (x + ((its.toArray.size : Nat) : Int)).toNat else min x.toNat its.toArray.size) = i := by
      rw [if_neg (by (first | lia | omega)), List.size_toArray]
      (first | lia | omega)
    show (its.toArray.extract 0 (if x < 0 then (x + ((its.toArray.size : Nat) : Int)).toNat else min x.toNat its.toArray.size)).push u2 ++ its.toArray.extract (if x < 0 then (x + ((its.toArray.size : Nat) : Int)).toNat else min x.toNat its.toArray.size) = _
    rw [hk]
    exact PySem.W.kl_ins_eq its i u2
  · rw [List.length_append, List.length_cons, List.length_take, List.length_drop]
    (first | lia | omega)
structure MCallee (P : Program) (w : World) (K : PySem.W.Frag) (mg : Str → Option Value) (base : Heap) (C : Addr) (k : Nat) (m : Str) (ps : List Str) (sp : Sp) : Prop where
  cl : Cls K C
  ex : ∃ (f : Addr) (fd : FuncData), FnOk P w K mg base CX0 k f fd ps sp ∧ Meth K C m f ∧ Binds K fd ps []
theorem pe_methC {k : Nat} {m : Str} {ps : List Str} {sp : Sp} {C : Addr} {pos apos : Pos} {e o : Expr} {es : List Expr} {ta : TE} {t : TA} (M : MCallee X.prog X.w X.K X.mg X.base C k m ps sp) (he : PE X o ta) (hr : Room k X.A) (ha : PA X (e :: es) t) {pl : Sem Bool}
    (hst : starEach (e :: es) X.env = (false, eval e X.env) :: starEach es X.env := by rfl) (hpl : (backTo pos (starEach es X.env)).any (·.1) = false := by rfl)
    (ht : eval (.Call (.Attribute o m apos) (e :: es) [] pos) X.env = (do
      let ov ← eval o X.env
      standAt apos.atName
      let (f, first) ← holding [ov] (getMethod ov m pl)
      callWith pos f first (backTo pos (starEach (e :: es) X.env)) (backToKw pos (keywordEach [] X.env))) := by rfl) :
    PE X (.Call (.Attribute o m apos) (e :: es) [] pos) (tMeth C m sp [] E0 ta t) := by
  obtain ⟨f, fd, F, hm, hb⟩ := M.ex
  exact pe_meth he M.cl hm F hr hb .nil pass0 ha hst hpl ht
structure Maker (P : Program) (w : World) (K : PySem.W.Frag) (mg : Str → Option Value) (base : Heap) (C : Addr) (k : Nat) (x : Str) (ps : List Str) (sp : Sp) : Prop where
  ex : ∃ (f : Addr) (fd : FuncData), FnOk P w K mg base CX0 k f fd ps sp ∧ Mk K C f ∧ mg x = some (.ref C) ∧ Binds K fd ps []
theorem pe_makeC {k : Nat} {x : Str} {ps : List Str} {sp : Sp} {C : Addr} {p pos : Pos} {e : Expr} {es : List Expr} {t : TA} (M : Maker X.prog X.w X.K X.mg X.base C k x ps sp) (hr : Room (k + 1) X.A) (hg : Gl X x) (ha : PA X (e :: es) t)
    (hdb : (x == ("__debug__" : Str)) = false := by decide) (he : starEach (e :: es) X.env = (false, eval e X.env) :: starEach es X.env := by rfl) (hpl : (backTo pos (starEach es X.env)).any (·.1) = false := by rfl) :
    PE X (.Call (.Name x p) (e :: es) [] pos) (tMake C sp [] E0 t) := by
  obtain ⟨f, fd, F, M, hm, hb⟩ := M.ex
  exact pe_make M F hr hg hm hb .nil pass0 ha hdb he hpl
end
end L2

namespace L2
open PySem PySem.Spec PyProof.Rows
section
variable {X : Cx}
def tDGet3 (k1 k2 k3 : Str) (n1 n2 n3 : Int) (ta : TA) : TE := fun σ H Q => ta σ H fun vs H1 => ∃ t z, vs = [.str t, .int z] ∧ Q (.int (if t = k1 then n1 else if t = k2 then n2 else if t = k3 then n3 else z)) H1
def PD (X : Cx) (o : Expr) (k1 k2 k3 : Str) (n1 n2 n3 : Int) : Prop := ∀ (s : Shared) (Q : Value → Shared → Prop), (∀ (h' : Heap) (t' : Nat) (vs : List (Str × Value)),
    h'.DictOf (strKind X.prog X.w) s.heap.objs.size vs → (∀ b u, s.heap.get? b = some u → h'.get? b = some u) →
    (∀ (t : Str) (d : Value) (z : Int), (∃ tz, d = .int z tz) → ∃ t', (valueAt vs t).getD d = Value.int (if t = k1 then n1 else if t = k2 then n2 else if t = k3 then n3 else z) t') → Q (.ref s.heap.objs.size) { s with heap := h', toks := t' }) →
  wpAny (model X.prog X.w) X.A (eval o X.env) Q X.xe s
end
end L2

namespace L2
open PySem PySem.Spec PyProof.Rows
structure MDefAt (K : PySem.W.Frag) (C : Addr) (m qual : Str) (st : Stmt) (ps : List Str) : Prop where
  ex : ∃ (f : Addr) (fd : FuncData), Fun K m qual st f fd ∧ Meth K C m f ∧ Binds K fd ps []
theorem MDefAt.ok {P : Program} {w : World} {K : PySem.W.Frag} {mg : Str → Option Value} {base : Heap} {C : Addr} {m qual : Str} {st : Stmt} {N ps : List Str} {k : Nat} {sp : Sp} (D : MDefAt K C m qual st ps) (cl : Cls K C) (S : FnScope N ps (defScope st)) (len : ∀ vs H Q E, sp vs H Q E → vs.length = ps.length)
    (hbody : ∀ (f : Addr) (cdv : Value) (A : Around) (outer : List Env) (s : Shared) (H : Hp) (vs : List V) (Q : VK) (E : XK), Room k (A.deeper (envOfC qual (defScope st) s.heap.objs.size f cdv)) → sp vs H Q E →
      ∃ t, PSs (cxOf CX0 P w K mg base N qual (defScope st) f cdv A outer s H E).nox (defBody st) t ∧ t { nx := fun _ H' => Q .non H', rt := Q } (start N vs) H) : MCallee P w K mg base C (k + 1) m ps sp := by
  obtain ⟨f, fd, F, hm, hb⟩ := D.ex
  exact ⟨cl, f, fd, F.ok S len (hbody f), hm, hb⟩
structure MkAt (K : PySem.W.Frag) (mg : Str → Option Value) (C : Addr) (x qual : Str) (st : Stmt) (ps : List Str) : Prop where
  ex : ∃ (f : Addr) (fd : FuncData), Fun K "__init__" qual st f fd ∧ Mk K C f ∧ mg x = some (.ref C) ∧ Binds K fd ps []
theorem MkAt.ok {P : Program} {w : World} {K : PySem.W.Frag} {mg : Str → Option Value} {base : Heap} {C : Addr} {x qual : Str} {st : Stmt} {N ps : List Str} {k : Nat} {sp : Sp} (D : MkAt K mg C x qual st ps) (S : FnScope N ps (defScope st)) (len : ∀ vs H Q E, sp vs H Q E → vs.length = ps.length)
    (hbody : ∀ (f : Addr) (cdv : Value) (A : Around) (outer : List Env) (s : Shared) (H : Hp) (vs : List V) (Q : VK) (E : XK), Room k (A.deeper (envOfC qual (defScope st) s.heap.objs.size f cdv)) → sp vs H Q E →
      ∃ t, PSs (cxOf CX0 P w K mg base N qual (defScope st) f cdv A outer s H E).nox (defBody st) t ∧ t { nx := fun _ H' => Q .non H', rt := Q } (start N vs) H) : Maker P w K mg base C (k + 1) x ps sp := by
  obtain ⟨f, fd, F, hm, hg, hb⟩ := D.ex
  exact ⟨f, fd, F.ok S len (hbody f), hm, hg, hb⟩
theorem for_it {J : It} {n : Nat} {g : TG} {tb : TS} {D : Ends} {σ : St} {H : Hp} (Pv : Nat → St → Hp → Prop) (h0 : Pv 0 σ H) (hgo : ∀ i σ H, i < n → Pv i σ H → J.go i H) (hstop : ∀ σ H, Pv n σ H → J.stop n H)
    (hs : ∀ i x σ H H', i < n → Pv i σ H → J.yld i H x H' → g x σ H' fun σ2 H2 => tb { D with nx := Pv (i + 1), ct := Pv (i + 1), bk := D.nx } σ2 H2) (hd : ∀ σ H, Pv n σ H → D.nx σ H) :
    ∃ W : Nat → Nat → St → Hp → Prop, (∃ m, W 0 m σ H) ∧ ∀ i m σ H, W i m σ H →
      (J.stop i H ∧ D.nx σ H) ∨ (J.go i H ∧ ∃ N : St → Hp → Prop, (∀ σ' H', N σ' H' → ∃ m', m' < m ∧ W (i + 1) m' σ' H') ∧ ∀ x H', J.yld i H x H' → g x σ H' fun σ2 H2 => tb { D with nx := N, ct := N, bk := D.nx } σ2 H2) := by
  refine ⟨fun i m σ H => m = n - i ∧ i ≤ n ∧ Pv i σ H, ⟨n, by simp, Nat.zero_le _, h0⟩, ?_⟩
  rintro i m σ H ⟨rfl, hi, p⟩
  by_cases hlt : i < n
  · exact .inr ⟨hgo i σ H hlt p, Pv (i + 1), fun σ' H' p' => ⟨n - (i + 1), by (first | lia | omega), rfl, hlt, p'⟩, fun x H' y => hs i x σ H H' hlt p y⟩
  · have e : i = n := by (first | lia | omega)
    subst e
    exact .inl ⟨hstop σ H p, hd σ H p⟩
def tSeqX (t u : TS) : TS := fun D σ H => ∃ R : St → Hp → Prop, t { D with nx := R } σ H ∧ ∀ σ' H', R σ' H' → u D σ' H'
theorem pss_consX {X : Cx} {st : Stmt} {rest : List Stmt} {t u : TS} (h1 : PS X st t) (h2 : PSs X rest u) : PSs X (st :: rest) (tSeqX t u) := by
  intro pins s σ H D I h
  obtain ⟨R, h, hR⟩ := h
  refine pss_cons (u := fun D' σ' H' => D' = D ∧ R σ' H') h1 (fun pins s σ H D' I q => ?_) pins s σ H D I ?_
  · obtain ⟨rfl, q⟩ := q
    exact h2 pins s σ H _ I (hR _ _ q)
  · have e : (fun σ' H' => D = D ∧ R σ' H') = R := by
      funext σ' H'
      exact propext ⟨fun z => z.2, fun z => ⟨rfl, z⟩⟩
    show t { D with nx := fun σ' H' => D = D ∧ R σ' H' } σ H
    rw [e]
    exact h
end L2
namespace L2
open PySem PySem.Spec PyProof.Rows
theorem for_range0 {n : Nat} {g : TG} {tb : TS} {D : Ends} {σ : St} {H : Hp} (Pv : Nat → St → Hp → Prop) (h0 : Pv 0 σ H)
    (hs : ∀ i σ H, i < n → Pv i σ H → g (.int (i : Nat)) σ H fun σ2 H2 => tb { D with nx := Pv (i + 1), ct := Pv (i + 1), bk := D.nx } σ2 H2) (hd : ∀ σ H, Pv n σ H → D.nx σ H) :
    ∃ W : Nat → Nat → St → Hp → Prop, (∃ m, W 0 m σ H) ∧ ∀ i m σ H, W i m σ H →
      ((Itr 0 n).stop i H ∧ D.nx σ H) ∨ ((Itr 0 n).go i H ∧ ∃ N : St → Hp → Prop, (∀ σ' H', N σ' H' → ∃ m', m' < m ∧ W (i + 1) m' σ' H') ∧ ∀ x H', (Itr 0 n).yld i H x H' → g x σ H' fun σ2 H2 => tb { D with nx := N, ct := N, bk := D.nx } σ2 H2) :=
  for_range (lo := 0) Pv h0 (fun i σ H hi p => by rw [Int.zero_add]; exact hs i σ H hi p) hd
theorem z0 {x : V} {i : Nat} (h : x = .int (0 + (i : Int))) : x = .int (i : Nat) := by rw [h, Int.zero_add]
end L2

namespace L2
open PySem PySem.Spec PyProof.Rows
theorem law_callS {P : Program} {w : World} {K : PySem.W.Frag} {mg mb : Str → Option Value} {CX : CXT} {k : Nat} {fa a : Addr} {fd : FuncData} {x : Str} {sp : Sp} {s₁ : Shared} {vs : List Value} {ns : List Int}
    (KX : K.In s₁.heap) (hns : s₁.heap.Ns mainGlobals mg) (hb : s₁.heap.Ns builtinsNs mb) (hbb : ∀ x : Str, x ≠ "__name__" → mb x = bootBuiltins x) (hlim : s₁.heap.NoLimit) (hg : s₁.gens = #[])
    (ha : s₁.heap.get? a = some { cls := .type "list", data := .seq vs.toArray }) (hi : IntsAre vs ns) (hl : ns.length ≤ sizeLine) (hr : Room k callerA)
    (hse : s₁.heap.NoSeer) (F : ∀ base : Heap, K.In base → base.Ns mainGlobals mg → base.NoSeer → FnOk P w K mg base CX k fa fd [x] sp) (hbind : ∀ (s : Shared) (u : Value), BindsTo s fd ⟨[u], []⟩ [(x, u)])
    (hsp : ∀ H : Hp, Only H → SqL K H a (ns.map V.int) → sp [.ref a] H (fun v _ => v = .bl true) fun _ _ _ => False)
    (hCX : ∀ H e s', CX [] H s₁ (fun _ _ _ => False) e s' → False) :
    codeAny (model P w) callerA (.call (.ref fa) ⟨[.ref a], []⟩) (fun r s' => r = .ok (.ret (.bool true)) ∧ OldK s₁.heap s'.heap ∧ s'.os = s₁.os ∧ AllBare s'.gens) s₁ := by
  have rv := vals_ints hi
  have lenV := hi.length
  have core : ∀ H : Hp, Only H → SqL K H a (ns.map V.int) → HOk P w H s₁.heap → (∀ b, H b ≠ none → b = a) → (H a ≠ none → K.lookup a = none) →
      codeAny (model P w) callerA (.call (.ref fa) ⟨[.ref a], []⟩) (fun r s' => r = .ok (.ret (.bool true)) ∧ OldK s₁.heap s'.heap ∧ s'.os = s₁.os ∧ AllBare s'.gens) s₁ := by
    intro H hO hS hok hA hK
    have base_of : ∀ {b : Addr} {o : Obj}, s₁.heap.get? b = some o → H b = none → (hidT s₁.heap H).get? b = some o := fun e n => hidT_get e n
    have noA : ∀ {b : Addr} {o : Obj} {es : Array DictEntry} {ep : Nat}, s₁.heap.get? b = some o → o.data = .dict es ep → H b = none := fun {b o es ep} e d => by
      cases q : H b with
      | none => rfl
      | some u =>
        have e' : b = a := hA b (by rw [q]; simp)
        subst e'
        rw [ha] at e; cases e
        have d' : Data.seq vs.toArray _ = Data.dict es ep := d
        cases d'
    have nsK : ∀ {b : Addr} {m : Str → Option Value}, s₁.heap.Ns b m → (hidT s₁.heap H).Ns b m := fun {b m} ⟨o, es, ep, e, d, r⟩ => ⟨o, es, ep, base_of e (noA e d), d, r⟩
    have hKb : K.In (hidT s₁.heap H) := fun b o e => base_of (KX b o e) (by
      cases q : H b with
      | none => rfl
      | some u =>
        have e' : b = a := hA b (by rw [q]; simp)
        subst e'
        rw [hK (by rw [q]; simp)] at e; cases e)
    have hM : Mod K mg (hidT s₁.heap H) := ⟨hKb, nsK hns, ⟨mb, nsK hb, hbb⟩, let ⟨mc, h1, h2⟩ := hlim; ⟨mc, nsK h1, h2⟩⟩
    have e0 : Env0 P w K mg (hidT s₁.heap H) callerA [] s₁ H := ⟨rfl, hM, fun b o e => of_hidT e, Nat.le_of_eq (hidT_size _ _), trivial, fun b hb => absurd (show b ∈ ([] : List Addr) from hb) (by simp), hok, .of_eq hg⟩
    have hsb : (hidT s₁.heap H).NoSeer := by
      obtain ⟨⟨mc, c1, c2⟩, ⟨mm, m1, m2⟩, ⟨mi, i1, i2⟩, ⟨mq, bm, ob, q1, q2, q3, q4, q5⟩⟩ := hse
      refine ⟨⟨mc, nsK c1, c2⟩, ⟨mm, nsK m1, m2⟩, ⟨mi, nsK i1, i2⟩, ⟨mq, bm, ob, nsK q1, q2, base_of q3 ?_, q4, q5⟩⟩
      cases q : H bm with
      | none => rfl
      | some u =>
        have e' : bm = a := hA bm (by rw [q]; simp)
        rw [e', ha] at q3
        cases q3
        exact absurd (Value.type.inj q4) (by decide)
    refine codeAny_mono ((F _ hKb (nsK hns) hsb).run callerA [] s₁ H ⟨[.ref a], []⟩ [.ref a] [.ref a] _ _ hr e0 (hbind s₁ (.ref a)) (.cons rfl .nil) (hsp H hO hS)) fun r s' h => ?_
    cases r with
    | error e => exact (hCX H e s' h).elim
    | ok fl =>
      cases fl with
      | next => exact False.elim h
      | brk => exact False.elim h
      | cont => exact False.elim h
      | ret u =>
        obtain ⟨v, H', os, bare, un, hok', r', q⟩ := h
        have q' : v = .bl true := q
        subst q'
        obtain rfl : u = Value.bool true := r'
        refine ⟨rfl, OldK.of_keep fun b o e => ?_, os, bare⟩
        cases q : H b with
        | none => exact un.keep b o e q (by intro z; exact absurd (show b ∈ ([] : List Addr) from z) (by simp)) (by simp)
        | some u =>
          rcases hO b with z | ⟨ob, xs, z⟩
          · rw [q] at z; cases z
          · have z2 := un.frzs b ob _ z
            obtain ⟨e1, _⟩ := hok b _ z
            obtain ⟨e2, _⟩ := hok' b _ z2
            rw [e] at e1; cases e1
            exact e2
  cases hk : K.lookup a with
  | some o =>
    have e := KX a o hk
    rw [ha] at e
    cases e
    refine core (fun _ => none) (fun _ => .inl rfl) (.inr ⟨_, vs.toArray, _, hk, rfl, rfl, rfl, by rw [List.size_toArray, lenV]; exact hl, by simpa using rv⟩) (fun b u z => by have z' : (none : Option HO) = some u := z; cases z') (fun b z => absurd rfl z) fun z => absurd rfl z
  | none =>
    refine core (fun b => if b = a then some (.frz { cls := .type "list", data := .seq vs.toArray } (.lst (ns.map V.int))) else none) (fun b => ?_) (.inl (.inr ⟨{ cls := .type "list", data := .seq vs.toArray }, if_pos rfl⟩)) (fun b u z => ?_) (fun b z => ?_) fun _ => hk
    · by_cases hb : b = a
      · exact .inr ⟨_, _, if_pos hb⟩
      · exact .inl (if_neg hb)
    · by_cases hb : b = a
      · have z' := (if_pos hb).symm.trans z
        cases z'
        subst hb
        exact ⟨ha, by rw [List.length_map]; exact hl, vs, _, rv, ha⟩
      · have z' := (if_neg hb).symm.trans z
        cases z'
    · by_cases hb : b = a
      · exact hb
      · exact absurd (if_neg hb) z
theorem walk_ofS {l : PySem.W.OpenLaw} {n k : Nat} {q : Program} {loose : List Str} {XP : (Str → Option Value) → Heap → Prop} {YP : World → Heap → Prop} {d : DefRec} {K : Params → PySem.W.Frag} {CX : World → CXT} {sp : World → Sp} {x : Str}
    (hn : l.most = some n) (hn2 : n ≤ sizeLine) (hdf : d.params.defaults = []) (hr : Room k callerA) (hin : importsNone q = true)
    (hY : ∀ (w : World) (h : Heap), YP w h → (K w.params).In h)
    (F : ∀ (w : World) (mg : Str → Option Value) (fa : Addr) (h : Heap), (K w.params).In h → h.Ns mainGlobals mg → mg d.name = some (.ref fa) →
      ∃ fd : FuncData, (∀ (s : Shared) (u : Value), BindsTo s fd ⟨[u], []⟩ [(x, u)]) ∧
        ∀ base : Heap, (K w.params).In base → base.Ns mainGlobals mg → base.NoSeer → FnOk l.prog w (K w.params) mg base (CX w) k fa fd [x] (sp w))
    (hsp : ∀ (w : World) (H : Hp) (a : Addr) (ns : List Int), ns.length ≤ n → Only H → SqL (K w.params) H a (ns.map V.int) → sp w [.ref a] H (fun v _ => v = .bl true) fun _ _ _ => False)
    (hCX : ∀ (w : World) (H : Hp) (s : Shared) (e : Value) (s' : Shared), CX w [] H s (fun _ _ _ => False) e s' → False) :
    PySem.W.WalkO q loose XP YP l.row.toRowW d [] (fun f vs => PySem.call f vs) := by
  refine Att.attach_call hn hdf fun w s₀ s₁ mg mb fa o pm cd doc a vs ns G Y ho hd hcd hmg hobj hints hlen hg => ?_
  have KX := hY w _ Y
  obtain ⟨fd, hb, hF⟩ := F w mg fa _ KX G.T.g hmg
  exact law_callS KX G.T.g G.T.b G.T.builtins G.T.nolimit hg hobj hints (Nat.le_trans hlen hn2) hr (G.T.seer hin) hF hb (fun H hO hS => hsp w H a ns hlen hO hS) fun H e s' => hCX w H s₁ e s'
end L2

namespace L2
open PySem PySem.Spec PyProof.Rows
theorem compLoop_anyT {prog : Program} {w : World} {A : Around} {R : Result → Shared → Prop} {s : Shared} {elt target iter ct : Expr} {scope : Scope} {pos : Pos} {it acc : Value} {env : Env} (I : Nat → Shared → Prop)
    (turn : ∀ n s, I n s → wpAny (model prog w) A (pyNext it) (fun r s₁ => match r with
      | none => R (.ok .next) s₁
      | some v => wpAny (model prog w) A (letOwnedTupleGo target it v) (fun _ s₂ => wpAny (model prog w) A (assign target env v) (fun _ s₃ => wpAny (model prog w) A (isTrue ct env (eval ct env)) (fun ok s₄ =>
          if ok = true then wpAny (model prog w) A (eval elt env) (fun x s₅ =>
            wpAny (model prog w) A (call (.builtin "list.append") [acc, x]) (fun _ s₆ => ∃ m, m < n ∧ I m s₆) (fun _ _ => False) s₅) (fun _ _ => False) s₄
          else ∃ m, m < n ∧ I m s₄) (fun _ _ => False) s₃) (fun _ _ => False) s₂) (fun _ _ => False) s₁) (fun _ _ => False) s)
    (n : Nat) (h : I n s) :
    codeAny (model prog w) A (.compLoop (.ListComp elt [⟨target, iter, [ct], 0⟩] scope pos) 0 it acc env) R s := by
  refine codeAny_loop rfl I (fun n s hI => ?_) n h
  show wpAny _ _ ((compTurn (.ListComp elt [⟨target, iter, [ct], 0⟩] scope pos) 0 it acc env).onRaise (fun x => do noteFrame x env; theTreesLotGoes x)) _ _ s
  refine wpAny_noted ?_
  rw [compTurn_list]
  refine wpAny_bind (wpAny_standAt (wpAny_bind (wpAny_mono (turn n s hI) (fun r s₁ h₁ => ?_) fun _ _ h' => h'.elim)))
  cases r with
  | none => exact wpAny_pure h₁
  | some v =>
    refine wpAny_bind (wpAny_mono h₁ (fun _ s₂ h₂ => ?_) fun _ _ h' => h'.elim)
    refine wpAny_bind (wpAny_mono h₂ (fun _ s₃ h₃ => wpAny_bind (wpAny_tests_one (wpAny_mono h₃ (fun ok s₄ h₄ => ?_) fun _ _ h' => h'.elim))) fun _ _ h' => h'.elim)
    cases ok with
    | true =>
      rw [if_pos rfl] at h₄
      simp only [if_true]
      exact wpAny_bind (wpAny_bind (wpAny_mono h₄ (fun x s₅ h₅ => wpAny_bind (wpAny_mono h₅ (fun _ s₆ h₆ => wpAny_pure (wpAny_pure ⟨rfl, h₆⟩)) fun _ _ h' => h'.elim)) fun _ _ h' => h'.elim))
    | false =>
      rw [if_neg Bool.false_ne_true] at h₄
      simp only [Bool.false_eq_true, if_false]
      exact wpAny_bind (wpAny_pure (wpAny_pure ⟨rfl, h₄⟩))
def CompWT (J : It) (cap : List Nat) (k : Nat) (g : TG) (tt : TT) (te : TE) (σ : St) (H1 : Hp) (Q : VK) : Prop :=
  ∃ W : Nat → Nat → List V → Hp → Prop, (∃ m, W 0 m [] H1) ∧ ∀ i m ys H, W i m ys H →
    (J.stop i H ∧ ∀ D, H D = none → Q (.ref D) (upd H D (.lst ys))) ∨
    (J.go i H ∧ ys.length < sizeLine ∧ ∃ (Nx : VK) (Ns : Hp → Prop), (∀ y H3, Nx y H3 → ∃ m', m' < m ∧ W (i + 1) m' (ys ++ [y]) H3) ∧ (∀ H3, Ns H3 → ∃ m', m' < m ∧ W (i + 1) m' ys H3) ∧ ∀ x H', J.yld i H x H' → g x (capσ σ cap k) H' fun σ2 H2 => σ2.take cap.length = (capσ σ cap k).take cap.length ∧ tt σ2 H2 fun b H3 => if b = true then te σ2 H3 Nx else Ns H3)
def tCompT (wi : TI) (cap : List Nat) (k : Nat) (g : TG) (tt : TT) (te : TE) : TE := fun σ H Q => wi σ H fun J H1 => CompWT J cap k g tt te σ H1 Q
theorem comp_itT {J : It} {n : Nat} {g : TG} {tt : TT} {te : TE} {σ : St} {cap : List Nat} {k : Nat} {H : Hp} {Q : VK} (Pv : Nat → List V → Hp → Prop) (hz : n ≤ sizeLine) (h0 : Pv 0 [] H) (hlen : ∀ i ys H, Pv i ys H → ys.length ≤ i)
    (hgo : ∀ i ys H, i < n → Pv i ys H → J.go i H) (hstop : ∀ ys H, Pv n ys H → J.stop n H)
    (hs : ∀ i x ys H H', i < n → Pv i ys H → J.yld i H x H' → g x (capσ σ cap k) H' fun σ2 H2 => σ2.take cap.length = (capσ σ cap k).take cap.length ∧ tt σ2 H2 fun b H3 => if b = true then te σ2 H3 fun y H4 => Pv (i + 1) (ys ++ [y]) H4 else Pv (i + 1) ys H3)
    (hd : ∀ ys H, Pv n ys H → ∀ D, H D = none → Q (.ref D) (upd H D (.lst ys))) :
    CompWT J cap k g tt te σ H Q := by
  refine ⟨fun i m ys H => m = n - i ∧ i ≤ n ∧ Pv i ys H, ⟨n, by simp, Nat.zero_le _, h0⟩, ?_⟩
  rintro i m ys H ⟨rfl, hi, p⟩
  by_cases hlt : i < n
  · exact .inr ⟨hgo i ys H hlt p, Nat.lt_of_le_of_lt (hlen i ys H p) (by (first | lia | omega)), fun y H3 => Pv (i + 1) (ys ++ [y]) H3, fun H3 => Pv (i + 1) ys H3, fun y H3 p' => ⟨n - (i + 1), by (first | lia | omega), rfl, hlt, p'⟩, fun H3 p' => ⟨n - (i + 1), by (first | lia | omega), rfl, hlt, p'⟩, fun x H' y => hs i x ys H H' hlt p y⟩
  · have e : i = n := by (first | lia | omega)
    subst e
    exact .inl ⟨hstop ys H p, hd ys H p⟩
section
variable {X : Cx} {elt tg iter ct : Expr} {scope : Scope} {pos : Pos} {N : List Str} {cap : List Nat} {k : Nat} {wi : TI} {g : TG} {tt : TT} {te : TE}
theorem comp_blockT (S : CompScope X scope N cap k) (hc : X.calm = true)
    (hg : ∀ C s₀ H₀ ex, PG (cxComp X scope N C s₀ H₀ ex) tg g) (ht : ∀ C s₀ H₀ ex, PT (cxComp X scope N C s₀ H₀ ex) ct tt) (he : ∀ C s₀ H₀ ex, PE (cxComp X scope N C s₀ H₀ ex) elt te) (hgo : ∀ it v, letOwnedTupleGo tg it v = pure ())
    {pins : List (Addr × Obj)} {σ : St} {H : Hp} {s : Shared} {it : Addr} {fp : List Addr} {tn : Nat → Heap → Prop} {J : It} {Q : VK} {RR : Value → Addr → Result → Shared → Prop} {E : Value → Shared → Prop}
    (I : Inv X pins σ H s) (T : Turn X.prog X.w X.K tg J fp it tn) (st : tn 0 s.heap) (hf : ∀ b ∈ fp, FpOk X pins H b)
    (W : Nat → Nat → List V → Hp → Prop) (w0 : ∃ m, W 0 m [] H)
    (turn : ∀ i m ys H, W i m ys H →
      (J.stop i H ∧ ∀ D, H D = none → Q (.ref D) (upd H D (.lst ys))) ∨
      (J.go i H ∧ ys.length < sizeLine ∧ ∃ (Nx : VK) (Ns : Hp → Prop), (∀ y H3, Nx y H3 → ∃ m', m' < m ∧ W (i + 1) m' (ys ++ [y]) H3) ∧ (∀ H3, Ns H3 → ∃ m', m' < m ∧ W (i + 1) m' ys H3) ∧ ∀ x H', J.yld i H x H' → g x (capσ σ cap k) H' fun σ2 H2 => σ2.take cap.length = (capσ σ cap k).take cap.length ∧ tt σ2 H2 fun b H3 => if b = true then te σ2 H3 Nx else Ns H3))
    (hRR : ∀ D C s' m', (∃ H', s'.heap.Ns C m' ∧ (∀ h', Heap.SameBut C s'.heap h' → Inv X pins σ H' { s' with heap := h' } ∧ X.env.locals ≠ C ∧ (∀ x c, X.env.cells.lookup x = some c → c ≠ C)) ∧ FpOk X pins H' C ∧ Q (.ref D) H') → RR (.ref D) C (.ok .next) s') :
    wpAny (model X.prog X.w) X.A (newList []) (fun acc s₃ => wpAny (model X.prog X.w) X.A (newFunctionEnv scope X.env.globals (clOf X.env scope.names []) [] X.env.qual none .none (some X.env)) (fun cenv s₄ =>
      codeAny (model X.prog X.w) X.A (.compStart (.ListComp elt [⟨tg, iter, [ct], 0⟩] scope pos) 0 (.ref it) acc { cenv with scope := relabel scope X.env }) (RR acc cenv.locals) s₄) E s₃) E s := by
  refine wpAny_newObj_type (wpAny_newFunctionEnv S.nocell (by intro y hy; simp at hy) (fun h₁ hns₁ hsb₁ => ?_) S.kind)
  have I3 : Inv X pins σ H { s with heap := s.heap.push { cls := .type "list", dict := none, data := .seq ([] : List Value).toArray } } := I.kept (t' := s.toks) fun b u e => Heap.get?_push_of_some _ e
  have hD0 : (s.heap.push { cls := .type "list", dict := none, data := .seq ([] : List Value).toArray }).get? s.heap.objs.size = some { cls := .type "list", data := .seq ([] : List Value).toArray } := Heap.get?_push_size _ rfl
  have hfpl : ∀ b ∈ fp, b < s.heap.objs.size := fun b hb => by
    obtain ⟨o, e, _⟩ := T.obj _ _ st b hb
    exact Heap.lt_size e
  have hDf : s.heap.objs.size ∉ fp := fun hm => Nat.lt_irrefl _ (hfpl _ hm)
  have fD : FpOk X pins H s.heap.objs.size := I.fpOk (Nat.le_refl _) (I.hok.fresh (Nat.le_refl _))
  dsimp only at hns₁ hsb₁ ⊢
  generalize hH2 : s.heap.push { cls := .type "list", dict := none, data := .seq ([] : List Value).toArray } = H2 at hns₁ hsb₁ I3 hD0 ⊢
  have hsz : H2.objs.size = s.heap.objs.size + 1 := by rw [← hH2, Heap.size_push]
  have hle : s.heap.objs.size ≤ H2.objs.size := by rw [hsz]; exact Nat.le_succ _
  have st3 : tn 0 H2 := T.keep _ _ _ st fun b _ o e => by rw [← hH2]; exact Heap.get?_push_of_some _ e
  generalize hD : s.heap.objs.size = D at hD0 hDf fD hsz ⊢
  have hCD : H2.objs.size ≠ D := by (first | lia | omega)
  have IC := inv_comp (t := s.toks + ([] : List (Str × Value)).length) (ex := D :: fp) S I3 (fun b hb => by
    rcases List.mem_cons.mp hb with rfl | hb
    · exact ⟨fD, by show _ < H2.objs.size; (first | lia | omega)⟩
    · exact ⟨hf b hb, Nat.lt_of_lt_of_le (hfpl b hb) hle⟩) hns₁ hsb₁
  have old : ∀ b u, H2.get? b = some u → h₁.get? b = some u := fun b u e => hsb₁.extBut b u (Nat.ne_of_lt (Heap.lt_size e)) (Heap.get?_push_of_some _ e)
  have st4 : tn 0 h₁ := T.keep _ _ _ st3 fun b _ o e => old b o e
  have hD1 := old _ _ hD0
  generalize hXC : cxComp X scope N H2.objs.size { s with heap := H2 } H (D :: fp) = XC at IC
  have fpC : ∀ {H' : Hp} {pl : List (Addr × Obj)}, (∀ p ∈ pl, p.1 ∉ fp) → (∀ b ∈ fp, H' b = none) → ∀ b ∈ fp, FpOk XC pl H' b := fun {H' pl} hpl hn b hb => by
    subst hXC
    obtain ⟨f0, f1, f2, f3, f4, f5⟩ := hf b hb
    refine ⟨hn b hb, Nat.ne_of_lt (Nat.lt_of_lt_of_le (hfpl b hb) hle), fun z => ?_, .inl (List.mem_cons_of_mem _ hb), fun x c e => ?_, fun p hp z => ?_⟩
    · rcases List.mem_cons.mp (I3.stkSub b z) with e | e
      · exact f1 e
      · exact f2 e
    · exact f4 x c (clOf_sub (env := X.env) scope.names [] (fun _ z => nomatch z) (x, c) (PySem.mem_of_lookup e))
    · have hp' : p ∈ pl := by simpa [cxComp] using hp
      exact hpl p hp' (by rw [z]; exact hb)
  have fpD : ∀ {H' : Hp}, H' D = none → FpOk XC [] H' D := fun {H'} hn => by
    subst hXC
    obtain ⟨f0, f1, f2, f3, f4, f5⟩ := fD
    refine ⟨hn, Ne.symm hCD, fun z => ?_, .inl List.mem_cons_self, fun x c e => ?_, fun p hp z => by simp [cxComp] at hp⟩
    · rcases List.mem_cons.mp (I3.stkSub D z) with e | e
      · exact f1 e
      · exact f2 e
    · exact f4 x c (clOf_sub (env := X.env) scope.names [] (fun _ z => nomatch z) (x, c) (PySem.mem_of_lookup e))
  have hgC : PG XC tg g := by rw [← hXC]; exact hg _ _ _ _
  have heC : PE XC elt te := by rw [← hXC]; exact he _ _ _ _
  have htC : PT XC ct tt := by rw [← hXC]; exact ht _ _ _ _
  have e1 : XC.prog = X.prog := by rw [← hXC]; rfl
  have e2 : XC.w = X.w := by rw [← hXC]; rfl
  have e3 : XC.K = X.K := by rw [← hXC]; rfl
  have e4 : XC.A = X.A := by rw [← hXC]; rfl
  have e5 : XC.calm = true := by rw [← hXC]; exact hc
  have e6 : XC.xe = fun _ _ => False := by rw [← hXC]; rfl
  have e7 : XC.env = compEnvC scope (clOf X.env scope.names []) H2.objs.size X.env := by rw [← hXC]; rfl
  have fin : ∀ (ys : List V) (its : List Value) (n : Nat) (H' : Hp) (s' : Shared), Inv XC [] (capσ σ cap k) H' s' → H' D = none → s'.heap.get? D = some { cls := .type "list", data := .seq its.toArray n } → Vals ys its → ys.length ≤ sizeLine →
      Q (.ref D) (upd H' D (.lst ys)) → RR (.ref D) H2.objs.size (.ok .next) s' := fun ys its n H' s' I' hn hd hv hz q => by
    obtain ⟨m', hm', _⟩ := I'.loc
    have hm'' : s'.heap.Ns H2.objs.size m' := by rw [e7] at hm'; exact hm'
    have hfree : H' H2.objs.size = none := by have := I'.free; rw [e7] at this; exact this
    have hos : s'.os = s.os := by have := I'.os; rw [← hXC] at this; exact this
    have hun : Un (frs X.stack) (D :: fp) H H' H2 s'.heap := by have := I'.base; rw [← hXC] at this; exact this
    have hok : HOk X.prog X.w H' s'.heap := by have := I'.hok; rw [e1, e2] at this; exact this
    have IP : Inv X pins σ H' s' := I3.call' (ch := D :: fp) hos hun hok I'.bare (fun b hb => by
      have hb' : FpOk X pins H b := by
        rcases List.mem_cons.mp hb with rfl | hb
        · exact fD
        · exact hf b hb
      exact ⟨hb'.2.2.2.1, hb'.2.1, hb'.2.2.2.2.1, hb'.2.2.2.2.2⟩)
    have fC : FpOk X pins H' H2.objs.size := I3.fpOk (Nat.le_refl _) hfree
    refine hRR D H2.objs.size s' m' ⟨upd H' D (.lst ys), hm'', fun h' hs' => ⟨?_, Ne.symm fC.2.1, fC.2.2.2.2.1⟩, ⟨by rw [upd_ne hCD]; exact fC.1, fC.2⟩, q⟩
    have I4 : Inv X pins σ H' { s' with heap := h' } := IP.turned (t' := s'.toks) (it := H2.objs.size) (fun b o hb e => hs'.extBut b o hb e) hfree (Ne.symm (Ne.symm fC.2.1)) fC.2.2.2.1 fC.2.2.2.2.1 fC.2.2.2.2.2
    refine I4.track hn (hs'.extBut D _ (Ne.symm hCD) hd) hv hz ?_ fD.2.1 fD.2.2.2.2.1 fD.2.2.2.2.2
    have := I.sz
    (first | lia | omega)
  have loop : ∀ s₄ : Shared, s₄ = { s with heap := h₁, toks := s.toks + ([] : List (Str × Value)).length } →
      codeAny (model X.prog X.w) X.A (.compLoop (.ListComp elt [⟨tg, iter, [ct], 0⟩] scope pos) 0 (.ref it) (.ref D) (compEnvC scope (clOf X.env scope.names []) H2.objs.size X.env)) (RR (.ref D) H2.objs.size) s₄ := by
    rintro s₄ rfl
    obtain ⟨m0, w0⟩ := w0
    refine compLoop_anyT (fun n s' => ∃ i ys its n' H', Inv XC [] (capσ σ cap k) H' s' ∧ tn i s'.heap ∧ (∀ b ∈ fp, H' b = none) ∧ H' D = none ∧ s'.heap.get? D = some { cls := .type "list", data := .seq its.toArray n' } ∧ Vals ys its ∧ ys.length ≤ sizeLine ∧ W i n ys H') ?_ m0
      ⟨0, [], [], _, H, IC, st4, fun b hb => (hf b hb).1, fD.1, hD1, .nil, Nat.zero_le _, w0⟩
    rintro n s5 ⟨i, ys, its, n', H5, I5, st5, fr5, hn5, hd5, hv5, hz5, w5⟩
    have IP5 : Inv XC [(D, { cls := .type "list", data := .seq its.toArray n' })] (capσ σ cap k) H5 s5 := I5.pins_of fun p hp => by
      have ep : p = (D, { cls := .type "list", data := .seq its.toArray n' }) := by simpa using hp
      subst ep
      obtain ⟨f0, f1, f2, _⟩ := fpD hn5
      exact ⟨hd5, f0, f1, f2, fun v z => by cases z⟩
    have nofp : ∀ p ∈ [(D, ({ cls := .type "list", data := .seq its.toArray n' } : Obj))], p.1 ∉ fp := fun p hp => by
      have ep : p = (D, { cls := .type "list", data := .seq its.toArray n' }) := by simpa using hp
      subst ep
      exact hDf
    rcases turn i n ys H5 w5 with ⟨stop, qn⟩ | ⟨go, hlen, Nx, Ns, hNx, hNs, step⟩
    · have hd := T.done XC e1 e2 e3 e5 i _ s5 _ H5 (fun _ _ => False) IP5 (fpC nofp fr5) st5 stop
      rw [e4] at hd
      refine thn hd fun r s6 ⟨hr, I6⟩ => ?_
      subst hr
      have p6 := I6.pin (D, { cls := .type "list", data := .seq its.toArray n' }) (List.mem_append_right _ (by simp))
      exact fin ys its n' H5 s6 (I6.pins_of fun p hp => nomatch hp) hn5 p6.1 hv5 hz5 (qn D hn5)
    · have hi := T.item XC e1 e2 e3 e5 i _ s5 _ H5 (fun _ _ => False) IP5 (fpC nofp fr5) st5 go
      rw [e4] at hi
      refine thn hi fun r s6 ⟨u, hr, h6⟩ => ?_
      subst hr
      refine thn h6 fun _ s7 ⟨x, H7, I7, r7, y7, st7, fr7⟩ => ?_
      have p7 := I7.pin (D, { cls := .type "list", data := .seq its.toArray n' }) (List.mem_append_right _ (by simp))
      have IP7 := I7.pinned (fpC nofp fr7) (T.obj _ _ st7)
      have hg7 := hgC _ s7 _ H7 x u _ IP7 r7 (step x H7 y7)
      rw [e1, e2, e4, e6, e7] at hg7
      refine thn hg7 fun _ s8 ⟨σ8, H8, I8, q8⟩ => ?_
      have weakT : ∀ {H9 : Hp} {s9 : Shared} {pp : List (Addr × Obj)}, Inv XC pp σ8 H9 s9 → Inv XC [] (capσ σ cap k) H9 s9 := fun {H9 s9 pp} I9 => (I9.pins_of (pins' := []) fun p hp => nomatch hp).weak (by
        have a := I9.len
        have b := IC.len
        rw [b, a]) (fun j z hz => by
          have hj : j < cap.length := by
            by_cases hj : j < cap.length
            · exact hj
            · unfold capσ at hz
              rw [List.getElem?_append_right (by simpa using hj), List.getElem?_replicate] at hz
              split at hz <;> cases hz
          have q := congrArg (fun l => l[j]?) q8.1
          simp only [List.getElem?_take_of_lt hj] at q
          rw [q]
          exact hz)
      have ht8 := htC _ s8 σ8 H8 _ I8 q8.2
      rw [e1, e2, e4, e6, e7] at ht8
      refine thn ht8 fun ok sT ⟨HT, IT, qT⟩ => ?_
      cases ok with
      | false =>
        rw [if_neg Bool.false_ne_true] at qT ⊢
        obtain ⟨m', hm', w9⟩ := hNs HT qT
        have p9 := IT.pin (D, { cls := .type "list", data := .seq its.toArray n' }) (List.mem_append_right _ (List.mem_append_left _ (by simp)))
        refine ⟨m', hm', i + 1, ys, its, n', HT, weakT IT, ?_, fun b hb => ?_, p9.2.1, p9.1, hv5, hz5, w9⟩
        · exact T.keep _ _ _ st7 fun b hb o e => (IT.pin (b, o) (List.mem_append_right _ (List.mem_append_right _ (mem_pinsAt hb e)))).1
        · obtain ⟨o, e, d⟩ := T.obj _ _ st7 b hb
          exact (IT.pin (b, o) (List.mem_append_right _ (List.mem_append_right _ (mem_pinsAt hb e)))).2.1
      | true =>
      rw [if_pos rfl] at qT ⊢
      have he8 := heC _ sT σ8 HT _ IT qT
      rw [e1, e2, e4, e6, e7] at he8
      refine thn he8 fun v s9 ⟨y, H9, I9, r9, q9⟩ => ?_
      obtain ⟨m', hm', w9⟩ := hNx y H9 q9
      have p9 := I9.pin (D, { cls := .type "list", data := .seq its.toArray n' }) (List.mem_append_right _ (List.mem_append_left _ (by simp)))
      have st9 : tn (i + 1) s9.heap := T.keep _ _ _ st7 fun b hb o e => (I9.pin (b, o) (List.mem_append_right _ (List.mem_append_right _ (mem_pinsAt hb e)))).1
      have fr9 : ∀ b ∈ fp, H9 b = none := fun b hb => by
        obtain ⟨o, e, d⟩ := T.obj _ _ st7 b hb
        exact (I9.pin (b, o) (List.mem_append_right _ (List.mem_append_right _ (mem_pinsAt hb e)))).2.1
      have hlv := hv5.length
      refine call_meets F.slot_list_append ⟨_, p9.1, rfl⟩ F.entry_list_append (F.args_list_append_2 _ _) (PySem.list_append D its.toArray n' v (by rw [List.size_toArray]; (first | lia | omega))) ⟨p9.1, ?_⟩
      have q := PySem.IsL.update p9.1 (·.push v)
      have eo : (its.toArray.push v) = (its ++ [v]).toArray := by simp
      rw [eo] at q
      have I9' : Inv XC [] (capσ σ cap k) H9 s9 := weakT I9
      refine ⟨m', hm', i + 1, ys ++ [y], its ++ [v], _, H9, I9'.turned (it := D) (fun b o hb e => (Heap.get?_update_other s9.heap _ (Ne.symm hb)).trans e) p9.2.1 p9.2.2.1 (fpD p9.2.1).2.2.2.1 (fpD p9.2.1).2.2.2.2.1 (fun p hp => by rw [← hXC] at hp; simp [cxComp] at hp), ?_, fr9, p9.2.1, q, hv5.append (.cons r9 .nil), ?_, w9⟩
      · exact T.keep _ _ _ st9 fun b hb o e => (Heap.get?_update_other s9.heap _ (by rintro rfl; exact hDf hb)).trans e
      · rw [List.length_append, List.length_singleton]; (first | lia | omega)
  exact codeAny_compStart_list (loop _ rfl) (T.self _ 0 _ _ _ st4 (loop _ rfl))
theorem ps_setCompT {i : Nat} {x : Str} {pos' spos : Pos} (hN : X.N.Nodup) (hi' : X.N[i]? = some x) (hx : Loc X.env.scope x) (S : CompScope X scope N cap k) (hc : X.calm = true) (hi : PI X tg iter wi)
    (hg : ∀ C s₀ H₀ ex, PG (cxComp X scope N C s₀ H₀ ex) tg g) (ht : ∀ C s₀ H₀ ex, PT (cxComp X scope N C s₀ H₀ ex) ct tt) (he : ∀ C s₀ H₀ ex, PE (cxComp X scope N C s₀ H₀ ex) elt te)
    (hsw : swapsWith (.ListComp elt [⟨tg, iter, [ct], 0⟩] scope pos) (some (.Name x pos')) spos.line X.env = pure true := by rfl)
    (hs : ∀ x, foldedSetIterable iter X.env x = pure x := by intro _; rfl) (hgo : ∀ it v, letOwnedTupleGo tg it v = pure () := by intro _ _; rfl) (hf : X.fn x = true ∨ X.env.scope.names.lookup x = some .local := by first | exact .inl rfl | exact .inr rfl | assumption) :
    PS X (.Assign [.Name x pos'] (.ListComp elt [⟨tg, iter, [ct], 0⟩] scope pos) spos) (tAsg (tCompT wi cap k g tt te) (gName i)) := by
  intro pins s σ H D I h
  rw [exec_Assign_Name_used _ _ _ _ hsw]
  refine wpAny_bind (wpAny_standAt (wpAny_bind ?_))
  show wpAny _ X.A (do let _ ← comprehension (.ListComp elt [⟨tg, iter, [ct], 0⟩] scope pos) scope X.env _ (newList []) false (eval iter X.env) (some (assign (.Name x pos') X.env))) _ _ s
  refine wpAny_bind (wpAny_mono (wpAny_comprehension_free (use := some (assign (.Name x pos') X.env)) (Q := fun _ s' => SP X pins D .next s') rfl hs (closureFor_eq fun x hx hf => I.ok.has x.1 (S.free x hx hf)) S.kind S.loc
    (thn (hi pins s σ H _ I h) fun xv s1 h1 => thn h1 fun itv s2 h2 => ?_)) (fun _ s' hq => wpAny_pure (wpAny_pure hq)) fun _ _ e => e)
  obtain ⟨it, fp, tn, J, H2, e, I2, T, st2, f2, W, w0, turn⟩ := h2
  subst e
  refine comp_blockT (Q := fun v H' => D.nx (σ.set i (some v)) H') (RR := fun acc C => compPost (model X.prog X.w) X.A X.xe (some (assign (.Name x pos') X.env)) (fun _ s' => SP X pins D .next s') acc C) S hc hg ht he hgo I2 T st2 f2 W w0 turn ?_
  rintro DD C s' m' ⟨H', hn, hk, fC, q⟩
  obtain ⟨IP, hL, hcl⟩ := hk s'.heap ⟨rfl, fun _ _ => rfl⟩
  show wpAny _ X.A (assign (.Name x pos') X.env (.ref DD)) _ _ s'
  refine wpAny_assign_Name (store_ok2 (v := .ref DD) IP hN hi' hx rfl (fun s2 I2 ⟨a, hsb, ha⟩ => ?_) hf)
  have hCa : C ≠ a := by
    rcases ha with z | z
    · rw [z]; exact Ne.symm hL
    · exact Ne.symm (hcl x a z)
  refine ⟨m', hn.sameBut hsb hCa, fun h' hs' => ?_⟩
  exact ⟨_, H', I2.turned (t' := s2.toks) (it := C) (fun b o hb e => hs'.extBut b o hb e) fC.1 fC.2.1 fC.2.2.2.1 fC.2.2.2.2.1 fC.2.2.2.2.2, q⟩
end
end L2
namespace L2
open PySem PySem.Spec PyProof.Rows
end L2

namespace L2
open PySem PySem.Spec PyProof.Rows
theorem shaped_R (r : List Int) : SeqAt.shaped (PyData.list (r.map .int)) = true := by
  simp [SeqAt.shaped, PyData.canLay0, PyData.depth, PySem.W.ke_canLayAll0, PySem.W.ke_depthAll]
section
variable {X : Cx}
def rEqR : R2 := fun x y H Q => ∃ a b r t, x = .ref a ∧ y = .ref b ∧ IsRow H a r ∧ IsRow H b t ∧ Q (.bl (decide (r = t))) H
def rNeR : R2 := fun x y H Q => ∃ a b r t, x = .ref a ∧ y = .ref b ∧ IsRow H a r ∧ IsRow H b t ∧ Q (.bl (!decide (r = t))) H
theorem op_eqR (hu : X.A.units + 64 < cLine) : OpR X (compareOp .Eq) rEqR := by
  intro pins s σ H x y v u Q I rx ry h
  obtain ⟨a, b, r, t, rfl, rfl, ha, hb, q⟩ := h
  cases rx
  cases ry
  refine eq_dataH (reads_row I ha) (reads_row I hb) (shaped_R r) (shaped_R t) hu ?_
  refine ⟨.bl (decide (r = t)), H, I, ?_, q⟩
  show Value.bool (PyData.eqvAll _ _) = _
  rw [PySem.W.ked_eqvAll]
end
end L2

namespace E1
def quo (number part : Int) : Int := -((2 * number + part).fdiv (2 * part))
theorem quo_neg (a p : Int) : quo (-a) (-p) = quo a p := by
  unfold quo
  have e1 : 2 * -a + -p = -(2 * a + p) := by (first | lia | omega)
  have e2 : 2 * -p = -(2 * p) := by (first | lia | omega)
  rw [e1, e2, Int.neg_fdiv_neg]
theorem quo_rest' {a p : Int} (hp : 0 < p) : 2 * (a + quo a p * p).natAbs ≤ p.natAbs := by
  have e : (2 * a + p) = (2 * p) * ((2 * a + p).fdiv (2 * p)) + (2 * a + p).fmod (2 * p) := by
    have := Int.mul_fdiv_add_fmod (2 * a + p) (2 * p)
    (first | lia | omega)
  unfold quo
  generalize hf : (2 * a + p).fdiv (2 * p) = f at e
  generalize hr : (2 * a + p).fmod (2 * p) = r at e
  have e2 : 2 * (a + -f * p) = r - p := by
    have : (2 * p) * f = 2 * (f * p) := by rw [Int.mul_assoc, Int.mul_comm p f]
    rw [this] at e
    have : -f * p = -(f * p) := Int.neg_mul f p
    rw [this]; (first | lia | omega)
  have h1 : 0 ≤ r := by rw [← hr]; exact Int.fmod_nonneg_of_pos _ (by (first | lia | omega))
  have h2 : r < 2 * p := by rw [← hr]; exact Int.fmod_lt_of_pos _ (by (first | lia | omega))
  (first | lia | omega)
theorem quo_rest {a p : Int} (hp : p ≠ 0) : 2 * (a + quo a p * p).natAbs ≤ p.natAbs := by
  by_cases h : 0 < p
  · exact quo_rest' h
  · have h2 := quo_rest' (a := -a) (p := -p) (by (first | lia | omega))
    rw [quo_neg] at h2
    have e : -a + quo a p * -p = -(a + quo a p * p) := by rw [Int.mul_neg]; (first | lia | omega)
    rw [e, Int.natAbs_neg, Int.natAbs_neg] at h2
    exact h2
theorem quo_size {a p : Int} (hp : p ≠ 0) : 2 * ((quo a p).natAbs * p.natAbs) ≤ 2 * a.natAbs + p.natAbs := by
  have h := quo_rest (a := a) hp
  have e : (quo a p).natAbs * p.natAbs = (quo a p * p).natAbs := (Int.natAbs_mul _ _).symm
  rw [e]; (first | lia | omega)
theorem quo_exact {a p : Int} (hp : p ≠ 0) (hd : p ∣ a) : a + quo a p * p = 0 := by
  have h := quo_rest (a := a) hp
  have hd2 : p ∣ a + quo a p * p := Int.dvd_add hd (Int.dvd_mul_left _ _)
  have hz : (a + quo a p * p).natAbs = 0 := by
    have hd3 : p.natAbs ∣ (a + quo a p * p).natAbs := Int.natAbs_dvd_natAbs.mpr hd2
    have hpp : 0 < p.natAbs := by (first | lia | omega)
    rcases Nat.eq_zero_or_pos (a + quo a p * p).natAbs with z | z
    · exact z
    · have := Nat.le_of_dvd z hd3
      (first | lia | omega)
  (first | lia | omega)
theorem quo_two {a p : Int} (hp : p ≠ 0) (h : 2 * p.natAbs ≤ a.natAbs) : 2 ≤ (quo a p).natAbs := by
  have h1 := quo_rest (a := a) hp
  have e : (quo a p * p).natAbs = (quo a p).natAbs * p.natAbs := Int.natAbs_mul _ _
  have hpp : 0 < p.natAbs := by (first | lia | omega)
  have h3 : 3 * p.natAbs ≤ 2 * (quo a p * p).natAbs := by (first | lia | omega)
  rw [e] at h3
  rcases Nat.lt_or_ge (quo a p).natAbs 2 with z | z
  · have : (quo a p).natAbs * p.natAbs ≤ 1 * p.natAbs := Nat.mul_le_mul_right _ (by (first | lia | omega))
    (first | lia | omega)
  · exact z
end E1

namespace E1
theorem quo_le {a p : Int} (hp : p ≠ 0) : (quo a p).natAbs ≤ a.natAbs := by
  have h := quo_size (a := a) hp
  have hpp : 0 < p.natAbs := by (first | lia | omega)
  rcases Nat.eq_zero_or_pos (quo a p).natAbs with z | z
  · (first | lia | omega)
  · have h2 : (quo a p).natAbs * 1 ≤ (quo a p).natAbs * p.natAbs := Nat.mul_le_mul_left _ hpp
    have h3 : 1 * p.natAbs ≤ (quo a p).natAbs * p.natAbs := Nat.mul_le_mul_right _ z
    have h4 : ((quo a p).natAbs - 1) * (p.natAbs - 1) + (quo a p).natAbs + p.natAbs = (quo a p).natAbs * p.natAbs + 1 := by
      obtain ⟨s, hs⟩ : ∃ s, (quo a p).natAbs = s + 1 := ⟨_, (Nat.succ_pred_eq_of_pos z).symm⟩
      obtain ⟨t, ht⟩ : ∃ t, p.natAbs = t + 1 := ⟨_, (Nat.succ_pred_eq_of_pos hpp).symm⟩
      rw [hs, ht]
      simp only [Nat.add_sub_cancel]
      grind
    (first | lia | omega)
theorem grow {q u u' : Int} (hq : 2 ≤ q.natAbs) (h : u'.natAbs ≤ u.natAbs) : u.natAbs ≤ (u' + q * u).natAbs := by
  have e : (q * u).natAbs = q.natAbs * u.natAbs := Int.natAbs_mul _ _
  have h2 : 2 * u.natAbs ≤ q.natAbs * u.natAbs := Nat.mul_le_mul_right _ hq
  (first | lia | omega)
theorem small {a b x y z : Int} (h : a * y - b * x = z ∨ a * y - b * x = -z) (hx : x ≠ 0) (hxy : 2 * y.natAbs ≤ x.natAbs) (hab : a.natAbs ≤ b.natAbs) : b.natAbs ≤ 2 * z.natAbs := by
  have h1 : (b * x).natAbs ≤ z.natAbs + (a * y).natAbs := by rcases h with h | h <;> (first | lia | omega)
  rw [Int.natAbs_mul, Int.natAbs_mul] at h1
  have h2 : a.natAbs * y.natAbs ≤ b.natAbs * y.natAbs := Nat.mul_le_mul_right _ hab
  have h3 : b.natAbs * (2 * y.natAbs) ≤ b.natAbs * x.natAbs := Nat.mul_le_mul_left _ hxy
  have h4 : b.natAbs * (2 * y.natAbs) = 2 * (b.natAbs * y.natAbs) := by rw [Nat.mul_left_comm]
  have h5 : b.natAbs * 1 ≤ b.natAbs * x.natAbs := Nat.mul_le_mul_left _ (by (first | lia | omega))
  (first | lia | omega)
structure Co (x0 y0 u v u' v' : Int) : Prop where
  dt : u * v' - u' * v = 1 ∨ u * v' - u' * v = -1
  bu : u.natAbs ≤ 1 + 2 * y0.natAbs
  bu' : u'.natAbs ≤ 1 + 2 * y0.natAbs
  bv : v.natAbs ≤ 1 + 2 * x0.natAbs
  bv' : v'.natAbs ≤ 1 + 2 * x0.natAbs
theorem Co.init (x0 y0 : Int) : Co x0 y0 1 0 0 1 := ⟨Or.inl rfl, by (first | lia | omega), by (first | lia | omega), by (first | lia | omega), by (first | lia | omega)⟩
theorem Co.swap {x0 y0 u v u' v' : Int} (h : Co x0 y0 u v u' v') : Co x0 y0 u' v' u v :=
  ⟨by rcases h.dt with z | z
      · exact Or.inr (by grind)
      · exact Or.inl (by grind), h.bu', h.bu, h.bv', h.bv⟩
theorem Co.y0 {x0 y0 u v u' v' : Int} (h : Co x0 y0 u v u' v') :
    u * (u' * x0 + v' * y0) - u' * (u * x0 + v * y0) = y0 ∨ u * (u' * x0 + v' * y0) - u' * (u * x0 + v * y0) = -y0 := by
  have e : u * (u' * x0 + v' * y0) - u' * (u * x0 + v * y0) = (u * v' - u' * v) * y0 := by grind
  rw [e]
  rcases h.dt with z | z
  · left; rw [z]; (first | lia | omega)
  · right; rw [z]; (first | lia | omega)
theorem Co.x0 {x0 y0 u v u' v' : Int} (h : Co x0 y0 u v u' v') :
    v * (u' * x0 + v' * y0) - v' * (u * x0 + v * y0) = x0 ∨ v * (u' * x0 + v' * y0) - v' * (u * x0 + v * y0) = -x0 := by
  have e : v * (u' * x0 + v' * y0) - v' * (u * x0 + v * y0) = -((u * v' - u' * v) * x0) := by grind
  rw [e]
  rcases h.dt with z | z
  · right; rw [z]; (first | lia | omega)
  · left; rw [z]; (first | lia | omega)
structure Head (x0 y0 u v u' v' : Int) : Prop where
  co : Co x0 y0 u v u' v'
  nz : u * x0 + v * y0 ≠ 0
  st : u' * x0 + v' * y0 = 0 ∨ (u = 1 ∧ v = 0 ∧ u' = 0 ∧ v' = 1) ∨
    (u'.natAbs ≤ u.natAbs ∧ v'.natAbs ≤ v.natAbs ∧ 2 * (u * x0 + v * y0).natAbs ≤ (u' * x0 + v' * y0).natAbs)
  keep : x0 ∣ y0 → u = 1 ∧ v = 0
structure Mid (x0 y0 u v u' v' : Int) : Prop where
  co : Co x0 y0 u v u' v'
  nz : u * x0 + v * y0 ≠ 0
  le : 2 * (u' * x0 + v' * y0).natAbs ≤ (u * x0 + v * y0).natAbs
  gv : v.natAbs ≤ v'.natAbs
  gu : u.natAbs ≤ u'.natAbs ∨ (u' = 0 ∧ u.natAbs = 1)
  keep : x0 ∣ y0 → u = 1 ∧ v = 0 ∧ u' * x0 + v' * y0 = 0
theorem head_init {x0 y0 : Int} (h : x0 ≠ 0) : Head x0 y0 1 0 0 1 := ⟨Co.init .., by simpa using h, Or.inr (Or.inl ⟨rfl, rfl, rfl, rfl⟩), fun _ => ⟨rfl, rfl⟩⟩
theorem head_mid {x0 y0 u v u' v' q : Int} (h : Head x0 y0 u v u' v') (hy : u' * x0 + v' * y0 ≠ 0)
    (hq : q = quo (u' * x0 + v' * y0) (u * x0 + v * y0)) : Mid x0 y0 u v (u' + q * u) (v' + q * v) := by
  have e : (u' + q * u) * x0 + (v' + q * v) * y0 = (u' * x0 + v' * y0) + q * (u * x0 + v * y0) := by grind
  have hr := quo_rest (a := u' * x0 + v' * y0) h.nz
  rw [← hq, ← e] at hr
  have hd : u * (v' + q * v) - (u' + q * u) * v = 1 ∨ u * (v' + q * v) - (u' + q * u) * v = -1 := by
    have : u * (v' + q * v) - (u' + q * u) * v = u * v' - u' * v := by grind
    rw [this]; exact h.co.dt
  have gv : v.natAbs ≤ (v' + q * v).natAbs := by
    rcases h.st with z | z | z
    · exact absurd z hy
    · obtain ⟨rfl, rfl, rfl, rfl⟩ := z; simp
    · exact grow (hq ▸ quo_two h.nz z.2.2) z.2.1
  have gu : u.natAbs ≤ (u' + q * u).natAbs ∨ (u' + q * u = 0 ∧ u.natAbs = 1) := by
    rcases h.st with z | z | z
    · exact absurd z hy
    · obtain ⟨rfl, rfl, rfl, rfl⟩ := z
      by_cases hq0 : q = 0
      · right; subst hq0; simp
      · left; simp only [Int.mul_one, Int.zero_add]; (first | lia | omega)
    · exact Or.inl (grow (hq ▸ quo_two h.nz z.2.2) z.1)
  have c0 : Co x0 y0 u v (u' + q * u) (v' + q * v) ∨ True := Or.inr trivial
  have ey : u * ((u' + q * u) * x0 + (v' + q * v) * y0) - (u' + q * u) * (u * x0 + v * y0) = y0 ∨
      u * ((u' + q * u) * x0 + (v' + q * v) * y0) - (u' + q * u) * (u * x0 + v * y0) = -y0 := by
    have e3 : u * ((u' + q * u) * x0 + (v' + q * v) * y0) - (u' + q * u) * (u * x0 + v * y0) = (u * (v' + q * v) - (u' + q * u) * v) * y0 := by grind
    rw [e3]
    rcases hd with z | z
    · left; rw [z]; (first | lia | omega)
    · right; rw [z]; (first | lia | omega)
  have ex : v * ((u' + q * u) * x0 + (v' + q * v) * y0) - (v' + q * v) * (u * x0 + v * y0) = x0 ∨
      v * ((u' + q * u) * x0 + (v' + q * v) * y0) - (v' + q * v) * (u * x0 + v * y0) = -x0 := by
    have e3 : v * ((u' + q * u) * x0 + (v' + q * v) * y0) - (v' + q * v) * (u * x0 + v * y0) = -((u * (v' + q * v) - (u' + q * u) * v) * x0) := by grind
    rw [e3]
    rcases hd with z | z
    · right; rw [z]; (first | lia | omega)
    · left; rw [z]; (first | lia | omega)
  have bv' := small ex h.nz hr gv
  refine ⟨⟨hd, h.co.bu, ?_, h.co.bv, by (first | lia | omega)⟩, h.nz, hr, gv, gu, fun hk => ?_⟩
  · rcases gu with z | z
    · have := small ey h.nz hr z; (first | lia | omega)
    · rw [z.1]; simp
  · obtain ⟨rfl, rfl⟩ := h.keep hk
    refine ⟨rfl, rfl, ?_⟩
    rw [e, hq]
    refine quo_exact h.nz ?_
    simp only [Int.one_mul, Int.zero_mul, Int.add_zero]
    exact Int.dvd_add (Int.dvd_mul_left _ _) (Int.dvd_mul_of_dvd_right hk)
structure Tail (x0 y0 u v u' v' : Int) : Prop where
  co : Co x0 y0 u v u' v'
  nz : u' * x0 + v' * y0 ≠ 0
  le : 2 * (u * x0 + v * y0).natAbs ≤ (u' * x0 + v' * y0).natAbs
  gv : v'.natAbs ≤ v.natAbs
  gu : u'.natAbs ≤ u.natAbs
  nk : ¬ x0 ∣ y0
theorem mid_tail {x0 y0 u v u' v' q : Int} (h : Mid x0 y0 u v u' v') (hy : u' * x0 + v' * y0 ≠ 0)
    (hq : q = quo (u * x0 + v * y0) (u' * x0 + v' * y0)) : Tail x0 y0 (u + q * u') (v + q * v') u' v' := by
  have e : (u + q * u') * x0 + (v + q * v') * y0 = (u * x0 + v * y0) + q * (u' * x0 + v' * y0) := by grind
  have hr := quo_rest (a := u * x0 + v * y0) hy
  rw [← hq, ← e] at hr
  have h2 : 2 ≤ q.natAbs := hq ▸ quo_two hy h.le
  have hd : (u + q * u') * v' - u' * (v + q * v') = 1 ∨ (u + q * u') * v' - u' * (v + q * v') = -1 := by
    have : (u + q * u') * v' - u' * (v + q * v') = u * v' - u' * v := by grind
    rw [this]; exact h.co.dt
  have gv := grow h2 h.gv
  have gu : u'.natAbs ≤ (u + q * u').natAbs := by
    rcases h.gu with z | z
    · exact grow h2 z
    · rw [z.1]; simp
  have ey : u' * ((u + q * u') * x0 + (v + q * v') * y0) - (u + q * u') * (u' * x0 + v' * y0) = y0 ∨
      u' * ((u + q * u') * x0 + (v + q * v') * y0) - (u + q * u') * (u' * x0 + v' * y0) = -y0 := by
    have e3 : u' * ((u + q * u') * x0 + (v + q * v') * y0) - (u + q * u') * (u' * x0 + v' * y0) = -(((u + q * u') * v' - u' * (v + q * v')) * y0) := by grind
    rw [e3]
    rcases hd with z | z
    · right; rw [z]; (first | lia | omega)
    · left; rw [z]; (first | lia | omega)
  have ex : v' * ((u + q * u') * x0 + (v + q * v') * y0) - (v + q * v') * (u' * x0 + v' * y0) = x0 ∨
      v' * ((u + q * u') * x0 + (v + q * v') * y0) - (v + q * v') * (u' * x0 + v' * y0) = -x0 := by
    have e3 : v' * ((u + q * u') * x0 + (v + q * v') * y0) - (v + q * v') * (u' * x0 + v' * y0) = (((u + q * u') * v' - u' * (v + q * v')) * x0) := by grind
    rw [e3]
    rcases hd with z | z
    · left; rw [z]; (first | lia | omega)
    · right; rw [z]; (first | lia | omega)
  have bv := small ex hy hr gv
  have bu := small ey hy hr gu
  exact ⟨⟨hd, by (first | lia | omega), h.co.bu', by (first | lia | omega), h.co.bv'⟩, hy, hr, gv, gu, fun hk => hy (h.keep hk).2.2⟩
theorem tail_head {x0 y0 u v u' v' : Int} (h : Tail x0 y0 u v u' v') (hx : u * x0 + v * y0 ≠ 0) : Head x0 y0 u v u' v' :=
  ⟨h.co, hx, Or.inr (Or.inr ⟨h.gu, h.gv, h.le⟩), fun hk => absurd hk h.nk⟩
theorem tail_swap {x0 y0 u v u' v' : Int} (h : Tail x0 y0 u v u' v') (hx : u * x0 + v * y0 = 0) : Head x0 y0 u' v' u v :=
  ⟨h.co.swap, h.nz, Or.inl hx, fun hk => absurd hk h.nk⟩
theorem mid_head {x0 y0 u v u' v' : Int} (h : Mid x0 y0 u v u' v') (hy : u' * x0 + v' * y0 = 0) : Head x0 y0 u v u' v' :=
  ⟨h.co, h.nz, Or.inl hy, fun hk => ⟨(h.keep hk).1, (h.keep hk).2.1⟩⟩
theorem Head.ends {x0 y0 u v u' v' : Int} (h : Head x0 y0 u v u' v') (hy : u' * x0 + v' * y0 = 0) :
    ∃ s : Int, (s = 1 ∨ s = -1) ∧ x0 = s * v' * (u * x0 + v * y0) ∧ y0 = -(s * u' * (u * x0 + v * y0)) := by
  have h1 := h.co.x0
  have h2 := h.co.y0
  have dt := h.co.dt
  refine ⟨u * v' - u' * v, dt, ?_, ?_⟩
  · have e : (u * v' - u' * v) * v' * (u * x0 + v * y0) = (u * v' - u' * v) * ((u * v' - u' * v) * x0) + (u * v' - u' * v) * v * (u' * x0 + v' * y0) := by grind
    rw [e, hy]
    rcases dt with z | z <;> rw [z] <;> (first | lia | omega)
  · have e : -((u * v' - u' * v) * u' * (u * x0 + v * y0)) = (u * v' - u' * v) * ((u * v' - u' * v) * y0) - (u * v' - u' * v) * u * (u' * x0 + v' * y0) := by grind
    rw [e, hy]
    rcases dt with z | z <;> rw [z] <;> (first | lia | omega)
theorem row_le {B u v t l x0 y0 : Int} {b : Nat} (hu : u.natAbs ≤ 1 + 2 * y0.natAbs) (hv : v.natAbs ≤ 1 + 2 * x0.natAbs)
    (hx : x0.natAbs ≤ 2 ^ b) (hy : y0.natAbs ≤ 2 ^ b) (ht : t.natAbs ≤ 2 ^ b) (hl : l.natAbs ≤ 2 ^ b) : (u * t + v * l).natAbs ≤ 2 ^ (2 * b + 3) := by
  have h1 : (u * t).natAbs ≤ (1 + 2 * 2 ^ b) * 2 ^ b := by rw [Int.natAbs_mul]; exact Nat.mul_le_mul (by (first | lia | omega)) ht
  have h2 : (v * l).natAbs ≤ (1 + 2 * 2 ^ b) * 2 ^ b := by rw [Int.natAbs_mul]; exact Nat.mul_le_mul (by (first | lia | omega)) hl
  have h3 : (2 : Nat) ^ (2 * b + 3) = 8 * (2 ^ b * 2 ^ b) := by rw [Nat.pow_add, Nat.two_mul, Nat.pow_add]; (first | lia | omega)
  have h4 : (1 + 2 * 2 ^ b) * 2 ^ b = 2 ^ b + 2 * ((2 : Nat) ^ b * 2 ^ b) := by rw [Nat.add_mul, Nat.mul_assoc]; (first | lia | omega)
  have h5 : (2 : Nat) ^ b * 1 ≤ 2 ^ b * 2 ^ b := Nat.mul_le_mul_left _ Nat.one_le_two_pow
  (first | lia | omega)
end E1

namespace E1
abbrev Tab := Nat → Nat → Int
inductive RC where
  | add (i j : Nat) (q : Int) | swap (i j : Nat) | turn (i : Nat)
def addR (e : Tab) (i j : Nat) (q : Int) : Tab := fun x y => if x = i then e i y + q * e j y else e x y
def sw (i j x : Nat) : Nat := if x = i then j else if x = j then i else x
def swapR (e : Tab) (i j : Nat) : Tab := fun x y => e (sw i j x) y
def turnR (e : Tab) (i : Nat) : Tab := fun x y => if x = i then -e i y else e x y
def RC.app : RC → Tab → Tab
  | .add i j q, e => addR e i j q
  | .swap i j, e => swapR e i j
  | .turn i, e => turnR e i
def rapps (L : List RC) (e : Tab) : Tab := L.foldl (fun e c => c.app e) e
theorem rapps_nil (e : Tab) : rapps [] e = e := rfl
theorem rapps_cons (c : RC) (L : List RC) (e : Tab) : rapps (c :: L) e = rapps L (c.app e) := rfl
theorem rapps_app (L M : List RC) (e : Tab) : rapps (L ++ M) e = rapps M (rapps L e) := List.foldl_append
def RC.ok (n : Nat) : RC → Prop
  | .add i j _ => i < n ∧ j < n ∧ i ≠ j
  | .swap i j => i < n ∧ j < n ∧ i ≠ j
  | .turn i => i < n
def Le (c : Nat) (e : Tab) : Prop := ∀ x y, (e x y).natAbs ≤ 2 ^ c
theorem Le.mono {c d : Nat} {e : Tab} (h : Le c e) (hc : c ≤ d) : Le d e := fun x y => Nat.le_trans (h x y) (Nat.pow_le_pow_right (by decide) hc)
theorem addR_zero (e : Tab) (i j : Nat) : addR e i j 0 = e := by
  funext x y; unfold addR; split
  · rename_i h; subst h; simp
  · rfl
def lch (i j : Nat) (q : Int) : List RC := if q = 0 then [] else [.add i j q]
theorem lch_app (e : Tab) (i j : Nat) (q : Int) : rapps (lch i j q) e = addR e i j q := by
  unfold lch; split
  · rename_i h; subst h; rw [addR_zero]; rfl
  · rfl
theorem lch_len (i j : Nat) (q : Int) : (lch i j q).length ≤ 1 := by unfold lch; split <;> simp
theorem lch_ok {n i j : Nat} {q : Int} (hi : i < n) (hj : j < n) (hij : i ≠ j) : ∀ c ∈ lch i j q, c.ok n := by
  unfold lch; split
  · simp
  · intro c hc; simp at hc; subst hc; exact ⟨hi, hj, hij⟩
def lq (e : Tab) (i j p : Nat) : Int := quo (e i p) (e j p)
def less (e : Tab) (i j p : Nat) : Tab := addR e i j (lq e i j p)
theorem less_rest {e : Tab} {i j p : Nat} (hp : e j p ≠ 0) : 2 * (less e i j p i p).natAbs ≤ (e j p).natAbs := by
  unfold less addR; rw [if_pos rfl]; exact quo_rest hp
theorem less_other {e : Tab} {i j p x : Nat} (hx : x ≠ i) (y : Nat) : less e i j p x y = e x y := by unfold less addR; rw [if_neg hx]
theorem less_row {e : Tab} {i j p : Nat} (y : Nat) : less e i j p i y = e i y + lq e i j p * e j y := by unfold less addR; rw [if_pos rfl]
inductive MeetR (cap top low p : Nat) : Tab → List RC → Tab → Prop
  | done {e : Tab} : Le cap e → e low p = 0 → MeetR cap top low p e [] e
  | half {e e1 : Tab} : Le cap e → e low p ≠ 0 → e top p ≠ 0 → e1 = less e low top p → Le cap e1 → e1 low p = 0 →
      MeetR cap top low p e (lch low top (lq e low top p)) e1
  | turn {e e1 e2 e' : Tab} {L : List RC} : Le cap e → e low p ≠ 0 → e top p ≠ 0 → e1 = less e low top p → Le cap e1 → e1 low p ≠ 0 →
      e2 = less e1 top low p → Le cap e2 → e2 top p ≠ 0 → MeetR cap top low p e2 L e' →
      MeetR cap top low p e (lch low top (lq e low top p) ++ (lch top low (lq e1 top low p) ++ L)) e'
  | swap {e e1 e2 : Tab} : Le cap e → e low p ≠ 0 → e top p ≠ 0 → e1 = less e low top p → Le cap e1 → e1 low p ≠ 0 →
      e2 = less e1 top low p → Le cap e2 → e2 top p = 0 →
      MeetR cap top low p e (lch low top (lq e low top p) ++ (lch top low (lq e1 top low p) ++ [.swap top low])) (swapR e2 top low)
structure Sums (e0 e : Tab) (top low : Nat) (u v u' v' : Int) : Prop where
  t : ∀ y, e top y = u * e0 top y + v * e0 low y
  l : ∀ y, e low y = u' * e0 top y + v' * e0 low y
  o : ∀ x, x ≠ top → x ≠ low → ∀ y, e x y = e0 x y
theorem Sums.refl (e : Tab) (top low : Nat) : Sums e e top low 1 0 0 1 := ⟨fun y => by simp, fun y => by simp, fun _ _ _ _ => rfl⟩
theorem Sums.le {e0 e : Tab} {top low p c : Nat} {u v u' v' : Int} (h : Sums e0 e top low u v u' v') (hc : Le c e0) (co : Co (e0 top p) (e0 low p) u v u' v') : Le (2 * c + 3) e := by
  intro x y
  by_cases hx : x = top
  · subst hx; rw [h.t]; exact row_le (B := 0) co.bu co.bv (hc _ _) (hc _ _) (hc _ _) (hc _ _)
  · by_cases hl : x = low
    · subst hl; rw [h.l]; exact row_le (B := 0) co.bu' co.bv' (hc _ _) (hc _ _) (hc _ _) (hc _ _)
    · rw [h.o x hx hl]; exact hc.mono (by (first | lia | omega)) x y
theorem Sums.low {e0 e : Tab} {top low p : Nat} {u v u' v' : Int} (h : Sums e0 e top low u v u' v') (htl : top ≠ low) :
    Sums e0 (less e low top p) top low u v (u' + lq e low top p * u) (v' + lq e low top p * v) := by
  refine ⟨fun y => ?_, fun y => ?_, fun x h1 h2 y => ?_⟩
  · rw [less_other htl]; exact h.t y
  · rw [less_row, h.l, h.t]; generalize lq e low top p = q; grind
  · rw [less_other h2]; exact h.o x h1 h2 y
theorem Sums.top {e0 e : Tab} {top low p : Nat} {u v u' v' : Int} (h : Sums e0 e top low u v u' v') (htl : top ≠ low) :
    Sums e0 (less e top low p) top low (u + lq e top low p * u') (v + lq e top low p * v') u' v' := by
  refine ⟨fun y => ?_, fun y => ?_, fun x h1 h2 y => ?_⟩
  · rw [less_row, h.l, h.t]; generalize lq e top low p = q; grind
  · rw [less_other (Ne.symm htl)]; exact h.l y
  · rw [less_other h1]; exact h.o x h1 h2 y
theorem Sums.swap {e0 e : Tab} {top low : Nat} {u v u' v' : Int} (h : Sums e0 e top low u v u' v') (htl : top ≠ low) :
    Sums e0 (swapR e top low) top low u' v' u v := by
  refine ⟨fun y => ?_, fun y => ?_, fun x h1 h2 y => ?_⟩
  · simp only [swapR, sw, if_pos]; exact h.l y
  · simp only [swapR, sw, if_neg (Ne.symm htl), if_pos]; exact h.t y
  · simp only [swapR, sw, if_neg h1, if_neg h2]; exact h.o x h1 h2 y
structure Met (e e' : Tab) (top low p : Nat) (s t s' t' : Int) : Prop where
  sums : Sums e e' top low s t s' t'
  co : Co (e top p) (e low p) s t s' t'
  nz : e' top p ≠ 0
  zero : e' low p = 0
  keep : e top p ∣ e low p → s = 1 ∧ t = 0
  ends : ∃ g : Int, (g = 1 ∨ g = -1) ∧ e top p = g * t' * e' top p ∧ e low p = -(g * s' * e' top p)
end E1

namespace E1
def ups : Nat → Nat → Nat
  | 0, c => c
  | n + 1, c => ups n (2 * c + 3)
def fp (r : Nat → Int) : Nat → Nat → Nat
  | y, 0 => y
  | y, n + 1 => if r y ≠ 0 then y else fp r (y + 1) n
theorem fp_zero (r : Nat → Int) : ∀ n y z, y ≤ z → z < fp r y n → r z = 0
  | 0, y, z, h1, h2 => by unfold fp at h2; (first | lia | omega)
  | n + 1, y, z, h1, h2 => by
    unfold fp at h2
    split at h2
    · (first | lia | omega)
    · rename_i hr
      by_cases e : z = y
      · subst e; simpa using hr
      · exact fp_zero r n (y + 1) z (by (first | lia | omega)) h2
theorem fp_nz (r : Nat → Int) : ∀ n y, fp r y n < y + n → r (fp r y n) ≠ 0
  | 0, y, h => by unfold fp at h; (first | lia | omega)
  | n + 1, y, h => by
    unfold fp at h ⊢
    split
    · rename_i hr; exact hr
    · rename_i hr
      rw [if_neg hr] at h
      exact fp_nz r n (y + 1) (by (first | lia | omega))
theorem fp_gt {r : Nat → Int} {w y : Nat} (hw : y < w) (h : ∀ z, z ≤ y → r z = 0) : y < fp r 0 w := by
  apply Classical.byContradiction
  intro hn
  have := fp_nz r w 0 (by (first | lia | omega))
  exact this (h _ (by (first | lia | omega)))
def sat (st : List Nat) (i : Nat) : Nat := st.getD i 0
def Wide (e : Tab) (w : Nat) : Prop := ∀ x y, w ≤ y → e x y = 0
structure Stairs (e : Tab) (st : List Nat) (w n : Nat) : Prop where
  len : st.length ≤ n
  lt : ∀ i, i < st.length → sat st i < w
  mono : ∀ i j, i < j → j < st.length → sat st i < sat st j
  nz : ∀ i, i < st.length → e i (sat st i) ≠ 0
  zl : ∀ i, i < st.length → ∀ y, y < sat st i → e i y = 0
  zr : ∀ x, st.length ≤ x → x < n → ∀ y, e x y = 0
def LRow (cap : Nat) (st : List Nat) (row : Nat) : Nat → Nat → Tab → List RC → Tab → Prop
  | _, 0, e, L, e' => Le cap e ∧ L = [] ∧ e' = e
  | t, n + 1, e, L, e' => Le cap e ∧ e t (sat st t) ≠ 0 ∧ ∃ L2, LRow cap st row (t + 1) n (less e row t (sat st t)) L2 e' ∧ L = lch row t (lq e row t (sat st t)) ++ L2
inductive TakeR (cap low w : Nat) (st : List Nat) : Nat → Tab → List RC → Nat → Tab → Prop
  | stop {top : Nat} {e : Tab} : Le cap e → ¬ (top < st.length ∧ sat st top ≤ fp (e low) 0 w) → TakeR cap low w st top e [] top e
  | skip {top top' : Nat} {e e' : Tab} {L : List RC} : Le cap e → top < st.length → sat st top < fp (e low) 0 w → TakeR cap low w st (top + 1) e L top' e' → TakeR cap low w st top e L top' e'
  | meet {top top' : Nat} {e e1 e2 e3 e' : Tab} {L1 L2 L3 L4 : List RC} : Le cap e → top < st.length → sat st top = fp (e low) 0 w →
      MeetR cap top low (sat st top) e L1 e1 → LRow cap st top (top + 1) (st.length - (top + 1)) e1 L2 e2 → LRow cap st low (top + 1) (st.length - (top + 1)) e2 L3 e3 →
      TakeR cap low w st (top + 1) e3 L4 top' e' → TakeR cap low w st top e (L1 ++ (L2 ++ (L3 ++ L4))) top' e'
theorem wide_app {w : Nat} {e : Tab} (h : Wide e w) : ∀ L : List RC, Wide (rapps L e) w := by
  intro L
  induction L generalizing e with
  | nil => exact h
  | cons c L ih =>
    rw [rapps_cons]
    apply ih
    intro x y hy
    cases c with
    | add i j q => simp only [RC.app, addR]; split <;> simp [h _ _ hy]
    | swap i j => simp only [RC.app, swapR]; exact h _ _ hy
    | turn i => simp only [RC.app, turnR]; split <;> simp [h _ _ hy]
end E1

namespace Dt
section
variable {R C : Type}
def S (f : List C → Int) (e : C → Int) : List C → List C → Int
  | _, [] => 0
  | pre, c :: post => e c * f (pre ++ post) - S f e (pre ++ [c]) post
def det (e : R → C → Int) : List R → List C → Int
  | [], [] => 1
  | [], _ :: _ => 0
  | r :: rs, J => S (det e rs) (e r) [] J
theorem S_lin_e {f : List C → Int} {e u v : C → Int} {m : Int} (h : ∀ c, e c = u c + m * v c) :
    ∀ post pre, S f e pre post = S f u pre post + m * S f v pre post
  | [], pre => by simp [S]
  | c :: post, pre => by
    simp only [S]
    rw [S_lin_e h post, h c]
    grind
theorem S_lin_f {f g k : List C → Int} {e : C → Int} {m : Int} (h : ∀ l, f l = g l + m * k l) :
    ∀ post pre, S f e pre post = S g e pre post + m * S k e pre post
  | [], pre => by simp [S]
  | c :: post, pre => by
    simp only [S]
    rw [S_lin_f h post, h]
    grind
theorem S_zero_f {f : List C → Int} {e : C → Int} (h : ∀ l, f l = 0) : ∀ post pre, S f e pre post = 0
  | [], pre => by simp [S]
  | c :: post, pre => by simp only [S]; rw [S_zero_f h post, h]; simp
theorem S_zero_e {f : List C → Int} {e : C → Int} : ∀ post pre, (∀ c ∈ post, e c = 0) → S f e pre post = 0
  | [], pre, _ => by simp [S]
  | c :: post, pre, h => by
    simp only [S]
    rw [S_zero_e post _ (fun x hx => h x (List.mem_cons_of_mem _ hx)), h c (List.mem_cons_self ..)]; simp
theorem S_scale_f {f g : List C → Int} {e : C → Int} {m : Int} (h : ∀ l, f l = m * g l) :
    ∀ post pre, S f e pre post = m * S g e pre post
  | [], pre => by simp [S]
  | c :: post, pre => by
    simp only [S]; rw [S_scale_f h post, h]; grind
theorem det_row {e : R → C → Int} {w u v : R} {m : Int} (h : ∀ c, e w c = e u c + m * e v c) (Q : List R) :
    ∀ (P : List R) (J : List C), det e (P ++ w :: Q) J = det e (P ++ u :: Q) J + m * det e (P ++ v :: Q) J
  | [], J => by simp only [List.nil_append, det]; exact S_lin_e h J []
  | r :: P, J => by
    simp only [List.cons_append, det]
    exact S_lin_f (fun l => det_row h Q P l) J []
theorem S_col_pre {f : List C → Int} {e : C → Int} {w u v : C} {m : Int}
    (hf : ∀ P Q, f (P ++ w :: Q) = f (P ++ u :: Q) + m * f (P ++ v :: Q)) (P : List C) :
    ∀ post Q, S f e (P ++ w :: Q) post = S f e (P ++ u :: Q) post + m * S f e (P ++ v :: Q) post
  | [], Q => by simp [S]
  | c :: post, Q => by
    simp only [S, List.append_assoc, List.cons_append]
    rw [hf, S_col_pre hf P post (Q ++ [c])]
    grind
theorem S_col {f : List C → Int} {e : C → Int} {w u v : C} {m : Int}
    (hf : ∀ P Q, f (P ++ w :: Q) = f (P ++ u :: Q) + m * f (P ++ v :: Q)) (he : e w = e u + m * e v)
    (hff : ∀ P Q, f (P ++ w :: Q) = f (P ++ w :: Q)) (Q : List C) :
    ∀ P pre, S f e pre (P ++ w :: Q) = S f e pre (P ++ u :: Q) + m * S f e pre (P ++ v :: Q)
  | [], pre => by
    simp only [List.nil_append, S]
    rw [he, S_col_pre hf pre Q []]
    grind
  | c :: P, pre => by
    simp only [List.cons_append, S]
    rw [S_col hf he hff Q P]
    have := hf (pre ++ P) Q
    simp only [List.append_assoc] at this
    rw [this]
    grind
theorem det_col {e : R → C → Int} {w u v : C} {m : Int} : ∀ (I : List R), (∀ r ∈ I, e r w = e r u + m * e r v) → ∀ (P Q : List C),
    det e I (P ++ w :: Q) = det e I (P ++ u :: Q) + m * det e I (P ++ v :: Q)
  | [], _, P, Q => by cases P <;> simp [det]
  | r :: I, h, P, Q => by
    simp only [det]
    exact S_col (fun P Q => det_col I (fun x hx => h x (List.mem_cons_of_mem _ hx)) P Q) (h r (List.mem_cons_self ..)) (fun _ _ => rfl) Q P []
theorem det_col_zero {e : R → C → Int} {w : C} {I : List R} (h : ∀ r ∈ I, e r w = 0) (P Q : List C) : det e I (P ++ w :: Q) = 0 := by
  have := det_col (e := e) (w := w) (u := w) (v := w) (m := -1) I (fun r hr => by rw [h r hr]; rfl) P Q
  (first | lia | omega)
theorem det_row_zero {e : R → C → Int} {w : R} : ∀ {I : List R}, w ∈ I → ∀ {J : List C}, (∀ c ∈ J, e w c = 0) → det e I J = 0 := by
  intro I hw J hJ
  obtain ⟨P, Q, rfl⟩ := List.append_of_mem hw
  clear hw
  induction P generalizing J with
  | nil => simp only [List.nil_append, det]; exact S_zero_e J [] hJ
  | cons r P ih =>
    simp only [List.cons_append, det]
    have key : ∀ post pre, (∀ c ∈ pre ++ post, e w c = 0) → S (det e (P ++ w :: Q)) (e r) pre post = 0 := by
      intro post
      induction post with
      | nil => intros; simp [S]
      | cons c post ihp =>
        intro pre hc
        simp only [S]
        rw [ih (J := pre ++ post) (fun x hx => hc x (by simp at hx ⊢; rcases hx with z | z <;> simp [z])), ihp _ (fun x hx => hc x (by simp at hx ⊢; rcases hx with z | z | z <;> simp [z]))]
        simp
    exact key J [] (by simpa using hJ)
theorem S_map {D : Type} {f : List C → Int} {e : C → Int} (p : D → C) : ∀ post pre, S f e (pre.map p) (post.map p) = S (fun l => f (l.map p)) (fun d => e (p d)) pre post
  | [], pre => by simp [S]
  | c :: post, pre => by
    simp only [List.map_cons, S, List.map_append]
    have := S_map (f := f) (e := e) p post (pre ++ [c])
    simp only [List.map_append, List.map_cons, List.map_nil] at this
    rw [this]
theorem det_map {R' C' : Type} (e : R → C → Int) (p : R' → R) (q : C' → C) : ∀ I J, det e (I.map p) (J.map q) = det (fun i j => e (p i) (q j)) I J
  | [], J => by cases J <;> simp [det]
  | r :: I, J => by
    simp only [List.map_cons, det]
    have := S_map (f := det e (I.map p)) (e := e (p r)) q J []
    simp only [List.map_nil] at this
    rw [this]
    congr 1
    funext l
    exact det_map e p q I l
def W (f : List C → Int) (e : C → Int) : List C → List C → List C → Int
  | _, [], _ => 0
  | A, c :: B, D => e c * f (A ++ B ++ D) - W f e (A ++ [c]) B D
def sg : Nat → Int
  | 0 => 1
  | n + 1 => - sg n
theorem S_W (f : List C → Int) (e : C → Int) : ∀ post pre, S f e pre post = W f e pre post []
  | [], _ => by simp [S, W]
  | c :: post, pre => by simp only [S, W, List.append_nil]; rw [S_W f e post]
theorem W_app (f : List C → Int) (e : C → Int) : ∀ B A D E, W f e A (B ++ D) E = W f e A B (D ++ E) + sg B.length * W f e (A ++ B) D E
  | [], A, D, E => by simp [W, sg]
  | c :: B, A, D, E => by
    simp only [List.cons_append, W, List.length_cons, sg]
    rw [W_app f e B (A ++ [c]) D E]
    simp only [List.append_assoc, List.cons_append, List.nil_append]
    grind
def X (f : List C → Int) (e : C → Int) : List C → List C → List C → Int
  | _, _, [] => 0
  | pre, don, c :: post => e c * W f e [] pre (don ++ post) - X f e pre (don ++ [c]) post
theorem X_step (f : List C → Int) (e : C → Int) (c : C) (pre : List C) :
    ∀ post don, X f e (pre ++ [c]) don post = X f e pre (c :: don) post + sg pre.length * (e c * W f e (pre ++ don) post [])
  | [], don => by simp [X, W]
  | d :: post, don => by
    simp only [X, W]
    rw [X_step f e c pre post (don ++ [d]), W_app]
    simp only [W, List.nil_append, List.append_assoc, List.cons_append, List.append_nil]
    grind
theorem Q_X (f : List C → Int) (e : C → Int) : ∀ post pre, S (S f e []) e pre post = X f e pre [] post
  | [], pre => by simp [S, X]
  | c :: post, pre => by
    simp only [S, X]
    rw [Q_X f e post, X_step, S_W, W_app]
    simp only [List.nil_append, List.append_nil]
    grind
theorem X_nil (f : List C → Int) (e : C → Int) : ∀ post don, X f e [] don post = 0
  | [], _ => by simp [X]
  | c :: post, don => by simp only [X, W]; rw [X_nil f e post]; simp
theorem det_row_two {e : R → C → Int} (r : R) (I : List R) (J : List C) : det e (r :: r :: I) J = 0 := by
  have : det e (r :: r :: I) J = S (S (det e I) (e r) []) (e r) [] J := by simp only [det]
  rw [this, Q_X, X_nil]
end
section
variable {C : Type}
def ap (r : C → Int) (c : C) : Int := r c
theorem det_ap {R : Type} (e : R → C → Int) (I : List R) (J : List C) : det e I J = det ap (I.map e) J := by
  have := det_map (ap (C := C)) e (id : C → C) I J
  simp only [List.map_id] at this
  rw [this]; rfl
theorem row_swap (f g : C → Int) (I : List (C → Int)) (J : List C) : det ap (f :: g :: I) J = - det ap (g :: f :: I) J := by
  have hw : ∀ c, ap (fun c => f c + g c) c = ap f c + 1 * ap g c := fun c => by simp [ap]
  have h0 := det_row_two (e := ap) (fun c => f c + g c) I J
  have h1 := det_row (e := ap) hw ((fun c => f c + g c) :: I) [] J
  have h2 := det_row (e := ap) hw I [f] J
  have h3 := det_row (e := ap) hw I [g] J
  have h4 := det_row_two (e := ap) f I J
  have h5 := det_row_two (e := ap) g I J
  simp only [List.nil_append, List.cons_append] at h1 h2 h3
  (first | lia | omega)
theorem row_perm' {I I' : List (C → Int)} (h : I.Perm I') : ∃ s : Int, (s = 1 ∨ s = -1) ∧ ∀ J, det ap I' J = s * det ap I J := by
  induction h with
  | nil => exact ⟨1, Or.inl rfl, fun J => by simp⟩
  | cons x _ ih =>
    obtain ⟨s, hs, h⟩ := ih
    refine ⟨s, hs, fun J => ?_⟩
    simp only [det]
    exact S_scale_f h J []
  | swap x y l => exact ⟨-1, Or.inr rfl, fun J => by rw [row_swap]; (first | lia | omega)⟩
  | trans _ _ ih1 ih2 =>
    obtain ⟨s, hs, h⟩ := ih1
    obtain ⟨t, ht, h'⟩ := ih2
    refine ⟨t * s, ?_, fun J => by rw [h', h, Int.mul_assoc]⟩
    rcases hs with rfl | rfl <;> rcases ht with rfl | rfl <;> simp
theorem row_perm {R : Type} {e : R → C → Int} {I I' : List R} (h : I.Perm I') : ∃ s : Int, (s = 1 ∨ s = -1) ∧ ∀ J, det e I' J = s * det e I J := by
  obtain ⟨s, hs, h⟩ := row_perm' (h.map e)
  exact ⟨s, hs, fun J => by rw [det_ap, h, ← det_ap]⟩
theorem row_dup {R : Type} [DecidableEq R] {e : R → C → Int} : ∀ {I : List R}, ¬ I.Nodup → ∀ J, det e I J = 0
  | [], h, J => absurd List.nodup_nil h
  | x :: I, h, J => by
    by_cases hx : x ∈ I
    · obtain ⟨s, _, hp⟩ := row_perm (e := e) ((List.perm_cons_erase hx).symm.cons x)
      have := hp J
      rw [det_row_two] at this
      have h2 : ∃ s : Int, (s = 1 ∨ s = -1) ∧ ∀ J, det e (x :: I) J = s * det e (x :: x :: I.erase x) J := row_perm ((List.perm_cons_erase hx).symm.cons x)
      obtain ⟨s, _, h2⟩ := h2
      rw [h2, det_row_two]; simp
    · simp only [det]
      exact S_zero_f (fun l => row_dup (fun hn => h (List.nodup_cons.mpr ⟨hx, hn⟩)) l) J []
end
section
variable {R : Type}
def pa (r : R) (c : R → Int) : Int := c r
end
theorem rows_go {R C : Type} {e : R → C → Int} {e' : R → C → Int} {g : Int} {J : List C} {k : Nat}
    (h : ∀ x, ∃ u v m, ∀ c, e' x c = e u c + m * e v c) (hg : ∀ I, I.length = k → g ∣ det e I J) : ∀ I, I.length = k → g ∣ det e' I J := by
  have key : ∀ (I2 I1 : List R), I1.length + I2.length = k → g ∣ det ap (I1.map e ++ I2.map e') J := by
    intro I2
    induction I2 with
    | nil => intro I1 hl; simp only [List.map_nil, List.append_nil]; rw [← det_ap]; exact hg I1 (by simpa using hl)
    | cons x I2 ih =>
      intro I1 hl
      obtain ⟨u, v, m, hc⟩ := h x
      simp only [List.map_cons]
      rw [det_row (e := ap) (w := e' x) (u := e u) (v := e v) hc]
      have h1 := ih (I1 ++ [u]) (by simp at hl ⊢; (first | lia | omega))
      have h2 := ih (I1 ++ [v]) (by simp at hl ⊢; (first | lia | omega))
      simp only [List.map_append, List.map_cons, List.map_nil, List.append_assoc, List.cons_append, List.nil_append] at h1 h2
      exact Int.dvd_add h1 (Int.dvd_mul_of_dvd_right h2)
  intro I hl
  rw [det_ap]
  simpa using key I [] (by simpa using hl)
section
variable {R C : Type}
theorem peel_low {e : R → C → Int} {i : R} {I : List R} {c : C} {J : List C} (h : ∀ d ∈ J, e i d = 0) : det e (i :: I) (c :: J) = e i c * det e I J := by
  simp only [det, S, List.nil_append]
  rw [S_zero_e J _ h]; simp
theorem peel_up {e : R → C → Int} {i : R} {I : List R} {c : C} {J : List C} (h : ∀ r ∈ I, e r c = 0) : det e (i :: I) (c :: J) = e i c * det e I J := by
  simp only [det, S, List.nil_append]
  have key : ∀ post pre, S (det e I) (e i) (c :: pre) post = 0 := by
    intro post
    induction post with
    | nil => intro; simp [S]
    | cons d post ih =>
      intro pre
      simp only [S, List.cons_append]
      have := det_col_zero (e := e) (I := I) h [] (pre ++ post)
      simp only [List.nil_append] at this
      rw [this, ih]; simp
  rw [key J []]; simp
def fac : Nat → Nat
  | 0 => 1
  | n + 1 => (n + 1) * fac n
theorem S_le {f : List C → Int} {e : C → Int} {B F n : Nat} (he : ∀ c, (e c).natAbs ≤ B) (hf : ∀ l, l.length = n → (f l).natAbs ≤ F) :
    ∀ post pre, pre.length + post.length = n + 1 → (S f e pre post).natAbs ≤ post.length * (B * F)
  | [], pre, _ => by simp [S]
  | c :: post, pre, h => by
    simp only [S, List.length_cons]
    have h1 := S_le he hf post (pre ++ [c]) (by simp at h ⊢; (first | lia | omega))
    have h2 : (e c * f (pre ++ post)).natAbs ≤ B * F := by
      rw [Int.natAbs_mul]; exact Nat.mul_le_mul (he c) (hf _ (by simp at h ⊢; (first | lia | omega)))
    have h3 : (post.length + 1) * (B * F) = post.length * (B * F) + B * F := Nat.succ_mul _ _
    (first | lia | omega)
theorem det_le {e : R → C → Int} {B : Nat} : ∀ (I : List R), (∀ r ∈ I, ∀ c, (e r c).natAbs ≤ B) → ∀ J : List C, J.length = I.length → (det e I J).natAbs ≤ fac I.length * B ^ I.length
  | [], _, J, hJ => by
    have : J = [] := List.length_eq_zero_iff.mp (by simpa using hJ)
    subst this; simp [det, fac]
  | r :: I, h, J, hJ => by
    simp only [det]
    have h1 := S_le (f := det e I) (e := e r) (F := fac I.length * B ^ I.length) (n := I.length) (h r (List.mem_cons_self ..)) (fun l hl => det_le I (fun x hx => h x (List.mem_cons_of_mem _ hx)) l hl) J [] (by simpa using hJ)
    have h2 : J.length * (B * (fac I.length * B ^ I.length)) = fac (r :: I).length * B ^ (r :: I).length := by
      rw [hJ]; simp only [List.length_cons, fac, Nat.pow_succ]; grind
    (first | lia | omega)
def pr (d : R → Int) : List R → Int
  | [] => 1
  | i :: I => d i * pr d I
theorem pr_perm {d : R → Int} {I I' : List R} (h : I.Perm I') : pr d I = pr d I' := by
  induction h with
  | nil => rfl
  | cons x _ ih => simp only [pr, ih]
  | swap x y l => simp only [pr]; grind
  | trans _ _ ih1 ih2 => rw [ih1, ih2]
theorem pr_zero {d : R → Int} {I : List R} : pr d I = 0 ↔ ∃ i ∈ I, d i = 0 := by
  induction I with
  | nil => simp [pr]
  | cons x I ih => simp only [pr, Int.mul_eq_zero, ih]; simp
end
theorem pigeon : ∀ (n : Nat) {I : List Nat}, I.Nodup → (∀ x ∈ I, x < n) → I.length ≤ n
  | 0, I, _, h => by
    cases I with
    | nil => simp
    | cons x I => exact absurd (h x (List.mem_cons_self ..)) (by (first | lia | omega))
  | n + 1, I, hn, h => by
    by_cases hx : n ∈ I
    · have h1 := List.length_erase_of_mem hx
      have h2 := pigeon n (hn.erase n) (fun x hx' => by
        have h3 := h x (List.mem_of_mem_erase hx')
        have h4 : x ≠ n := fun e => by subst e; exact hn.not_mem_erase hx'
        (first | lia | omega))
      (first | lia | omega)
    · have := pigeon n hn (fun x hx' => by
        have h3 := h x hx'
        have h4 : x ≠ n := fun e => hx (e ▸ hx')
        (first | lia | omega))
      (first | lia | omega)
theorem perm_range : ∀ (n : Nat) {I : List Nat}, I.Nodup → (∀ x ∈ I, x < n) → I.length = n → I.Perm (List.range n)
  | 0, I, _, _, hl => by
    have : I = [] := List.length_eq_zero_iff.mp hl
    subst this; exact List.Perm.refl _
  | n + 1, I, hn, h, hl => by
    by_cases hx : n ∈ I
    · have h1 := List.length_erase_of_mem hx
      have h2 := perm_range n (hn.erase n) (fun x hx' => by
        have h3 := h x (List.mem_of_mem_erase hx')
        have h4 : x ≠ n := fun e => by subst e; exact hn.not_mem_erase hx'
        (first | lia | omega)) (by (first | lia | omega))
      rw [List.range_succ]
      refine (List.perm_cons_erase hx).trans ?_
      refine (h2.cons n).trans ?_
      exact (List.perm_append_singleton n (List.range n)).symm
    · have := pigeon n hn (fun x hx' => by
        have h3 := h x hx'
        have h4 : x ≠ n := fun e => hx (e ▸ hx')
        (first | lia | omega))
      (first | lia | omega)
theorem low_det {e : Nat → Nat → Int} : ∀ (n k : Nat), (∀ i j, k ≤ i → i < j → j < k + n → e i j = 0) → det e (List.range' k n) (List.range' k n) = pr (fun i => e i i) (List.range' k n)
  | 0, k, _ => by simp [det, pr]
  | n + 1, k, h => by
    simp only [List.range'_succ, pr]
    rw [peel_low (fun d hd => by
      have := List.mem_range'_1.mp hd
      exact h k d (by (first | lia | omega)) (by (first | lia | omega)) (by (first | lia | omega)))]
    rw [low_det n (k + 1) (fun i j h1 h2 h3 => h i j (by (first | lia | omega)) h2 (by (first | lia | omega)))]
theorem diag_det {e : Nat → Nat → Int} {d : Nat → Int} (he : ∀ i j, e i j = if i = j then d i else 0) (k : Nat) : det e (List.range k) (List.range k) = pr d (List.range k) := by
  rw [List.range_eq_range', low_det k 0 (fun i j _ h _ => by rw [he, if_neg (by (first | lia | omega))])]
  congr 1
  funext i; rw [he]; simp
end Dt

namespace E1
def downs (top : Nat) : Nat → List RC
  | 0 => []
  | k + 1 => .swap (top + k + 1) (top + k) :: downs top k
theorem downs_app (top : Nat) : ∀ (k : Nat) (e : Tab) (x y : Nat), rapps (downs top k) e x y = e (if x < top then x else if x = top then top + k else if x ≤ top + k then x - 1 else x) y
  | 0, e, x, y => by
    simp only [downs, rapps_nil, Nat.add_zero]
    congr 1
    split
    · rfl
    · split
      · assumption
      · rw [if_neg (by (first | lia | omega))]
  | k + 1, e, x, y => by
    simp only [downs, rapps_cons]
    rw [downs_app top k]
    simp only [RC.app, swapR, sw]
    congr 1
    by_cases h1 : x < top
    · simp only [if_pos h1]; rw [if_neg (by (first | lia | omega)), if_neg (by (first | lia | omega))]
    · simp only [if_neg h1]
      by_cases h2 : x = top
      · simp only [if_pos h2]; rw [if_neg (by (first | lia | omega)), if_pos trivial]; (first | lia | omega)
      · simp only [if_neg h2]
        by_cases h3 : x ≤ top + k
        · simp only [if_pos h3]; rw [if_neg (by (first | lia | omega)), if_neg (by (first | lia | omega)), if_pos (by (first | lia | omega))]
        · simp only [if_neg h3]
          by_cases h4 : x = top + k + 1
          · rw [if_pos h4, if_pos (by (first | lia | omega))]; (first | lia | omega)
          · rw [if_neg h4, if_neg (by (first | lia | omega)), if_neg (by (first | lia | omega))]
def liftL (low top m : Nat) : List RC := (if low = m then [] else [.swap low m]) ++ downs top (m - top)
theorem lift_app {low top m : Nat} (h1 : top ≤ m) (h2 : m ≤ low) (e : Tab) (x y : Nat) :
    rapps (liftL low top m) e x y = e (if x < top then x else if x = top then low else if x ≤ m then x - 1 else if x = low then m else x) y := by
  unfold liftL
  rw [rapps_app, downs_app]
  by_cases hl : low = m
  · subst hl
    simp only [if_pos, rapps_nil]
    have : top + (low - top) = low := by (first | lia | omega)
    rw [this]
    congr 1
    by_cases h3 : x < top
    · simp only [if_pos h3]
    · simp only [if_neg h3]
      by_cases h4 : x = top
      · simp only [if_pos h4]
      · simp only [if_neg h4]
        by_cases h5 : x ≤ low
        · simp only [if_pos h5]
        · simp only [if_neg h5]; rw [if_neg (by (first | lia | omega))]
  · simp only [if_neg hl, rapps_cons, rapps_nil, RC.app, swapR, sw]
    have : top + (m - top) = m := by (first | lia | omega)
    rw [this]
    congr 1
    by_cases h3 : x < top
    · simp only [if_pos h3]; rw [if_neg (by (first | lia | omega)), if_neg (by (first | lia | omega))]
    · simp only [if_neg h3]
      by_cases h4 : x = top
      · simp only [if_pos h4]; rw [if_neg (by (first | lia | omega)), if_pos trivial]
      · simp only [if_neg h4]
        by_cases h5 : x ≤ m
        · simp only [if_pos h5]; rw [if_neg (by (first | lia | omega)), if_neg (by (first | lia | omega))]
        · simp only [if_neg h5]
          by_cases h6 : x = low
          · simp only [if_pos h6]
          · simp only [if_neg h6]; rw [if_neg (by (first | lia | omega))]
theorem downs_ok {top : Nat} : ∀ {k n : Nat}, top + k < n → ∀ c ∈ downs top k, c.ok n
  | 0, n, _, c, hc => absurd hc (by simp [downs])
  | k + 1, n, h, c, hc => by
    simp only [downs, List.mem_cons] at hc
    rcases hc with z | z
    · subst z; exact ⟨by (first | lia | omega), by (first | lia | omega), by (first | lia | omega)⟩
    · exact downs_ok (by (first | lia | omega)) c z
theorem downs_len (top : Nat) : ∀ k, (downs top k).length = k
  | 0 => rfl
  | k + 1 => by simp [downs, downs_len top k]
theorem lift_ok {low top m : Nat} (h1 : top ≤ m) (h2 : m ≤ low) : ∀ c ∈ liftL low top m, c.ok (low + 1) := by
  intro c hc
  unfold liftL at hc
  rcases List.mem_append.mp hc with z | z
  · split at z
    · simp at z
    · simp at z; subst z; exact ⟨by (first | lia | omega), by (first | lia | omega), by assumption⟩
  · exact downs_ok (by (first | lia | omega)) c z
theorem lift_len (low top m : Nat) : (liftL low top m).length ≤ m + 1 := by
  unfold liftL
  rw [List.length_append, downs_len]
  split <;> simp <;> (first | lia | omega)
theorem Le.app_swap {c : Nat} {e e' : Tab} (h : Le c e) (f : Nat → Nat) (he : ∀ x y, e' x y = e (f x) y) : Le c e' := fun x y => by rw [he]; exact h _ _
def ins (st : List Nat) (top place : Nat) : List Nat := st.take top ++ place :: st.drop top
theorem ins_len {st : List Nat} {top place : Nat} (h : top ≤ st.length) : (ins st top place).length = st.length + 1 := by
  unfold ins; simp; (first | lia | omega)
theorem ins_sat {st : List Nat} {top place : Nat} (h : top ≤ st.length) (i : Nat) : sat (ins st top place) i = if i < top then sat st i else if i = top then place else sat st (i - 1) := by
  unfold sat ins
  simp only [List.getD_eq_getElem?_getD]
  by_cases h1 : i < top
  · rw [if_pos h1, List.getElem?_append_left (by simp; (first | lia | omega)), List.getElem?_take_of_lt h1]
  · rw [if_neg h1, List.getElem?_append_right (by simp; (first | lia | omega))]
    have : (st.take top).length = top := by simp; (first | lia | omega)
    rw [this]
    by_cases h2 : i = top
    · rw [if_pos h2, h2]; simp
    · rw [if_neg h2]
      obtain ⟨d, hd⟩ : ∃ d, i = top + d + 1 := ⟨i - top - 1, by (first | lia | omega)⟩
      subst hd
      have : top + d + 1 - top = d + 1 := by (first | lia | omega)
      rw [this, List.getElem?_cons_succ, List.getElem?_drop]
      have : top + d + 1 - 1 = top + d := by (first | lia | omega)
      rw [this]
theorem lift_stairs {e e' : Tab} {st : List Nat} {w low top : Nat} (hs : Stairs e st w low) (ht : top ≤ st.length)
    (hz : ∀ i, i < top → ∀ y, y ≤ sat st i → e low y = 0) (hf : top < st.length → fp (e low) 0 w < sat st top) (hp : fp (e low) 0 w < w)
    (he : e' = rapps (liftL low top st.length) e) : Stairs e' (ins st top (fp (e low) 0 w)) w (low + 1) := by
  have ha : ∀ x y, e' x y = e (if x < top then x else if x = top then low else if x ≤ st.length then x - 1 else if x = low then st.length else x) y := fun x y => by
    rw [he]; exact lift_app ht hs.len e x y
  have hnz := fp_nz (e low) w 0 (by (first | lia | omega))
  have hfz : ∀ y, y < fp (e low) 0 w → e low y = 0 := fun y hy => fp_zero (e low) w 0 y (by (first | lia | omega)) hy
  have hgt : ∀ i, i < top → sat st i < fp (e low) 0 w := fun i hi => fp_gt (hs.lt i (by (first | lia | omega))) (fun z hzz => hz i hi z hzz)
  have hlen := hs.len
  refine ⟨by rw [ins_len ht]; (first | lia | omega), ?_, ?_, ?_, ?_, ?_⟩
  · intro i hi
    rw [ins_len ht] at hi
    rw [ins_sat ht]
    by_cases h1 : i < top
    · rw [if_pos h1]; exact hs.lt i (by (first | lia | omega))
    · rw [if_neg h1]
      by_cases h2 : i = top
      · rw [if_pos h2]; exact hp
      · rw [if_neg h2]; exact hs.lt _ (by (first | lia | omega))
  · intro i j hij hj
    rw [ins_len ht] at hj
    rw [ins_sat ht, ins_sat ht]
    by_cases h1 : j < top
    · rw [if_pos h1, if_pos (by (first | lia | omega))]; exact hs.mono i j hij (by (first | lia | omega))
    · rw [if_neg h1]
      by_cases h2 : j = top
      · rw [if_pos h2, if_pos (by (first | lia | omega))]; exact hgt i (by (first | lia | omega))
      · rw [if_neg h2]
        by_cases h3 : i < top
        · rw [if_pos h3]; exact hs.mono i (j - 1) (by (first | lia | omega)) (by (first | lia | omega))
        · rw [if_neg h3]
          by_cases h4 : i = top
          · rw [if_pos h4]
            have h5 := hf (by (first | lia | omega))
            rcases Nat.lt_or_ge top (j - 1) with z | z
            · have := hs.mono top (j - 1) z (by (first | lia | omega)); (first | lia | omega)
            · have : j - 1 = top := by (first | lia | omega)
              rw [this]; exact h5
          · rw [if_neg h4]; exact hs.mono _ _ (by (first | lia | omega)) (by (first | lia | omega))
  · intro i hi
    rw [ins_len ht] at hi
    rw [ins_sat ht, ha]
    by_cases h1 : i < top
    · simp only [if_pos h1]; exact hs.nz i (by (first | lia | omega))
    · simp only [if_neg h1]
      by_cases h2 : i = top
      · simp only [if_pos h2]; exact hnz
      · simp only [if_neg h2]; rw [if_pos (by (first | lia | omega))]; exact hs.nz _ (by (first | lia | omega))
  · intro i hi y hy
    rw [ins_len ht] at hi
    rw [ins_sat ht] at hy
    rw [ha]
    by_cases h1 : i < top
    · simp only [if_pos h1] at hy ⊢; exact hs.zl i (by (first | lia | omega)) y hy
    · simp only [if_neg h1] at hy ⊢
      by_cases h2 : i = top
      · simp only [if_pos h2] at hy ⊢; exact hfz y hy
      · simp only [if_neg h2] at hy ⊢; rw [if_pos (by (first | lia | omega))]; exact hs.zl _ (by (first | lia | omega)) y hy
  · intro x h1 h2 y
    rw [ins_len ht] at h1
    rw [ha, if_neg (by (first | lia | omega)), if_neg (by (first | lia | omega)), if_neg (by (first | lia | omega))]
    by_cases h3 : x = low
    · rw [if_pos h3]; exact hs.zr _ (Nat.le_refl _) (by (first | lia | omega)) y
    · rw [if_neg h3]; exact hs.zr x (by (first | lia | omega)) (by (first | lia | omega)) y
def Red (cap : Nat) (st : List Nat) : Nat → Tab → List RC → Tab → Prop
  | 0, e, L, e' => Le cap e ∧ L = [] ∧ e' = e
  | k + 1, e, L, e' => ∃ L1 e1 L2, LRow cap st k (k + 1) (st.length - (k + 1)) e L1 e1 ∧ Red cap st k e1 L2 e' ∧ L = L1 ++ L2
def so (m : Nat) : Nat → Nat
  | 0 => 0
  | k + 1 => (m - (k + 1)) + so m k
open Dt
def cut (n : Nat) (e : Tab) : Tab := fun x y => if x < n then e x y else 0
def Cmb (e e' : Tab) : Prop := ∀ x, ∃ u v m, ∀ c, e' x c = e u c + m * e v c
theorem cmb_app {n : Nat} {c : RC} (h : c.ok n) (e : Tab) : Cmb (cut n e) (cut n (c.app e)) ∧ Cmb (cut n (c.app e)) (cut n e) := by
  cases c with
  | add i j q =>
    obtain ⟨hi, hj, hij⟩ := h
    refine ⟨fun x => ?_, fun x => ?_⟩
    · by_cases hx : x = i
      · subst hx; exact ⟨x, j, q, fun c => by simp [cut, RC.app, addR, hi, hj]⟩
      · exact ⟨x, x, 0, fun c => by simp [cut, RC.app, addR, hx]⟩
    · by_cases hx : x = i
      · subst hx; exact ⟨x, j, -q, fun c => by simp [cut, RC.app, addR, hi, hj, Ne.symm hij]; grind⟩
      · exact ⟨x, x, 0, fun c => by simp [cut, RC.app, addR, hx]⟩
  | swap i j =>
    obtain ⟨hi, hj, hij⟩ := h
    have hs : ∀ x, sw i j x < n ↔ x < n := fun x => by
      unfold sw; split
      · (first | lia | omega)
      · split <;> (first | lia | omega)
    have hss : ∀ x, sw i j (sw i j x) = x := fun x => by
      unfold sw
      by_cases h1 : x = i
      · simp only [if_pos h1]; rw [if_neg (Ne.symm hij), if_pos trivial]; exact h1.symm
      · by_cases h2 : x = j
        · simp only [if_neg h1, if_pos h2, if_pos]; exact h2.symm
        · simp only [if_neg h1, if_neg h2]
    refine ⟨fun x => ⟨sw i j x, x, 0, fun c => ?_⟩, fun x => ⟨sw i j x, x, 0, fun c => ?_⟩⟩
    · simp only [cut, RC.app, swapR, hs]; (first | lia | omega)
    · simp only [cut, RC.app, swapR, hs, hss]; (first | lia | omega)
  | turn i =>
    have hi : i < n := h
    refine ⟨fun x => ?_, fun x => ?_⟩
    · by_cases hx : x = i
      · subst hx; exact ⟨x, x, -2, fun c => by simp [cut, RC.app, turnR, hi]; (first | lia | omega)⟩
      · exact ⟨x, x, 0, fun c => by simp [cut, RC.app, turnR, hx]⟩
    · by_cases hx : x = i
      · subst hx; exact ⟨x, x, -2, fun c => by simp [cut, RC.app, turnR, hi]; (first | lia | omega)⟩
      · exact ⟨x, x, 0, fun c => by simp [cut, RC.app, turnR, hx]⟩
theorem go_rows {n k : Nat} {g : Int} {J : List Nat} : ∀ (L : List RC) (e : Tab), (∀ c ∈ L, c.ok n) →
    ((∀ I : List Nat, I.length = k → g ∣ det (cut n e) I J) ↔ (∀ I : List Nat, I.length = k → g ∣ det (cut n (rapps L e)) I J))
  | [], e, _ => Iff.rfl
  | c :: L, e, h => by
    rw [rapps_cons, ← go_rows L (c.app e) (fun x hx => h x (List.mem_cons_of_mem _ hx))]
    obtain ⟨h1, h2⟩ := cmb_app (h c (List.mem_cons_self ..)) e
    exact ⟨fun hg => rows_go h1 hg, fun hg => rows_go h2 hg⟩
theorem S_le2 {C : Type} {f : List C → Int} {e : C → Int} {B F n : Nat} (hf : ∀ l, l.length = n → (f l).natAbs ≤ F) :
    ∀ post pre, (∀ c ∈ post, (e c).natAbs ≤ B) → pre.length + post.length = n + 1 → (S f e pre post).natAbs ≤ post.length * (B * F)
  | [], pre, _, _ => by simp [S]
  | c :: post, pre, he, h => by
    simp only [S, List.length_cons]
    have h1 := S_le2 hf post (pre ++ [c]) (fun x hx => he x (List.mem_cons_of_mem _ hx)) (by simp at h ⊢; (first | lia | omega))
    have h2 : (e c * f (pre ++ post)).natAbs ≤ B * F := by
      rw [Int.natAbs_mul]; exact Nat.mul_le_mul (he c (List.mem_cons_self ..)) (hf _ (by simp at h ⊢; (first | lia | omega)))
    have h3 : (post.length + 1) * (B * F) = post.length * (B * F) + B * F := Nat.succ_mul _ _
    (first | lia | omega)
theorem peel_steps {e : Tab} {s : Nat → Nat} {k m : Nat} (J : List Nat) : ∀ (b a : Nat), a + b + k = m → (∀ i j, i < j → j < m → e j (s i) = 0) →
    det e (List.range' a (b + k)) ((List.range' a b).map s ++ J) = pr (fun i => e i (s i)) (List.range' a b) * det e (List.range' (a + b) k) J
  | 0, a, _, _ => by simp [pr]
  | b + 1, a, hm, h => by
    have : b + 1 + k = (b + k) + 1 := by (first | lia | omega)
    rw [this, List.range'_succ, List.range'_succ]
    simp only [List.map_cons, List.cons_append, pr]
    rw [peel_up (fun r hr => by
      have := List.mem_range'_1.mp hr
      exact h a r (by (first | lia | omega)) (by (first | lia | omega))), peel_steps J b (a + 1) (by (first | lia | omega)) h]
    have : a + 1 + b = a + (b + 1) := by (first | lia | omega)
    rw [this]; grind
theorem reset {n w B : Nat} {st : List Nat} {e0 e : Tab} {L : List RC} (hL : ∀ c ∈ L, c.ok n) (hB : ∀ x, x < n → ∀ y, (e0 x y).natAbs ≤ B) (he : rapps L e0 = e)
    (hs : Stairs e st w n) (hred : ∀ i t, i < t → t < st.length → 2 * (e i (sat st t)).natAbs ≤ (e t (sat st t)).natAbs) :
    ∀ x, x < n → ∀ y, (e x y).natAbs ≤ st.length * (fac st.length * B ^ st.length) := by
  let m := st.length
  let D := fac m * B ^ m
  have hmn : m ≤ n := hs.len
  have hcut : ∀ x y, x < n → cut n e x y = e x y := fun x y h => by simp [cut, h]
  have c1 : ∀ J : List Nat, J.length = m → (det (cut n e) (List.range m) J).natAbs ≤ D := by
    intro J hJ
    have hg : ∀ I : List Nat, I.length = m → det (cut n e) (List.range m) J ∣ det (cut n e) I J := by
      intro I hI
      by_cases h1 : I.Nodup
      · by_cases h2 : ∀ x ∈ I, x < m
        · obtain ⟨s, _, hp⟩ := row_perm (e := cut n e) (perm_range m h1 h2 hI).symm
          rw [hp]; exact Int.dvd_mul_left _ _
        · have : ∃ x ∈ I, m ≤ x := by
            apply Classical.byContradiction
            intro hc'
            exact h2 (fun x hx => by
              apply Classical.byContradiction
              intro hlt
              exact hc' ⟨x, hx, by (first | lia | omega)⟩)
          obtain ⟨x, hx, hxr⟩ := this
          rw [det_row_zero hx (fun c _ => by
            unfold cut; split
            · exact hs.zr x hxr (by assumption) c
            · rfl)]
          exact Int.dvd_zero _
      · rw [row_dup h1]; exact Int.dvd_zero _
    rw [← he] at hg
    have hg0 := (go_rows L e0 hL).mpr hg
    rw [he] at hg0
    by_cases hz : ∀ I : List Nat, I.length = m → det (cut n e0) I J = 0
    · have := (go_rows (g := 0) (J := J) (k := m) L e0 hL).mp (fun I hI => by rw [hz I hI]; exact Int.dvd_refl _) (List.range m) (by simp)
      rw [he] at this
      rw [Int.zero_dvd.mp this]; simp
    · have : ∃ I : List Nat, I.length = m ∧ det (cut n e0) I J ≠ 0 := by
        apply Classical.byContradiction
        intro hc'
        exact hz (fun I hI => by
          apply Classical.byContradiction
          intro hne
          exact hc' ⟨I, hI, hne⟩)
      obtain ⟨I, hI, hne⟩ := this
      have h1 := Nat.le_of_dvd (by (first | lia | omega)) (Int.natAbs_dvd_natAbs.mpr (hg0 I hI))
      have h2 := det_le (e := cut n e0) (B := B) I (fun r _ c => by
        unfold cut; split
        · exact hB r (by assumption) c
        · simp) J (by (first | lia | omega))
      rw [hI] at h2
      exact Nat.le_trans h1 h2
  have hz : ∀ i j, i < j → j < m → cut n e j (sat st i) = 0 := fun i j h1 h2 => by
    rw [hcut j _ (by (first | lia | omega))]; exact hs.zl j h2 _ (hs.mono i j h1 h2)
  have hpnz : ∀ a b, a + b ≤ m → pr (fun i => cut n e i (sat st i)) (List.range' a b) ≠ 0 := by
    intro a b hab h
    obtain ⟨i, hi, h0⟩ := pr_zero.mp h
    have := List.mem_range'_1.mp hi
    rw [hcut i _ (by (first | lia | omega))] at h0
    exact hs.nz i (show i < m by (first | lia | omega)) h0
  have c2 : ∀ (i k : Nat), i + k = m → ∀ J : List Nat, J.length = k → (det (cut n e) (List.range' i k) J).natAbs ≤ D := by
    intro i k hik J hJ
    have h1 := peel_steps (e := cut n e) (s := sat st) (k := k) (m := m) J i 0 (by (first | lia | omega)) hz
    have h2 := c1 ((List.range' 0 i).map (sat st) ++ J) (by simp; (first | lia | omega))
    rw [List.range_eq_range', ← hik, h1, Int.natAbs_mul, Nat.zero_add] at h2
    have h3 : 1 * (det (cut n e) (List.range' i k) J).natAbs ≤ (pr (fun i => cut n e i (sat st i)) (List.range' 0 i)).natAbs * (det (cut n e) (List.range' i k) J).natAbs :=
      Nat.mul_le_mul_right _ (by have := hpnz 0 i (by (first | lia | omega)); (first | lia | omega))
    (first | lia | omega)
  intro x hx y
  by_cases hxm : x < m
  · obtain ⟨k, hk⟩ : ∃ k, m = x + k + 1 := ⟨m - x - 1, by (first | lia | omega)⟩
    have h1 := c2 x (k + 1) (by (first | lia | omega)) (y :: (List.range' (x + 1) k).map (sat st)) (by simp)
    have h2 := peel_steps (e := cut n e) (s := sat st) (k := 0) (m := m) [] k (x + 1) (by (first | lia | omega)) hz
    simp only [List.append_nil, List.range'_zero, det, Int.mul_one, Nat.add_zero] at h2
    have hP := hpnz (x + 1) k (by (first | lia | omega))
    rw [List.range'_succ] at h1
    simp only [det, S, List.nil_append] at h1
    rw [h2, hcut x y hx] at h1
    generalize hPd : pr (fun i => cut n e i (sat st i)) (List.range' (x + 1) k) = P at h1 h2 hP
    have h3 := S_le2 (e := cut n e x) (f := det (cut n e) (List.range' (x + 1) k)) (B := P.natAbs) (F := D) (n := k) (fun l hl => c2 (x + 1) k (by (first | lia | omega)) l hl) ((List.range' (x + 1) k).map (sat st)) [y]
      (fun c hc => by
        obtain ⟨t, ht, rfl⟩ := List.mem_map.mp hc
        have ht' := List.mem_range'_1.mp ht
        have hr := hred x t (by (first | lia | omega)) (show t < m by (first | lia | omega))
        rw [hcut x _ hx]
        have hdv : cut n e t (sat st t) ∣ P := by
          rw [← hPd]
          have : (List.range' (x + 1) k).Perm (t :: (List.range' (x + 1) k).erase t) := List.perm_cons_erase ht
          rw [pr_perm this]
          exact Int.dvd_mul_right _ _
        rw [hcut t _ (by (first | lia | omega))] at hdv
        have := Nat.le_of_dvd (by (first | lia | omega)) (Int.natAbs_dvd_natAbs.mpr hdv)
        (first | lia | omega)) (by simp; (first | lia | omega))
    rw [List.length_map, List.length_range'] at h3
    generalize S (det (cut n e) (List.range' (x + 1) k)) (cut n e x) [y] ((List.range' (x + 1) k).map (sat st)) = Z at h1 h3
    have h4 : (e x y).natAbs * P.natAbs ≤ D + k * (P.natAbs * D) := by
      rw [← Int.natAbs_mul]; (first | lia | omega)
    have h5 : D ≤ P.natAbs * D := by
      have : 1 * D ≤ P.natAbs * D := Nat.mul_le_mul_right _ (by (first | lia | omega))
      (first | lia | omega)
    have h6 : D + k * (P.natAbs * D) ≤ (m * D) * P.natAbs := by
      have : (m * D) * P.natAbs = x * (P.natAbs * D) + k * (P.natAbs * D) + P.natAbs * D := by rw [hk]; grind
      (first | lia | omega)
    exact Nat.le_of_mul_le_mul_right (Nat.le_trans h4 h6) (by (first | lia | omega))
  · rw [hs.zr x (by (first | lia | omega)) hx]; simp
end E1

namespace E1
open Dt
def Build (cap w : Nat) : Nat → Nat → List Nat → Tab → List RC → List Nat → Tab → Prop
  | 0, _, st, e, L, st', e' => Le cap e ∧ L = [] ∧ st' = st ∧ e' = e
  | k + 1, low, st, e, L, st', e' => ∃ L1 top e1 st1 L2 e2 L3 e3 L4, TakeR cap low w st 0 e L1 top e1 ∧ top ≤ st.length ∧ st.length ≤ low ∧
      ((fp (e1 low) 0 w < w ∧ st1 = ins st top (fp (e1 low) 0 w) ∧ L2 = liftL low top st.length ∧ e2 = rapps L2 e1) ∨
       (¬ fp (e1 low) 0 w < w ∧ st1 = st ∧ L2 = [] ∧ e2 = e1)) ∧
      Red cap st1 st1.length e2 L3 e3 ∧ Build cap w k (low + 1) st1 e3 L4 st' e' ∧ L = L1 ++ (L2 ++ (L3 ++ L4))
def Redd (e : Tab) (st : List Nat) : Prop := ∀ i t, i < t → t < st.length → 2 * (e i (sat st t)).natAbs ≤ (e t (sat st t)).natAbs
theorem RC.ok.mono {n m : Nat} {c : RC} (h : c.ok n) (hm : n ≤ m) : c.ok m := by
  cases c with
  | add i j q => exact ⟨Nat.lt_of_lt_of_le h.1 hm, Nat.lt_of_lt_of_le h.2.1 hm, h.2.2⟩
  | swap i j => exact ⟨Nat.lt_of_lt_of_le h.1 hm, Nat.lt_of_lt_of_le h.2.1 hm, h.2.2⟩
  | turn i => exact Nat.lt_of_lt_of_le h hm
structure Known (e0 : Tab) (w n c N : Nat) : Prop where
  row : ∀ x y, (e0 x y).natAbs ≤ 2 ^ c
  bd : ∀ low, low ≤ n → ∀ (L : List RC) (st : List Nat), (∀ x ∈ L, x.ok low) → Stairs (rapps L e0) st w low → Redd (rapps L e0) st → ∀ x, x < low → ∀ y, (rapps L e0 x y).natAbs ≤ 2 ^ c
  piv : ∀ low, low ≤ n → ∀ (L : List RC) (st : List Nat), (∀ x ∈ L, x.ok low) → Stairs (rapps L e0) st w low → Redd (rapps L e0) st → ∀ i, i < st.length → (rapps L e0 i (sat st i)).natAbs < 4 ^ N
def sumP (P : Nat → Nat) (low : Nat) : Nat → Nat
  | 0 => 0
  | k + 1 => P low + sumP P (low + 1) k
def Step (cap w low : Nat) (st : List Nat) (e : Tab) (L : List RC) (st1 : List Nat) (e3 : Tab) : Prop :=
  ∃ L1 top e1 L2 e2 L3, TakeR cap low w st 0 e L1 top e1 ∧ top ≤ st.length ∧ st.length ≤ low ∧
      ((fp (e1 low) 0 w < w ∧ st1 = ins st top (fp (e1 low) 0 w) ∧ L2 = liftL low top st.length ∧ e2 = rapps L2 e1) ∨
       (¬ fp (e1 low) 0 w < w ∧ st1 = st ∧ L2 = [] ∧ e2 = e1)) ∧
      Stairs e2 st1 w (low + 1) ∧
      Red cap st1 st1.length e2 L3 e3 ∧ L = L1 ++ (L2 ++ L3)
structure LowE (e : Tab) (s : Nat → Nat) (r : Nat) : Prop where
  mono : ∀ i j, i < j → j < r → s i < s j
  z : ∀ x j, j < r → x < s j → e x j = 0
  col : ∀ x j, r ≤ j → e x j = 0
  nz : ∀ j, j < r → e (s j) j ≠ 0
theorem pr_part_le {d : Nat → Int} {r i : Nat} (hi : i < r) (hnz : pr d (List.range r) ≠ 0) : (d i).natAbs ≤ (pr d (List.range r)).natAbs := by
  have hp : (List.range r).Perm (i :: (List.range r).erase i) := List.perm_cons_erase (List.mem_range.mpr hi)
  have hd : d i ∣ pr d (List.range r) := by rw [pr_perm hp]; exact Int.dvd_mul_right _ _
  exact Nat.le_of_dvd (by (first | lia | omega)) (Int.natAbs_dvd_natAbs.mpr hd)
end E1

namespace E1
open Dt
def RC.ge (k : Nat) : RC → Prop
  | .add i j _ => k ≤ i ∧ k ≤ j
  | .swap i j => k ≤ i ∧ k ≤ j
  | .turn i => k ≤ i
theorem RC.ge.mono {n m : Nat} {c : RC} (h : c.ge n) (hm : m ≤ n) : c.ge m := by
  cases c with
  | add i j q => exact ⟨Nat.le_trans hm h.1, Nat.le_trans hm h.2⟩
  | swap i j => exact ⟨Nat.le_trans hm h.1, Nat.le_trans hm h.2⟩
  | turn i => exact Nat.le_trans hm h
def Bare (k : Nat) (e : Tab) : Prop := ∀ i, i < k → ∀ j, j ≠ i → e i j = 0 ∧ e j i = 0
section
variable {cap : Nat} {st : List Nat} {row : Nat}
end
section
variable {cap low w : Nat} {st : List Nat}
end
def PK (k : Nat) (e0 e : Tab) : Prop := e k k ∣ e0 k k ∧ ((e k k).natAbs = (e0 k k).natAbs → ∀ y, e k y = e0 k y)
def BJ (k : Nat) (e0 e : Tab) : Prop := Bare k e ∧ (∀ i, i < k → ∀ y, e i y = e0 i y) ∧ PK k e0 e
end E1

namespace E1
open Dt
def tipT (e : Tab) : Tab := fun x y => e y x
structure Tri (e : Tab) (r D : Nat) : Prop where
  low : LowE e id r
  rz : ∀ x y, r ≤ x → e x y = 0
  le : ∀ x y, (e x y).natAbs ≤ D
  pr : (pr (fun i => e i i) (List.range r)).natAbs ≤ D
structure Room (n w c N K cap : Nat) (P : Nat → Nat) : Prop where
  fK : ∀ m m', m < n → m ≤ w → m' ≤ m + 1 → m' ≤ w → m * m + so m' m' ≤ K
  fcap : ups K c ≤ cap
  fP : ∀ low m m', low < n → m ≤ low → m ≤ w → m' ≤ m + 1 → m' ≤ w → m * (3 * N + 2 * m) + (m + 1) + so m' m' ≤ P low
def Both (cap h w : Nat) (e : Tab) (L1 L2 : List RC) (e' : Tab) : Prop :=
  ∃ st1 e1 st2 e2, Build cap w h 0 [] e L1 st1 e1 ∧ Build cap h w 0 [] (tipT e1) L2 st2 e2 ∧ e' = tipT e2
def app2 (c : Bool × RC) (e : Tab) : Tab := if c.1 then c.2.app e else tipT (c.2.app (tipT e))
def apps2 (L : List (Bool × RC)) (e : Tab) : Tab := L.foldl (fun e c => app2 c e) e
def ok2 (h w : Nat) (c : Bool × RC) : Prop := c.2.ok (if c.1 then h else w)
def beside (h w : Nat) (e : Tab) : Prop := ∃ x y, x < h ∧ y < w ∧ y ≠ x ∧ e x y ≠ 0
inductive Rounds (cap h w : Nat) : Tab → List (Bool × RC) → Tab → Prop
  | stop {e : Tab} : ¬ beside h w e → Rounds cap h w e [] e
  | turn {e e1 e' : Tab} {L1 L2 : List RC} {L : List (Bool × RC)} : beside h w e → Both cap h w e L1 L2 e1 → Rounds cap h w e1 L e' → Rounds cap h w e ((L1.map (Prod.mk true) ++ L2.map (Prod.mk false)) ++ L) e'
end E1

namespace E1
open Dt
structure Dg (e : Tab) (r D : Nat) : Prop where
  off : ∀ x y, x ≠ y → e x y = 0
  nz : ∀ i, i < r → e i i ≠ 0
  z : ∀ i, r ≤ i → e i i = 0
  pr : (pr (fun i => e i i) (List.range r)).natAbs ≤ D
theorem Dg.one {e : Tab} {r D : Nat} (h : Dg e r D) (hD : 0 < D) (x y : Nat) : (e x y).natAbs ≤ D := by
  by_cases hxy : x = y
  · subst hxy
    rcases Nat.lt_or_ge x r with z | z
    · refine Nat.le_trans (pr_part_le (d := fun i => e i i) z ?_) h.pr
      intro hz
      obtain ⟨i, hi, h0⟩ := pr_zero.mp hz
      exact h.nz i (List.mem_range.mp hi) h0
    · rw [h.z x z]; simp
  · rw [h.off x y hxy]; simp
theorem Dg.pos {e : Tab} {r D : Nat} (h : Dg e r D) : 0 < D := by
  have : Dt.pr (fun i => e i i) (List.range r) ≠ 0 := by
    intro hz
    obtain ⟨i, hi, h0⟩ := pr_zero.mp hz
    exact h.nz i (List.mem_range.mp hi) h0
  have := h.pr
  (first | lia | omega)
def LinkR (cap one two : Nat) (e : Tab) (L : List (Bool × RC)) (e' : Tab) : Prop :=
  Le cap e ∧ Le cap (addR e one two 1) ∧ ∃ L2 e2, MeetR cap one two one (tipT (addR e one two 1)) L2 e2 ∧ Le cap e2 ∧ e2 one one ≠ 0 ∧ e' = less (tipT e2) two one one ∧ Le cap e' ∧
    L = (true, .add one two 1) :: (L2.map (Prod.mk false) ++ (lch two one (lq (tipT e2) two one one)).map (Prod.mk true))
def ChainI (cap one : Nat) : Nat → Nat → Tab → List (Bool × RC) → Tab → Prop
  | 0, _, e, L, e' => Le cap e ∧ L = [] ∧ e' = e
  | k + 1, two, e, L, e' => Le cap e ∧ (e two two ≠ 0 → e one one ≠ 0) ∧
      ((e two two ≠ 0 ∧ ¬ e one one ∣ e two two ∧ ∃ L1 e1 L2, LinkR cap one two e L1 e1 ∧ ChainI cap one k (two + 1) e1 L2 e' ∧ L = L1 ++ L2) ∨
       (¬ (e two two ≠ 0 ∧ ¬ e one one ∣ e two two) ∧ ChainI cap one k (two + 1) e L e'))
def ChainO (cap len : Nat) : Nat → Nat → Tab → List (Bool × RC) → Tab → Prop
  | 0, _, e, L, e' => Le cap e ∧ L = [] ∧ e' = e
  | k + 1, one, e, L, e' => ∃ L1 e1 L2, ChainI cap one (len - (one + 1)) (one + 1) e L1 e1 ∧ ChainO cap len k (one + 1) e1 L2 e' ∧ L = L1 ++ L2
section
variable {r D cap c N h w len : Nat} (hDc : D ≤ 2 ^ c) (hDN : D < 4 ^ N) (hcap : ups 2 c ≤ cap) (hh : r ≤ h) (hw : r ≤ w)
include hDc hDN hcap hh hw
end
def Turns (cap : Nat) : Nat → Nat → Tab → List (Bool × RC) → Tab → Prop
  | 0, _, e, L, e' => Le cap e ∧ L = [] ∧ e' = e
  | k + 1, p, e, L, e' => Le cap e ∧ ((e p p < 0 ∧ ∃ L2, Turns cap k (p + 1) (turnR e p) L2 e' ∧ L = (true, .turn p) :: L2) ∨ (¬ e p p < 0 ∧ Turns cap k (p + 1) e L e'))
end E1

namespace E1
open Dt
def BroughtR (cap h w : Nat) (e : Tab) (L : List (Bool × RC)) (e' : Tab) : Prop :=
  ∃ L1 L2 e1 L3 e2 L4 e3 L5, Both cap h w e L1 L2 e1 ∧ Rounds cap h w e1 L3 e2 ∧ ChainO cap (min h w) (min h w) 0 e2 L4 e3 ∧ Turns cap (min h w) 0 e3 L5 e' ∧
    L = (L1.map (Prod.mk true) ++ L2.map (Prod.mk false)) ++ (L3 ++ (L4 ++ L5))
structure Fine (e : Tab) (h w : Nat) : Prop where
  off : ∀ x y, x ≠ y → e x y = 0
  out : ∀ i, min h w ≤ i → e i i = 0
  nn : ∀ i, 0 ≤ e i i
  go : ∀ i j, i ≤ j → e i i ∣ e j j
end E1

namespace E1
open Dt
def AllGo (g : Int) (k : Nat) (e : Tab) : Prop := ∀ I J : List Nat, I.length = k → J.length = k → g ∣ det e I J
theorem Fine.det {e : Tab} {h w : Nat} (hf : Fine e h w) (k : Nat) : det e (List.range k) (List.range k) = pr (fun i => e i i) (List.range k) :=
  diag_det (e := e) (d := fun i => e i i) (fun i j => by
    split
    · rename_i h; rw [h]
    · exact hf.off i j (by assumption)) k
end E1

namespace E1
open Dt
def qle (cap : Nat) : RC → Prop
  | .add _ _ q => q.natAbs ≤ 2 ^ cap
  | _ => True
def Along (cap : Nat) : List RC → Tab → Prop
  | [], e => Le cap e
  | c :: L, e => Le cap e ∧ qle cap c ∧ Along cap L (c.app e)
def Along2 (cap : Nat) : List (Bool × RC) → Tab → Prop
  | [], e => Le cap e
  | c :: L, e => Le cap e ∧ qle cap c.2 ∧ Along2 cap L (app2 c e)
def back1 : RC → RC
  | .add i j q => .add i j (-q)
  | c => c
def back2 (c : Bool × RC) : Bool × RC := (c.1, back1 c.2)
def backs2 (L : List (Bool × RC)) : List (Bool × RC) := (L.map back2).reverse
theorem back1_app {n : Nat} {c : RC} (h : c.ok n) (e : Tab) : (back1 c).app (c.app e) = e := by
  funext x y
  cases c with
  | add i j q =>
    obtain ⟨_, _, hij⟩ := h
    simp only [back1, RC.app, addR]
    by_cases hx : x = i
    · subst hx; rw [if_pos rfl, if_pos trivial, if_neg (Ne.symm hij)]; grind
    · rw [if_neg hx, if_neg hx]
  | swap i j =>
    obtain ⟨_, _, hij⟩ := h
    simp only [back1, RC.app, swapR]
    congr 1
    unfold sw
    by_cases h1 : x = i
    · simp only [if_pos h1]; rw [if_neg (Ne.symm hij), if_pos trivial]; exact h1.symm
    · by_cases h2 : x = j
      · simp only [if_neg h1, if_pos h2, if_pos]; exact h2.symm
      · simp only [if_neg h1, if_neg h2]
  | turn i =>
    simp only [back1, RC.app, turnR]
    by_cases hx : x = i
    · subst hx; simp
    · rw [if_neg hx, if_neg hx]
end E1

namespace E1
def MeetH (cap top low p : Nat) : Nat → Tab → List RC → Tab → Prop
  | 0, _, _, _ => False
  | n + 1, e, L, e' => (Le cap e ∧ e low p = 0 ∧ L = [] ∧ e' = e) ∨
      (Le cap e ∧ e low p ≠ 0 ∧ e top p ≠ 0 ∧ ∃ e1, e1 = less e low top p ∧ Le cap e1 ∧
        ((e1 low p = 0 ∧ L = lch low top (lq e low top p) ∧ e' = e1 ∧ ∃ k, n = k + 1) ∨
         (e1 low p ≠ 0 ∧ ∃ e2, e2 = less e1 top low p ∧ Le cap e2 ∧
           ((e2 top p ≠ 0 ∧ ∃ L2, MeetH cap top low p n e2 L2 e' ∧ L = lch low top (lq e low top p) ++ (lch top low (lq e1 top low p) ++ L2)) ∨
            (e2 top p = 0 ∧ L = lch low top (lq e low top p) ++ (lch top low (lq e1 top low p) ++ [.swap top low]) ∧ e' = swapR e2 top low ∧ e' low p = 0 ∧ Le cap e' ∧ ∃ k, n = k + 1)))))
theorem meetH_of {cap top low p : Nat} {e e' : Tab} {L : List RC} (h : MeetR cap top low p e L e') : ∃ n, MeetH cap top low p n e L e' := by
  induction h with
  | done h1 h2 => exact ⟨1, .inl ⟨h1, h2, rfl, rfl⟩⟩
  | half h1 h2 h3 h4 h5 h6 => exact ⟨2, .inr ⟨h1, h2, h3, _, h4, h5, .inl ⟨h6, rfl, rfl, 0, rfl⟩⟩⟩
  | turn h1 h2 h3 h4 h5 h6 h7 h8 h9 _ ih =>
    obtain ⟨n, ih⟩ := ih
    exact ⟨n + 1, .inr ⟨h1, h2, h3, _, h4, h5, .inr ⟨h6, _, h7, h8, .inl ⟨h9, _, ih, rfl⟩⟩⟩⟩
  | swap h1 h2 h3 h4 h5 h6 h7 h8 h9 =>
    refine ⟨2, .inr ⟨h1, h2, h3, _, h4, h5, .inr ⟨h6, _, h7, h8, .inr ⟨h9, rfl, rfl, ?_, ?_, 0, rfl⟩⟩⟩⟩
    · show swapR _ top low low p = 0
      unfold swapR sw
      by_cases e : low = top
      · rw [if_pos e, e]; exact h9
      · rw [if_neg e, if_pos rfl]; exact h9
    · intro x y; exact h8 _ _
def RoundsH (cap h w : Nat) : Nat → Tab → List (Bool × RC) → Tab → Prop
  | 0, _, _, _ => False
  | n + 1, e, L, e' => (¬ beside h w e ∧ L = [] ∧ e' = e) ∨
      (beside h w e ∧ ∃ e1 L1 L2 L3, Both cap h w e L1 L2 e1 ∧ RoundsH cap h w n e1 L3 e' ∧ L = (L1.map (Prod.mk true) ++ L2.map (Prod.mk false)) ++ L3)
theorem fp_from {r : Nat → Int} : ∀ (n y i : Nat), y ≤ i → i < y + n → (∀ z, y ≤ z → z < i → r z = 0) → r i ≠ 0 → fp r y n = i
  | 0, y, i, h1, h2, _, _ => by (first | lia | omega)
  | n + 1, y, i, h1, h2, h3, h4 => by
    unfold fp
    by_cases e : y = i
    · subst e; rw [if_pos h4]
    · rw [if_neg (by simpa using h3 y (Nat.le_refl _) (by (first | lia | omega)))]
      exact fp_from n (y + 1) i (by (first | lia | omega)) (by (first | lia | omega)) (fun z a b => h3 z (by (first | lia | omega)) b) h4
theorem fp_none {r : Nat → Int} : ∀ (n y : Nat), (∀ z, y ≤ z → z < y + n → r z = 0) → fp r y n = y + n
  | 0, y, _ => rfl
  | n + 1, y, h => by
    unfold fp
    rw [if_neg (by simpa using h y (Nat.le_refl _) (by (first | lia | omega))), fp_none n (y + 1) (fun z a b => h z (by (first | lia | omega)) (by (first | lia | omega)))]
    (first | lia | omega)
end E1

namespace E1
open Dt
def RLe (x c : Nat) (e : Tab) : Prop := ∀ y, (e x y).natAbs ≤ 2 ^ c
theorem RLe.mono {x c d : Nat} {e : Tab} (h : RLe x c e) (hc : c ≤ d) : RLe x d e := fun y => Nat.le_trans (h y) (Nat.pow_le_pow_right (by decide) hc)
theorem Le.row {c : Nat} {e : Tab} (h : Le c e) (x : Nat) : RLe x c e := fun y => h x y
theorem pow_sum (a b : Nat) : 2 ^ a + 2 ^ a * 2 ^ b ≤ 2 ^ (a + b + 1) := by
  have h1 : (2 : Nat) ^ (a + b + 1) = 2 * (2 ^ a * 2 ^ b) := by rw [Nat.pow_succ, Nat.pow_add]; (first | lia | omega)
  have h2 : (2 : Nat) ^ a * 1 ≤ 2 ^ a * 2 ^ b := Nat.mul_le_mul_left _ Nat.one_le_two_pow
  (first | lia | omega)
theorem less_le2 {L S : Nat} {e : Tab} {i j p : Nat} (hi : RLe i L e) (hj : RLe j S e) (hp : e j p ≠ 0) : RLe i (L + S + 1) (less e i j p) := by
  intro y
  rw [less_row]
  have h1 : (lq e i j p * e j y).natAbs ≤ 2 ^ L * 2 ^ S := by
    rw [Int.natAbs_mul]; exact Nat.mul_le_mul (Nat.le_trans (quo_le hp) (hi p)) (hj y)
  have h2 := hi y
  have h3 := pow_sum L S
  have h4 := Int.natAbs_add_le (e i y) (lq e i j p * e j y)
  (first | lia | omega)
theorem le_but {M r : Nat} {e e' : Tab} (h : Le M e) (ho : ∀ x, x ≠ r → ∀ y, e' x y = e x y) (hr : RLe r M e') : Le M e' := fun x y => by
  by_cases hx : x = r
  · subst hx; exact hr y
  · rw [ho x hx]; exact h x y
theorem lrow_ex2 {cap M : Nat} {st : List Nat} {row S : Nat} (hM : M ≤ cap) : ∀ (n t : Nat) (e : Tab) (L : Nat), Le M e → RLe row L e → L + n * (S + 1) ≤ M → (∀ i, t ≤ i → i < t + n → i ≠ row ∧ e i (sat st i) ≠ 0 ∧ RLe i S e) →
    ∃ C e', LRow cap st row t n e C e' ∧ Le M e' ∧ RLe row (L + n * (S + 1)) e' ∧ rapps C e = e' ∧ C.length ≤ n ∧ (∀ k, row < k → t + n ≤ k → ∀ x ∈ C, x.ok k) ∧
      (∀ x, x ≠ row → ∀ y, e' x y = e x y) ∧ (∀ y, (∀ i, t ≤ i → i < t + n → e i y = 0) → e' row y = e row y) ∧
      ((∀ i j, t ≤ i → i < j → j < t + n → e j (sat st i) = 0) → ∀ i, t ≤ i → i < t + n → 2 * (e' row (sat st i)).natAbs ≤ (e i (sat st i)).natAbs)
  | 0, t, e, L, hc, hl, hle, h => ⟨[], e, ⟨hc.mono hM, rfl, rfl⟩, hc, hl.mono (by (first | lia | omega)), rfl, by simp, fun _ _ _ x hx => absurd hx (by simp), fun _ _ _ => rfl, fun _ _ => rfl, fun _ i h1 h2 => absurd h1 (by (first | lia | omega))⟩
  | n + 1, t, e, L, hc, hl, hle, h => by
    obtain ⟨hr, hz, hS⟩ := h t (Nat.le_refl _) (by (first | lia | omega))
    have hl1 := less_le2 (i := row) hl hS hz
    have en : (n + 1) * (S + 1) = n * (S + 1) + (S + 1) := Nat.succ_mul _ _
    have hle1 : L + S + 1 + n * (S + 1) ≤ M := by (first | lia | omega)
    have hc1 : Le M (less e row t (sat st t)) := le_but hc (fun x hx y => less_other hx y) (hl1.mono (by (first | lia | omega)))
    obtain ⟨C2, e', a1, a2, a2', a3, a4, a5, a6, a7, a8⟩ := lrow_ex2 (cap := cap) hM n (t + 1) (less e row t (sat st t)) (L + S + 1) hc1 hl1 hle1 (fun i h1 h2 => by
      obtain ⟨b1, b2, b3⟩ := h i (by (first | lia | omega)) (by (first | lia | omega))
      exact ⟨b1, by rw [less_other b1]; exact b2, fun y => by rw [less_other b1]; exact b3 y⟩)
    refine ⟨_, e', ⟨hc.mono hM, hz, C2, a1, rfl⟩, a2, a2'.mono (by (first | lia | omega)), ?_, ?_, ?_, ?_, ?_, ?_⟩
    · rw [rapps_app, lch_app]; exact a3
    · rw [List.length_append]; have := lch_len row t (lq e row t (sat st t)); (first | lia | omega)
    · intro k h1 h2 x hx
      rcases List.mem_append.mp hx with z | z
      · exact lch_ok h1 (by (first | lia | omega)) (Ne.symm hr) x z
      · exact a5 k h1 (by (first | lia | omega)) x z
    · intro x hx y; rw [a6 x hx, less_other hx]
    · intro y hy
      rw [a7 y (fun i h1 h2 => by rw [less_other (h i (by (first | lia | omega)) (by (first | lia | omega))).1]; exact hy i (by (first | lia | omega)) (by (first | lia | omega))), less_row, hy t (Nat.le_refl _) (by (first | lia | omega))]
      simp
    · intro hj i h1 h2
      by_cases hi : i = t
      · subst hi
        rw [a7 _ (fun k h3 h4 => by rw [less_other (h k (by (first | lia | omega)) (by (first | lia | omega))).1]; exact hj i k (Nat.le_refl _) (by (first | lia | omega)) (by (first | lia | omega)))]
        exact less_rest hz
      · have := a8 (fun a b h3 h4 h5 => by rw [less_other (h b (by (first | lia | omega)) (by (first | lia | omega))).1]; exact hj a b (by (first | lia | omega)) h4 (by (first | lia | omega))) i (by (first | lia | omega)) (by (first | lia | omega))
        rw [less_other (h i h1 (by (first | lia | omega))).1] at this
        exact this
theorem meet_from2 {e0 : Tab} {cap top low p : Nat} (htl : top ≠ low) (lc : ∀ {e : Tab} {u v u' v' : Int}, Sums e0 e top low u v u' v' → Co (e0 top p) (e0 low p) u v u' v' → Le cap e) :
    ∀ (n : Nat) (e : Tab) (u v u' v' : Int), Sums e0 e top low u v u' v' → Head (e0 top p) (e0 low p) u v u' v' → (e top p).natAbs < 4 ^ n →
      ∃ L e' s t s' t', MeetR cap top low p e L e' ∧ Sums e0 e' top low s t s' t' ∧ Head (e0 top p) (e0 low p) s t s' t' ∧ e' low p = 0 ∧
        rapps L e = e' ∧ L.length ≤ 3 * n ∧ (∀ n, top < n → low < n → ∀ x ∈ L, x.ok n)
  | 0, e, u, v, u', v', hs, hh, hn => by
    have := hh.nz
    rw [← hs.t] at this
    simp at hn; (first | lia | omega)
  | n + 1, e, u, v, u', v', hs, hh, hn => by
    have hx : e top p ≠ 0 := by rw [hs.t]; exact hh.nz
    by_cases hy : e low p = 0
    · exact ⟨[], e, u, v, u', v', .done (lc hs hh.co) hy, hs, hh, hy, rfl, by simp, fun _ _ _ x hx => absurd hx (by simp)⟩
    · have hs1 := hs.low (p := p) htl
      have hm := head_mid (q := lq e low top p) hh (by rw [← hs.l]; exact hy) (by unfold lq; rw [hs.l, hs.t])
      by_cases hy1 : less e low top p low p = 0
      · refine ⟨_, _, _, _, _, _, .half (lc hs hh.co) hy hx rfl (lc hs1 hm.co) hy1, hs1, mid_head hm (by rw [← hs1.l]; exact hy1), hy1, lch_app .., ?_, fun n h1 h2 => lch_ok h2 h1 (Ne.symm htl)⟩
        have := lch_len low top (lq e low top p); (first | lia | omega)
      · have hs2 := hs1.top (p := p) htl
        have ht := mid_tail (q := lq (less e low top p) top low p) hm (by rw [← hs1.l]; exact hy1) (by unfold lq; rw [hs1.l, hs1.t]; rfl)
        have l1 := lch_len low top (lq e low top p)
        have l2 := lch_len top low (lq (less e low top p) top low p)
        by_cases hx2 : less (less e low top p) top low p top p = 0
        · refine ⟨_, _, _, _, _, _, .swap (lc hs hh.co) hy hx rfl (lc hs1 hm.co) hy1 rfl (lc hs2 ht.co) hx2, hs2.swap htl, tail_swap ht (by rw [← hs2.t]; exact hx2), ?_, ?_, ?_, ?_⟩
          · simp only [swapR, sw, if_neg (Ne.symm htl), if_pos]; exact hx2
          · rw [rapps_app, rapps_app, lch_app, lch_app]; rfl
          · simp only [List.length_append, List.length_cons, List.length_nil]; (first | lia | omega)
          · intro n h1 h2 x hx
            simp only [List.mem_append, List.mem_singleton] at hx
            rcases hx with z | z | z
            · exact lch_ok h2 h1 (Ne.symm htl) x z
            · exact lch_ok h1 h2 htl x z
            · subst z; exact ⟨h1, h2, htl⟩
        · have hlt : (less (less e low top p) top low p top p).natAbs < 4 ^ n := by
            have r1 := less_rest (e := e) (i := low) hx
            have r2 := less_rest (e := less e low top p) (i := top) hy1
            rw [Nat.pow_succ] at hn
            (first | lia | omega)
          obtain ⟨L, e', s, t, s', t', hR, a1, a2, a3, a4, a5, a6⟩ := meet_from2 htl lc n _ _ _ _ _ hs2 (tail_head ht (by rw [← hs2.t]; exact hx2)) hlt
          refine ⟨_, e', s, t, s', t', .turn (lc hs hh.co) hy hx rfl (lc hs1 hm.co) hy1 rfl (lc hs2 ht.co) hx2 hR, a1, a2, a3, ?_, ?_, ?_⟩
          · rw [rapps_app, rapps_app, lch_app, lch_app]; exact a4
          · simp only [List.length_append]; (first | lia | omega)
          · intro n h1 h2 x hx
            simp only [List.mem_append] at hx
            rcases hx with z | z | z
            · exact lch_ok h2 h1 (Ne.symm htl) x z
            · exact lch_ok h1 h2 htl x z
            · exact a6 n h1 h2 x z
theorem cof_le {u v t l x0 y0 : Int} {S L : Nat} (hu : u.natAbs ≤ 1 + 2 * y0.natAbs) (hv : v.natAbs ≤ 1 + 2 * x0.natAbs) (ht : t.natAbs ≤ 2 ^ S) (hl : l.natAbs ≤ 2 ^ L) (hx : x0.natAbs ≤ 2 ^ S) (hy : y0.natAbs ≤ 2 ^ L) :
    (u * t + v * l).natAbs ≤ 2 ^ (S + L + 3) := by
  have h1 : (u * t).natAbs ≤ (1 + 2 * 2 ^ L) * 2 ^ S := by rw [Int.natAbs_mul]; exact Nat.mul_le_mul (by (first | lia | omega)) ht
  have h2 : (v * l).natAbs ≤ (1 + 2 * 2 ^ S) * 2 ^ L := by rw [Int.natAbs_mul]; exact Nat.mul_le_mul (by (first | lia | omega)) hl
  have h3 := Int.natAbs_add_le (u * t) (v * l)
  have e1 : (1 + 2 * 2 ^ L) * 2 ^ S = 2 ^ S + 2 * (2 ^ S * 2 ^ L) := by grind
  have e2 : (1 + 2 * 2 ^ S) * 2 ^ L = 2 ^ L + 2 * (2 ^ S * 2 ^ L) := by grind
  have e3 : (2 : Nat) ^ (S + L + 3) = 8 * (2 ^ S * 2 ^ L) := by rw [Nat.pow_add, Nat.pow_add]; (first | lia | omega)
  have h4 : (2 : Nat) ^ S * 1 ≤ 2 ^ S * 2 ^ L := Nat.mul_le_mul_left _ Nat.one_le_two_pow
  have h5 : (1 : Nat) * 2 ^ L ≤ 2 ^ S * 2 ^ L := Nat.mul_le_mul_right _ Nat.one_le_two_pow
  (first | lia | omega)
theorem Sums.le2 {e0 e : Tab} {top low p S L M : Nat} {u v u' v' : Int} (h : Sums e0 e top low u v u' v') (hM : Le M e0) (hS : RLe top S e0) (hL : RLe low L e0) (hm : S + L + 3 ≤ M) (co : Co (e0 top p) (e0 low p) u v u' v') :
    Le M e ∧ RLe top (S + L + 3) e ∧ RLe low (S + L + 3) e := by
  have h1 : RLe top (S + L + 3) e := fun y => by rw [h.t]; exact cof_le co.bu co.bv (hS _) (hL _) (hS _) (hL _)
  have h2 : RLe low (S + L + 3) e := fun y => by rw [h.l]; exact cof_le co.bu' co.bv' (hS _) (hL _) (hS _) (hL _)
  refine ⟨fun x y => ?_, h1, h2⟩
  by_cases hx : x = top
  · subst hx; exact h1.mono hm y
  · by_cases hl : x = low
    · subst hl; exact h2.mono hm y
    · rw [h.o x hx hl]; exact hM x y
theorem meet_ex2 {e : Tab} {cap M S L top low p n : Nat} (htl : top ≠ low) (hM : Le M e) (hS : RLe top S e) (hL : RLe low L e) (hm : S + L + 3 ≤ M) (hcap : M ≤ cap) (hx : e top p ≠ 0) (hn : (e top p).natAbs < 4 ^ n) :
    ∃ C e' s t s' t', MeetR cap top low p e C e' ∧ Met e e' top low p s t s' t' ∧ Le M e' ∧ RLe top (S + L + 3) e' ∧ RLe low (S + L + 3) e' ∧ rapps C e = e' ∧ C.length ≤ 3 * n ∧ (∀ n, top < n → low < n → ∀ x ∈ C, x.ok n) := by
  obtain ⟨C, e', s, t, s', t', hR, a1, a2, a3, a4, a5, a6⟩ := meet_from2 (cap := cap) htl (fun h co => (h.le2 hM hS hL hm co).1.mono hcap) n e 1 0 0 1 (Sums.refl e top low) (head_init hx) hn
  obtain ⟨b1, b2, b3⟩ := a1.le2 hM hS hL hm a2.co
  refine ⟨C, e', s, t, s', t', hR, ⟨a1, a2.co, ?_, a3, a2.keep, ?_⟩, b1, b2, b3, a4, a5, a6⟩
  · rw [a1.t]; exact a2.nz
  · have := a2.ends (by rw [← a1.l]; exact a3)
    rw [← a1.t] at this
    exact this
theorem take_ex2 {cap low w n S M : Nat} {st : List Nat} (hcap : M ≤ cap) : ∀ (k top : Nat) (e : Tab) (L : Nat), top + k = st.length → Stairs e st w low → Wide e w → Le M e → RLe low L e → (∀ i, top ≤ i → i < st.length → RLe i S e) → L + k * k * (S + 1) + 2 * k ≤ M →
    (∀ i, i < top → ∀ y, y ≤ sat st i → e low y = 0) → (∀ i, top ≤ i → i < st.length → (e i (sat st i)).natAbs < 4 ^ n) →
    ∃ C top' e', TakeR cap low w st top e C top' e' ∧ Stairs e' st w low ∧ Le M e' ∧ rapps C e = e' ∧ C.length ≤ k * (3 * n + 2 * k) ∧ (∀ x ∈ C, x.ok (low + 1)) ∧
      top ≤ top' ∧ top' ≤ st.length ∧ (∀ i, i < top' → ∀ y, y ≤ sat st i → e' low y = 0) ∧ (top' < st.length → fp (e' low) 0 w < sat st top') ∧ (∀ x, low < x → ∀ y, e' x y = e x y) := by
  intro k
  induction k with
  | zero =>
    intro top e L hk hs hw hc hl hS hle hz hn
    exact ⟨[], top, e, .stop (hc.mono hcap) (fun h => by (first | lia | omega)), hs, hc, rfl, by simp, fun x hx => absurd hx (by simp), Nat.le_refl _, by (first | lia | omega), hz, fun h => by (first | lia | omega), fun _ _ _ => rfl⟩
  | succ k ih =>
    intro top e L hk hs hw hc hl hS hle hz hn
    have htop : top < st.length := by (first | lia | omega)
    have htl : top ≠ low := by have := hs.len; (first | lia | omega)
    have hq : (k + 1) * (k + 1) * (S + 1) = k * k * (S + 1) + (k * (S + 1) + k * (S + 1)) + (S + 1) := by grind
    by_cases h1 : sat st top ≤ fp (e low) 0 w
    · by_cases h2 : sat st top = fp (e low) 0 w
      · -- they meet
        have hzlow : ∀ y, y < sat st top → e low y = 0 := fun y hy => fp_zero (e low) w 0 y (by (first | lia | omega)) (by (first | lia | omega))
        obtain ⟨L1, e1, s, t, s', t', m1, m2, m3, m3t, m3l, m4, m5, m6⟩ := meet_ex2 (cap := cap) htl hc (hS top (Nat.le_refl _) htop) hl (by (first | lia | omega)) hcap (hs.nz top htop) (hn top (Nat.le_refl _) htop)
        have r1 : ∀ x, x ≠ top → x ≠ low → ∀ y, e1 x y = e x y := m2.sums.o
        have z1 : ∀ y, y < sat st top → e1 top y = 0 := fun y hy => by rw [m2.sums.t, hs.zl top htop y hy, hzlow y hy]; simp
        have y1 : ∀ y, y ≤ sat st top → e1 low y = 0 := fun y hy => by
          rcases Nat.lt_or_eq_of_le hy with z | z
          · rw [m2.sums.l, hs.zl top htop y z, hzlow y z]; simp
          · rw [z]; exact m2.zero
        have lown : ∀ i, i < st.length → i ≠ low := fun i hi => by have := hs.len; (first | lia | omega)
        obtain ⟨L2, e2, a1, a2, a2', a3, a4, a5, a6, a7, _⟩ := lrow_ex2 (cap := cap) (st := st) (row := top) (S := S) hcap k (top + 1) e1 (S + L + 3) m3 m3t (by (first | lia | omega)) (fun i h3 h4 => ⟨by (first | lia | omega), by rw [r1 i (by (first | lia | omega)) (lown i (by (first | lia | omega)))]; exact hs.nz i (by (first | lia | omega)), fun y => by rw [r1 i (by (first | lia | omega)) (lown i (by (first | lia | omega)))]; exact hS i (by (first | lia | omega)) (by (first | lia | omega)) y⟩)
        have l2 : RLe low (S + L + 3) e2 := fun y => by rw [a6 low (Ne.symm htl)]; exact m3l y
        obtain ⟨L3, e3, b1, b2, b2', b3, b4, b5, b6, b7, _⟩ := lrow_ex2 (cap := cap) (st := st) (row := low) (S := S) hcap k (top + 1) e2 (S + L + 3) a2 l2 (by (first | lia | omega)) (fun i h3 h4 => ⟨lown i (by (first | lia | omega)), by rw [a6 i (by (first | lia | omega)), r1 i (by (first | lia | omega)) (lown i (by (first | lia | omega)))]; exact hs.nz i (by (first | lia | omega)), fun y => by rw [a6 i (by (first | lia | omega)), r1 i (by (first | lia | omega)) (lown i (by (first | lia | omega)))]; exact hS i (by (first | lia | omega)) (by (first | lia | omega)) y⟩)
        have zt : ∀ y, y ≤ sat st top → ∀ i, top + 1 ≤ i → i < top + 1 + k → e i y = 0 := fun y hy i h3 h4 => hs.zl i (by (first | lia | omega)) y (by have := hs.mono top i (by (first | lia | omega)) (by (first | lia | omega)); (first | lia | omega))
        have q3 : ∀ x, x ≠ top → x ≠ low → ∀ y, e3 x y = e x y := fun x h3 h4 y => by rw [b6 x h4, a6 x h3, r1 x h3 h4]
        have t3 : ∀ y, y ≤ sat st top → e3 top y = e1 top y := fun y hy => by
          rw [b6 top htl, a7 y (fun i h3 h4 => by rw [r1 i (by (first | lia | omega)) (lown i (by (first | lia | omega)))]; exact zt y hy i h3 h4)]
        have l3 : ∀ y, y ≤ sat st top → e3 low y = 0 := fun y hy => by
          rw [b7 y (fun i h3 h4 => by rw [a6 i (by (first | lia | omega)), r1 i (by (first | lia | omega)) (lown i (by (first | lia | omega)))]; exact zt y hy i h3 h4), a6 low (Ne.symm htl)]
          exact y1 y hy
        have hs3 : Stairs e3 st w low := by
          refine ⟨hs.len, hs.lt, hs.mono, fun i hi => ?_, fun i hi y hy => ?_, fun x h3 h4 y => ?_⟩
          · by_cases hi2 : i = top
            · subst hi2; rw [t3 _ (Nat.le_refl _)]; exact m2.nz
            · rw [q3 i hi2 (lown i hi)]; exact hs.nz i hi
          · by_cases hi2 : i = top
            · subst hi2; rw [t3 _ (by (first | lia | omega))]; exact z1 y hy
            · rw [q3 i hi2 (lown i hi)]; exact hs.zl i hi y hy
          · rw [q3 x (by (first | lia | omega)) (by (first | lia | omega))]; exact hs.zr x h3 h4 y
        have hL : st.length - (top + 1) = k := by (first | lia | omega)
        have e3' : rapps (L1 ++ (L2 ++ L3)) e = e3 := by rw [rapps_app, rapps_app, m4, a3, b3]
        obtain ⟨L4, top', e', c1, c2, c3, c4, c5, c6, c7, c8, c9, c10, c11⟩ := ih (top + 1) e3 (S + L + 3 + k * (S + 1)) (by (first | lia | omega)) hs3 (e3' ▸ wide_app hw _) b2 b2'
          (fun i h3 h4 y => by rw [q3 i (by (first | lia | omega)) (lown i h4)]; exact hS i (by (first | lia | omega)) h4 y) (by (first | lia | omega))
          (fun i hi y hy => by
            by_cases hi2 : i = top
            · subst hi2; exact l3 y hy
            · have := hs.mono i top (by (first | lia | omega)) htop
              exact l3 y (by (first | lia | omega)))
          (fun i h3 h4 => by rw [q3 i (by (first | lia | omega)) (lown i h4)]; exact hn i (by (first | lia | omega)) h4)
        refine ⟨_, top', e', .meet (hc.mono hcap) htop h2 m1 (by rw [hL]; exact a1) (by rw [hL]; exact b1) c1, c2, c3, ?_, ?_, ?_, by (first | lia | omega), c8, c9, c10, ?_⟩
        · rw [← c4, ← e3']; simp only [rapps_app]
        · simp only [List.length_append]
          have e4 : (k + 1) * (3 * n + 2 * (k + 1)) = k * (3 * n + 2 * k) + 2 * k + (3 * n + 2 * k + 2) := by grind
          (first | lia | omega)
        · intro x hx
          simp only [List.mem_append] at hx
          have := hs.len
          rcases hx with z | z | z | z
          · exact m6 _ (by (first | lia | omega)) (by (first | lia | omega)) x z
          · exact a5 _ (by (first | lia | omega)) (by (first | lia | omega)) x z
          · exact b5 _ (by (first | lia | omega)) (by (first | lia | omega)) x z
          · exact c6 x z
        · intro x hx y
          have := hs.len
          rw [c11 x hx, q3 x (by (first | lia | omega)) (by (first | lia | omega))]
      · -- on to the next step
        have hlt : sat st top < fp (e low) 0 w := by (first | lia | omega)
        obtain ⟨C, top', e', c1, c2, c3, c4, c5, c6, c7, c8, c9, c10, c11⟩ := ih (top + 1) e L (by (first | lia | omega)) hs hw hc hl (fun i h3 h4 => hS i (by (first | lia | omega)) h4) (by (first | lia | omega))
          (fun i hi y hy => by
            by_cases hi2 : i = top
            · subst hi2; exact fp_zero (e low) w 0 y (by (first | lia | omega)) (by (first | lia | omega))
            · exact hz i (by (first | lia | omega)) y hy)
          (fun i h3 h4 => hn i (by (first | lia | omega)) h4)
        refine ⟨C, top', e', .skip (hc.mono hcap) htop hlt c1, c2, c3, c4, ?_, c6, by (first | lia | omega), c8, c9, c10, c11⟩
        have e4 : (k + 1) * (3 * n + 2 * (k + 1)) = k * (3 * n + 2 * k) + 2 * k + (3 * n + 2 * k + 2) := by grind
        (first | lia | omega)
    · exact ⟨[], top, e, .stop (hc.mono hcap) (fun h => h1 h.2), hs, hc, rfl, by simp, fun x hx => absurd hx (by simp), Nat.le_refl _, by (first | lia | omega), hz, fun h => by (first | lia | omega), fun _ _ _ => rfl⟩
def redB (m B : Nat) : Nat → Nat → Nat
  | 0, R => R
  | k + 1, R => redB m B k (max R (B + (m - (k + 1)) * (R + 1)))
theorem redB_ge (m B : Nat) : ∀ (k R : Nat), R ≤ redB m B k R
  | 0, R => Nat.le_refl _
  | k + 1, R => Nat.le_trans (Nat.le_max_left _ _) (redB_ge m B k _)
theorem red_ex2 {cap w n M B : Nat} {st : List Nat} (hcap : M ≤ cap) : ∀ (k : Nat) (e : Tab) (R : Nat), k ≤ st.length → Stairs e st w n → Le M e → (∀ x, x < k → RLe x B e) → (∀ x, k ≤ x → x < st.length → RLe x R e) → redB st.length B k R ≤ M →
    ∃ C e', Red cap st k e C e' ∧ Stairs e' st w n ∧ Le M e' ∧ rapps C e = e' ∧ C.length ≤ so st.length k ∧ (∀ x ∈ C, x.ok n) ∧
      (∀ x, k ≤ x → ∀ y, e' x y = e x y) ∧ (∀ i, i < st.length → e' i (sat st i) = e i (sat st i)) ∧
      (∀ i t, i < k → i < t → t < st.length → 2 * (e' i (sat st t)).natAbs ≤ (e' t (sat st t)).natAbs)
  | 0, e, R, hk, hs, hc, hB, hR, hle => ⟨[], e, ⟨hc.mono hcap, rfl, rfl⟩, hs, hc, rfl, by simp, fun x hx => absurd hx (by simp), fun _ _ _ => rfl, fun _ _ => rfl, fun i t h _ _ => absurd h (by (first | lia | omega))⟩
  | k + 1, e, R, hk, hs, hc, hB, hR, hle => by
    simp only [so]
    have hmax : max R (B + (st.length - (k + 1)) * (R + 1)) ≤ M := Nat.le_trans (redB_ge _ _ _ _) hle
    obtain ⟨L1, e1, a1, a2, a2', a3, a4, a5, a6, a7, a8⟩ := lrow_ex2 (cap := cap) (st := st) (row := k) (S := R) hcap (st.length - (k + 1)) (k + 1) e B hc (hB k (by (first | lia | omega))) (Nat.le_trans (Nat.le_max_right _ _) hmax)
      (fun i h1 h2 => ⟨by (first | lia | omega), hs.nz i (by (first | lia | omega)), hR i h1 (by (first | lia | omega))⟩)
    have zt : ∀ y, y ≤ sat st k → ∀ i, k + 1 ≤ i → i < k + 1 + (st.length - (k + 1)) → e i y = 0 := fun y hy i h3 h4 => hs.zl i (by (first | lia | omega)) y (by have := hs.mono k i (by (first | lia | omega)) (by (first | lia | omega)); (first | lia | omega))
    have hk1 : ∀ y, y ≤ sat st k → e1 k y = e k y := fun y hy => a7 y (zt y hy)
    have hs1 : Stairs e1 st w n := by
      refine ⟨hs.len, hs.lt, hs.mono, fun i hi => ?_, fun i hi y hy => ?_, fun x h3 h4 y => ?_⟩
      · by_cases h : i = k
        · subst h; rw [hk1 _ (Nat.le_refl _)]; exact hs.nz i hi
        · rw [a6 i h]; exact hs.nz i hi
      · by_cases h : i = k
        · subst h; rw [hk1 _ (by (first | lia | omega))]; exact hs.zl i hi y hy
        · rw [a6 i h]; exact hs.zl i hi y hy
      · rw [a6 x (by (first | lia | omega))]; exact hs.zr x h3 h4 y
    obtain ⟨L2, e', b1, b2, b3, b4, b5, b6, b7, b8, b9⟩ := red_ex2 (B := B) hcap k e1 _ (by (first | lia | omega)) hs1 a2 (fun x hx y => by rw [a6 x (by (first | lia | omega))]; exact hB x (by (first | lia | omega)) y)
      (fun x h1 h2 => by
        by_cases hx : x = k
        · subst hx; exact a2'.mono (Nat.le_max_right _ _)
        · exact fun y => by rw [a6 x hx]; exact (hR x (by (first | lia | omega)) h2).mono (Nat.le_max_left _ _) y) hle
    refine ⟨L1 ++ L2, e', ⟨L1, e1, L2, a1, b1, rfl⟩, b2, b3, by rw [rapps_app, a3, b4], by rw [List.length_append]; (first | lia | omega), ?_, ?_, ?_, ?_⟩
    · intro x hx
      have := hs.len
      rcases List.mem_append.mp hx with z | z
      · exact a5 n (by (first | lia | omega)) (by (first | lia | omega)) x z
      · exact b6 x z
    · intro x hx y; rw [b7 x (by (first | lia | omega)), a6 x (by (first | lia | omega))]
    · intro i hi
      rw [b8 i hi]
      by_cases h : i = k
      · subst h; exact hk1 _ (Nat.le_refl _)
      · exact a6 i h _
    · intro i t h1 h2 h3
      by_cases h : i = k
      · subst h
        have := a8 (fun p q h4 h5 h6 => hs.zl q (by (first | lia | omega)) _ (hs.mono p q h5 (by (first | lia | omega)))) t (by (first | lia | omega)) (by (first | lia | omega))
        rw [b7 i (Nat.le_refl _), b7 t (by (first | lia | omega)), a6 t (by (first | lia | omega))]
        exact this
      · exact b9 i t (by (first | lia | omega)) h2 h3
theorem build_ex2 {e0 : Tab} {cap w n c N M B T : Nat} (hw : Wide e0 w) (hk : Known e0 w n c N) (hMc : M ≤ cap) (hBM : B ≤ M) (hcB : c ≤ B)
    (hK : ∀ m, m < n → c + m * m * (c + 1) + 2 * m ≤ B) (hR : ∀ m, m ≤ n → redB m B m B ≤ M)
    (hP : ∀ m m', m < n → m' ≤ n → m * (3 * N + 2 * m) + (m + 1) + so m' m' ≤ T) :
    ∀ (k low : Nat) (L0 : List RC) (st : List Nat), low + k = n → (∀ x ∈ L0, x.ok low) → Stairs (rapps L0 e0) st w low → Redd (rapps L0 e0) st → (∀ x, low ≤ x → ∀ y, rapps L0 e0 x y = e0 x y) →
      ∃ L st' e', Build cap w k low st (rapps L0 e0) L st' e' ∧ rapps (L0 ++ L) e0 = e' ∧ Stairs e' st' w n ∧ Redd e' st' ∧ (∀ x ∈ L, x.ok n) ∧ L.length ≤ k * T ∧ (∀ x, n ≤ x → ∀ y, e' x y = e0 x y) ∧ Le c e' := by
  intro k
  induction k with
  | zero =>
    intro low L0 st hn hok hs hr ho
    have hc : Le c (rapps L0 e0) := fun x y => by
      by_cases hx : x < low
      · exact hk.bd low (by (first | lia | omega)) L0 st hok hs hr x hx y
      · rw [ho x (by (first | lia | omega))]; exact hk.row x y
    have hn' : low = n := by (first | lia | omega)
    refine ⟨[], st, _, ⟨hc.mono (by (first | lia | omega)), rfl, rfl, rfl⟩, by rw [List.append_nil], hn' ▸ hs, hr, fun x hx => absurd hx (by simp), by simp, fun x hx y => ho x (by (first | lia | omega)) y, hc⟩
  | succ k ih =>
    intro low L0 st hn hok hs hr ho
    have hc : Le c (rapps L0 e0) := fun x y => by
      by_cases hx : x < low
      · exact hk.bd low (by (first | lia | omega)) L0 st hok hs hr x hx y
      · rw [ho x (by (first | lia | omega))]; exact hk.row x y
    have hm := hs.len
    have hKm := hK st.length (by (first | lia | omega))
    have hB1 : Le B (rapps L0 e0) := hc.mono hcB
    obtain ⟨L1, top, e1, t1, t2, t3, t4, t5, t6, _, t8, t9, t10, t11⟩ := take_ex2 (cap := cap) (n := N) (S := c) (M := B) (by (first | lia | omega)) st.length 0 (rapps L0 e0) c (by (first | lia | omega)) hs (wide_app hw L0) hB1 (hc.row _) (fun i _ _ => hc.row i) hKm (fun i hi => absurd hi (by (first | lia | omega))) (fun i _ h2 => hk.piv low (by (first | lia | omega)) L0 st hok hs hr i h2)
    have hex : ∃ st1 L2 e2, ((fp (e1 low) 0 w < w ∧ st1 = ins st top (fp (e1 low) 0 w) ∧ L2 = liftL low top st.length ∧ e2 = rapps L2 e1) ∨
       (¬ fp (e1 low) 0 w < w ∧ st1 = st ∧ L2 = [] ∧ e2 = e1)) ∧ Stairs e2 st1 w (low + 1) ∧ st1.length ≤ st.length + 1 ∧ Le B e2 ∧ rapps L2 e1 = e2 ∧ L2.length ≤ st.length + 1 ∧
       (∀ x ∈ L2, x.ok (low + 1)) ∧ (∀ x, low < x → ∀ y, e2 x y = e1 x y) := by
      by_cases hp : fp (e1 low) 0 w < w
      · refine ⟨_, _, _, Or.inl ⟨hp, rfl, rfl, rfl⟩, lift_stairs t2 t8 t9 t10 hp rfl, by rw [ins_len t8]; (first | lia | omega), t3.app_swap _ (fun x y => lift_app t8 hm e1 x y), rfl, lift_len .., lift_ok t8 hm, ?_⟩
        intro x hx y
        rw [lift_app t8 hm, if_neg (by (first | lia | omega)), if_neg (by (first | lia | omega)), if_neg (by (first | lia | omega)), if_neg (by (first | lia | omega))]
      · refine ⟨_, _, _, Or.inr ⟨hp, rfl, rfl, rfl⟩, ?_, by (first | lia | omega), t3, rfl, by simp, fun x hx => absurd hx (by simp), fun _ _ _ => rfl⟩
        refine ⟨by (first | lia | omega), t2.lt, t2.mono, t2.nz, t2.zl, fun x h1 h2 y => ?_⟩
        by_cases hx : x = low
        · subst hx
          by_cases hy : y < w
          · exact fp_zero (e1 x) w 0 y (by (first | lia | omega)) (by (first | lia | omega))
          · have := wide_app (wide_app hw L0) L1
            rw [t4] at this
            exact this x y (by (first | lia | omega))
        · exact t2.zr x h1 (by (first | lia | omega)) y
    obtain ⟨st1, L2, e2, u1, u2, u3, u4, u5, u6, u7, u8⟩ := hex
    have hR1 := hR st1.length (by (first | lia | omega))
    obtain ⟨L3, e3, r1, r2, r3, r4, r5, r6, r7, r8, r9⟩ := red_ex2 (cap := cap) (M := M) (B := B) hMc st1.length e2 B (Nat.le_refl _) u2 (u4.mono hBM) (fun x _ => u4.row x) (fun x _ _ => u4.row x) hR1
    have he3 : rapps (L0 ++ (L1 ++ (L2 ++ L3))) e0 = e3 := by simp only [rapps_app]; rw [t4, u5, r4]
    obtain ⟨L4, st', e', b1, b2, b3, b4, b5, b6, b7, b8⟩ := ih (low + 1) (L0 ++ (L1 ++ (L2 ++ L3))) st1 (by (first | lia | omega))
      (fun x hx => by
        simp only [List.mem_append] at hx
        rcases hx with z | z | z | z
        · exact (hok x z).mono (by (first | lia | omega))
        · exact t6 x z
        · exact u7 x z
        · exact r6 x z)
      (by rw [he3]; exact r2) (by rw [he3]; exact fun i t h1 h2 => r9 i t (by (first | lia | omega)) h1 h2)
      (fun x hx y => by
        have := u2.len
        rw [he3, r7 x (by (first | lia | omega)), u8 x (by (first | lia | omega)), t11 x (by (first | lia | omega)), ho x (by (first | lia | omega))])
    rw [he3] at b1
    refine ⟨L1 ++ (L2 ++ (L3 ++ L4)), st', e', ⟨L1, top, e1, st1, L2, e2, L3, e3, L4, t1, t8, hm, u1, r1, b1, rfl⟩, ?_, b3, b4, ?_, ?_, b7, b8⟩
    · rw [← b2]; simp only [List.append_assoc]
    · intro x hx
      simp only [List.mem_append] at hx
      rcases hx with z | z | z | z
      · exact (t6 x z).mono (by (first | lia | omega))
      · exact (u7 x z).mono (by (first | lia | omega))
      · exact (r6 x z).mono (by (first | lia | omega))
      · exact b5 x z
    · have hP1 := hP st.length st1.length (by (first | lia | omega)) (by (first | lia | omega))
      have e5 : (k + 1) * T = k * T + T := Nat.succ_mul _ _
      simp only [List.length_append]
      (first | lia | omega)
theorem known_6 {e0 : Tab} {w n : Nat} (hn : n ≤ 6) (hB : ∀ x y, (e0 x y).natAbs ≤ 2 ^ 180) : Known e0 w n 1093 547 := by
  have hbd : ∀ low, low ≤ n → ∀ (L : List RC) (st : List Nat), (∀ x ∈ L, x.ok low) → Stairs (rapps L e0) st w low → Redd (rapps L e0) st → ∀ x, x < low → ∀ y, (rapps L e0 x y).natAbs ≤ 2 ^ 1093 := by
    intro low hl L st hL hs hr x hx y
    have h1 := reset hL (fun x _ y => hB x y) rfl hs hr x hx y
    have hm : st.length ≤ 6 := by have := hs.len; (first | lia | omega)
    refine Nat.le_trans h1 ?_
    generalize st.length = m at hm
    have : ∀ m, m ≤ 6 → m * (fac m * (2 ^ 180) ^ m) ≤ 2 ^ 1093 := by decide +kernel
    exact this m hm
  refine ⟨fun x y => Nat.le_trans (hB x y) (Nat.pow_le_pow_right (by decide) (by decide)), hbd, fun low hl L st hL hs hr i hi => ?_⟩
  have := hbd low hl L st hL hs hr i (by have := hs.len; (first | lia | omega)) (sat st i)
  refine Nat.lt_of_le_of_lt this ?_
  decide +kernel
theorem build_6 {e0 : Tab} {w n : Nat} (hn : n ≤ 6) (hw : Wide e0 w) (hB : ∀ x y, (e0 x y).natAbs ≤ 2 ^ 180) :
    ∃ L st e', Build 33554432 w n 0 [] e0 L st e' ∧ rapps L e0 = e' ∧ Stairs e' st w n ∧ (∀ x ∈ L, x.ok n) ∧ L.length ≤ 100000 ∧ Le 1093 e' := by
  have hrow : ∀ m, m ≤ 6 → redB m 28453 m 28453 ≤ 33554432 := by decide +kernel
  have hK : ∀ m, m < 6 → 1093 + m * m * (1093 + 1) + 2 * m ≤ 28453 := by decide +kernel
  have hP : ∀ m, m < 6 → ∀ m', m' < 7 → m * (3 * 547 + 2 * m) + (m + 1) + so m' m' ≤ 8300 := by decide +kernel
  obtain ⟨L, st, e', b1, b2, b3, b4, b5, b6, b7, b8⟩ := build_ex2 (cap := 33554432) (M := 33554432) (B := 28453) (T := 8300) hw (known_6 (w := w) hn hB) (Nat.le_refl _) (by decide) (by decide) (fun m hm => hK m (by (first | lia | omega))) (fun m hm => hrow m (by (first | lia | omega))) (fun m m' h1 h2 => hP m (by (first | lia | omega)) m' (by (first | lia | omega))) n 0 [] []
    (by (first | lia | omega)) (fun x hx => absurd hx (by simp)) ⟨Nat.zero_le _, fun i h => absurd h (by simp), fun i j _ h => absurd h (by simp), fun i h => absurd h (by simp), fun i h => absurd h (by simp), fun x _ h => absurd h (by (first | lia | omega))⟩ (fun i t _ h => absurd h (by simp)) (fun _ _ _ => rfl)
  refine ⟨L, st, e', b1, b2, b3, b5, ?_, b8⟩
  have : n * 8300 ≤ 6 * 8300 := Nat.mul_le_mul_right _ hn
  (first | lia | omega)
end E1

namespace E1
abbrev Vc := Nat → Int
def cmb (a : Vc) (e : Tab) : Nat → Vc
  | 0 => fun _ => 0
  | n + 1 => fun y => cmb a e n y + a n * e n y
def InR (n : Nat) (e : Tab) (v : Vc) : Prop := ∃ a : Vc, ∀ y, v y = cmb a e n y
theorem cmb_zero (e : Tab) : ∀ n y, cmb (fun _ => 0) e n y = 0
  | 0, _ => rfl
  | n + 1, y => by simp [cmb, cmb_zero e n y]
theorem cmb_add (a b : Vc) (m : Int) (e : Tab) : ∀ n y, cmb (fun i => a i + m * b i) e n y = cmb a e n y + m * cmb b e n y
  | 0, _ => by simp [cmb]
  | n + 1, y => by simp only [cmb]; rw [cmb_add a b m e n y]; grind
theorem cmb_congr {a b : Vc} {e f : Tab} {y z : Nat} : ∀ n, (∀ i, i < n → a i = b i ∧ e i y = f i z) → cmb a e n y = cmb b f n z
  | 0, _ => rfl
  | n + 1, h => by
    simp only [cmb]
    rw [cmb_congr n (fun i hi => h i (by (first | lia | omega))), (h n (by (first | lia | omega))).1, (h n (by (first | lia | omega))).2]
def one (x : Nat) : Vc := fun i => if i = x then 1 else 0
theorem cmb_one {x : Nat} (e : Tab) (y : Nat) : ∀ n, cmb (one x) e n y = if x < n then e x y else 0
  | 0 => by simp [cmb]
  | n + 1 => by
    simp only [cmb, cmb_one e y n, one]
    by_cases h : n = x
    · subst h; simp
    · simp only [if_neg h, Int.zero_mul, Int.add_zero]
      by_cases h2 : x < n
      · rw [if_pos h2, if_pos (by (first | lia | omega))]
      · rw [if_neg h2, if_neg (by (first | lia | omega))]
theorem InR.zero (n : Nat) (e : Tab) : InR n e (fun _ => 0) := ⟨fun _ => 0, fun y => (cmb_zero e n y).symm⟩
theorem InR.add {n : Nat} {e : Tab} {u v : Vc} (hu : InR n e u) (hv : InR n e v) (m : Int) : InR n e (fun y => u y + m * v y) := by
  obtain ⟨a, ha⟩ := hu
  obtain ⟨b, hb⟩ := hv
  exact ⟨fun i => a i + m * b i, fun y => by rw [cmb_add, ← ha, ← hb]⟩
theorem InR.row {n x : Nat} (e : Tab) (h : x < n) : InR n e (e x) := ⟨one x, fun y => by rw [cmb_one, if_pos h]⟩
theorem InR.cong {n : Nat} {e : Tab} {u v : Vc} (h : InR n e u) (hv : ∀ y, v y = u y) : InR n e v := by
  obtain ⟨a, ha⟩ := h
  exact ⟨a, fun y => by rw [hv, ha]⟩
theorem InR.cmb {n : Nat} {e e' : Tab} (h : ∀ x, x < n → InR n e (e' x)) (a : Vc) : ∀ k, k ≤ n → InR n e (E1.cmb a e' k)
  | 0, _ => InR.zero n e
  | k + 1, hk => (InR.cmb h a k (by (first | lia | omega))).add (h k (by (first | lia | omega))) (a k)
theorem InR.of {n : Nat} {e e' : Tab} {v : Vc} (h : ∀ x, x < n → InR n e (e' x)) (hv : InR n e' v) : InR n e v := by
  obtain ⟨a, ha⟩ := hv
  exact (InR.cmb h a n (Nat.le_refl _)).cong ha
theorem inr_cmb {n : Nat} {e e' : Tab} (h : Cmb (cut n e) (cut n e')) : ∀ x, x < n → InR n e (e' x) := by
  intro x hx
  obtain ⟨u, v, m, hc⟩ := h x
  have hcut : ∀ u, InR n e (cut n e u) := fun u => by
    by_cases hu : u < n
    · exact (InR.row e hu).cong fun y => by simp [cut, hu]
    · exact (InR.zero n e).cong fun y => by simp [cut, hu]
  refine ((hcut u).add (hcut v) m).cong fun y => ?_
  have := hc y
  simp only [cut, hx, if_true] at this ⊢
  exact this
theorem inr_app {n : Nat} {c : RC} (hc : c.ok n) (e : Tab) (v : Vc) : InR n e v ↔ InR n (c.app e) v :=
  ⟨fun h => h.of (inr_cmb (cmb_app hc e).2), fun h => h.of (inr_cmb (cmb_app hc e).1)⟩
theorem inr_apps {n : Nat} : ∀ (L : List RC) (e : Tab) (v : Vc), (∀ c ∈ L, c.ok n) → (InR n e v ↔ InR n (rapps L e) v)
  | [], _, _, _ => Iff.rfl
  | c :: L, e, v, h => by
    rw [rapps_cons, ← inr_apps L (c.app e) v (fun x hx => h x (List.mem_cons_of_mem _ hx))]
    exact inr_app (h c List.mem_cons_self) e v
def colA (c : RC) (v : Vc) : Vc := fun y => c.app (fun x _ => v x) y 0
theorem col_app (c : RC) (e : Tab) (x : Nat) : app2 (false, c) e x = colA c (e x) := by
  funext y
  cases c with
  | add i j q => show tipT (addR (tipT e) i j q) x y = _; simp only [tipT, addR, colA, RC.app]
  | swap i j => show tipT (swapR (tipT e) i j) x y = _; simp only [tipT, swapR, colA, RC.app]
  | turn i => show tipT (turnR (tipT e) i) x y = _; simp only [tipT, turnR, colA, RC.app]
theorem colA_lin (c : RC) (u v : Vc) (m : Int) : colA c (fun y => u y + m * v y) = fun y => colA c u y + m * colA c v y := by
  funext y
  cases c with
  | add i j q =>
    simp only [colA, RC.app, addR]
    split <;> grind
  | swap i j => simp only [colA, RC.app, swapR]
  | turn i =>
    simp only [colA, RC.app, turnR]
    split <;> grind
theorem colA_zero (c : RC) : colA c (fun _ => 0) = fun _ => 0 := by
  funext y
  cases c with
  | add i j q => simp only [colA, RC.app, addR]; split <;> simp
  | swap i j => simp only [colA, RC.app, swapR]
  | turn i => simp only [colA, RC.app, turnR]; split <;> simp
theorem colA_cmb (c : RC) (a : Vc) (e : Tab) : ∀ n, colA c (cmb a e n) = cmb a (app2 (false, c) e) n
  | 0 => colA_zero c
  | n + 1 => by
    have : cmb a e (n + 1) = fun y => cmb a e n y + a n * e n y := rfl
    rw [this, colA_lin, colA_cmb c a e n]
    funext y
    show _ = cmb a (app2 (false, c) e) n y + a n * app2 (false, c) e n y
    rw [col_app]
theorem inr_col (c : RC) {n : Nat} {e : Tab} {v : Vc} (h : InR n e v) : InR n (app2 (false, c) e) (colA c v) := by
  obtain ⟨a, ha⟩ := h
  have : v = cmb a e n := funext ha
  exact ⟨a, fun y => by rw [this, colA_cmb]⟩
theorem colA_back {w : Nat} {c : RC} (hc : c.ok w) (v : Vc) : colA (back1 c) (colA c v) = v := by
  have := back1_app hc (fun x _ => v x)
  funext y
  have h2 := congrFun (congrFun this y) 0
  refine Eq.trans ?_ h2
  cases c with
  | add i j q => simp only [colA, back1, RC.app, addR]
  | swap i j => simp only [colA, back1, RC.app, swapR]
  | turn i => simp only [colA, back1, RC.app, turnR]
theorem inr_col_iff {w : Nat} {c : RC} (hc : c.ok w) {n : Nat} {e : Tab} {v : Vc} : InR n e v ↔ InR n (app2 (false, c) e) (colA c v) := by
  refine ⟨inr_col c, fun h => ?_⟩
  have h2 := inr_col (back1 c) h
  rw [colA_back hc] at h2
  have h3 : app2 (false, back1 c) (app2 (false, c) e) = e := by
    funext x
    rw [col_app, col_app, colA_back hc]
  rw [h3] at h2
  exact h2
def colsOf (L : List (Bool × RC)) : List (Bool × RC) := L.filter fun c => !c.1
theorem inr_apps2 {n w : Nat} : ∀ (L : List (Bool × RC)) (e v : Tab), (∀ c ∈ L, ok2 n w c) → (InR n e (v 0) ↔ InR n (apps2 L e) (apps2 (colsOf L) v 0))
  | [], _, _, _ => Iff.rfl
  | (s, c) :: L, e, v, h => by
    have hc := h _ List.mem_cons_self
    have hL := fun x hx => h x (List.mem_cons_of_mem (s, c) hx)
    cases s with
    | true =>
      have e1 : colsOf ((true, c) :: L) = colsOf L := rfl
      have e2 : apps2 ((true, c) :: L) e = apps2 L (c.app e) := rfl
      rw [e1, e2, ← inr_apps2 L (c.app e) v hL]
      exact inr_app hc e (v 0)
    | false =>
      have e1 : colsOf ((false, c) :: L) = (false, c) :: colsOf L := rfl
      have e2 : apps2 ((false, c) :: L) e = apps2 L (app2 (false, c) e) := rfl
      have e3 : apps2 ((false, c) :: colsOf L) v = apps2 (colsOf L) (app2 (false, c) v) := rfl
      rw [e1, e2, e3, ← inr_apps2 L (app2 (false, c) e) (app2 (false, c) v) hL, col_app]
      exact inr_col_iff hc
def dgF (d : Vc) : Tab := fun x y => if x = y then d x else 0
theorem cmb_dg (a d : Vc) (y : Nat) : ∀ n, cmb a (dgF d) n y = if y < n then a y * d y else 0
  | 0 => by simp [cmb]
  | n + 1 => by
    simp only [cmb, cmb_dg a d y n, dgF]
    by_cases h : n = y
    · subst h; simp
    · simp only [if_neg h, Int.mul_zero, Int.add_zero]
      by_cases h2 : y < n
      · rw [if_pos h2, if_pos (by (first | lia | omega))]
      · rw [if_neg h2, if_neg (by (first | lia | omega))]
theorem inr_dg {n : Nat} {d v : Vc} (hd : ∀ y, n ≤ y → d y = 0) : InR n (dgF d) v ↔ ∀ y, d y ∣ v y := by
  constructor
  · rintro ⟨a, ha⟩ y
    rw [ha, cmb_dg]
    split
    · exact Int.dvd_mul_left _ _
    · exact Int.dvd_zero _
  · intro h
    refine ⟨fun y => v y / d y, fun y => ?_⟩
    rw [cmb_dg]
    split
    · exact (Int.ediv_mul_cancel (h y)).symm
    · have := h y
      rw [hd y (by (first | lia | omega))] at this
      exact Int.zero_dvd.mp this
def lessV (e : Tab) (st : List Nat) : Nat → Nat → Vc → Vc
  | _, 0, v => v
  | t, k + 1, v => lessV e st (t + 1) k (fun y => v y - (v (sat st t)).fdiv (e t (sat st t)) * e t y)
theorem lessV_in {n : Nat} (e : Tab) (st : List Nat) : ∀ (k t : Nat) (v : Vc), t + k ≤ n → InR n e (fun y => v y - lessV e st t k v y)
  | 0, t, v, _ => (InR.zero n e).cong fun y => by show v y - v y = 0; (first | lia | omega)
  | k + 1, t, v, h => by
    let q := (v (sat st t)).fdiv (e t (sat st t))
    have ih := lessV_in (n := n) e st k (t + 1) (fun y => v y - q * e t y) (by (first | lia | omega))
    refine (ih.add (InR.row e (show t < n by (first | lia | omega))) q).cong fun y => ?_
    show v y - lessV e st (t + 1) k (fun y => v y - q * e t y) y = _
    (first | lia | omega)
def cmbF (a : Vc) (e : Tab) : Nat → Nat → Vc
  | _, 0 => fun _ => 0
  | t, k + 1 => fun y => a t * e t y + cmbF a e (t + 1) k y
theorem cmbF_zero (a : Vc) (e : Tab) (y : Nat) : ∀ k t, (∀ i, t ≤ i → i < t + k → e i y = 0) → cmbF a e t k y = 0
  | 0, _, _ => rfl
  | k + 1, t, h => by
    simp only [cmbF]
    rw [h t (Nat.le_refl _) (by (first | lia | omega)), cmbF_zero a e y k (t + 1) (fun i h1 h2 => h i (by (first | lia | omega)) (by (first | lia | omega)))]
    simp
theorem cmbF_split (a : Vc) (e : Tab) (y : Nat) : ∀ k t, cmb a e (t + k) y = cmb a e t y + cmbF a e t k y
  | 0, t => by simp [cmbF]
  | k + 1, t => by
    have h := cmbF_split a e y k (t + 1)
    have e1 : t + (k + 1) = t + 1 + k := by (first | lia | omega)
    rw [e1, h]
    simp only [cmb, cmbF]
    (first | lia | omega)
theorem lessV_zero {e : Tab} {st : List Nat} {w w' n : Nat} (hs : Stairs e st w' n) (a : Vc) : ∀ (k t : Nat) (v : Vc), t + k = st.length → (∀ y, y < w → v y = cmbF a e t k y) → ∀ y, y < w → lessV e st t k v y = 0
  | 0, t, v, _, h => fun y hy => h y hy
  | k + 1, t, v, hk, h => by
    have hnz := hs.nz t (by (first | lia | omega))
    have hz : ∀ y, y ≤ sat st t → cmbF a e (t + 1) k y = 0 := fun y hy => cmbF_zero a e y k (t + 1) fun i h1 h2 => hs.zl i (by (first | lia | omega)) y (by have := hs.mono t i (by (first | lia | omega)) (by (first | lia | omega)); (first | lia | omega))
    refine lessV_zero hs a k (t + 1) _ (by (first | lia | omega)) fun y hy => ?_
    by_cases hp : sat st t < w
    · have e1 : v (sat st t) = a t * e t (sat st t) := by rw [h _ hp]; simp only [cmbF]; rw [hz _ (Nat.le_refl _)]; (first | lia | omega)
      have e2 : (v (sat st t)).fdiv (e t (sat st t)) = a t := by rw [e1]; exact Int.mul_fdiv_cancel _ hnz
      show v y - (v (sat st t)).fdiv (e t (sat st t)) * e t y = _
      rw [e2, h y hy]; simp only [cmbF]; (first | lia | omega)
    · have e1 : e t y = 0 := hs.zl t (by (first | lia | omega)) y (by (first | lia | omega))
      show v y - (v (sat st t)).fdiv (e t (sat st t)) * e t y = _
      rw [e1, h y hy]; simp only [cmbF]; rw [e1]; simp
theorem fdiv_le {a p : Int} (hp : p ≠ 0) : (a.fdiv p).natAbs ≤ a.natAbs := by
  have key : ∀ a p : Int, 0 < p → (a.fdiv p).natAbs ≤ a.natAbs := fun a p hp => by
    rw [Int.fdiv_eq_ediv_of_nonneg _ (by (first | lia | omega))]
    have h1 : a = p * (a / p) + a % p := (Int.mul_ediv_add_emod a p).symm
    have h2 := Int.emod_nonneg a (show p ≠ 0 by (first | lia | omega))
    have h3 := Int.emod_lt_of_pos a hp
    generalize a / p = q at h1 ⊢
    generalize a % p = r at h1 h2 h3
    rcases Int.lt_or_le q 0 with hq | hq
    · have : p * (q + 1) ≤ 1 * (q + 1) ∨ q + 1 = 0 := by
        rcases Int.lt_or_eq_of_le (show q + 1 ≤ 0 by (first | lia | omega)) with z | z
        · exact .inl (Int.mul_le_mul_of_nonpos_right (by (first | lia | omega)) (by (first | lia | omega)))
        · exact .inr z
      have e1 : p * (q + 1) = p * q + p := by grind
      rcases this with z | z
      · (first | lia | omega)
      · have : q = -1 := by (first | lia | omega)
        subst this
        (first | lia | omega)
    · have : 1 * q ≤ p * q := Int.mul_le_mul_of_nonneg_right (by (first | lia | omega)) hq
      (first | lia | omega)
  rcases Int.lt_or_lt_of_ne hp with h | h
  · have := key (-a) (-p) (by (first | lia | omega))
    rw [Int.neg_fdiv_neg, Int.natAbs_neg] at this
    exact this
  · exact key a p h
theorem lessV_le {e : Tab} {st : List Nat} {c : Nat} (hc : Le c e) : ∀ (k t : Nat) (v : Vc) (L : Nat), (∀ i, t ≤ i → i < t + k → e i (sat st i) ≠ 0) → (∀ y, (v y).natAbs ≤ 2 ^ L) → ∀ y, (lessV e st t k v y).natAbs ≤ 2 ^ (L + k * (c + 1))
  | 0, t, v, L, _, h => fun y => by simpa [lessV] using h y
  | k + 1, t, v, L, hn, h => fun y => by
    have h1 : ∀ y, (v y - (v (sat st t)).fdiv (e t (sat st t)) * e t y).natAbs ≤ 2 ^ (L + c + 1) := fun y => by
      have a1 : ((v (sat st t)).fdiv (e t (sat st t)) * e t y).natAbs ≤ 2 ^ L * 2 ^ c := by
        rw [Int.natAbs_mul]; exact Nat.mul_le_mul (Nat.le_trans (fdiv_le (hn t (Nat.le_refl _) (by (first | lia | omega)))) (h _)) (hc _ _)
      have a2 := h y
      have a3 := pow_sum L c
      (first | lia | omega)
    have h2 := lessV_le hc k (t + 1) _ (L + c + 1) (fun i h1 h2 => hn i (by (first | lia | omega)) (by (first | lia | omega))) h1 y
    have e1 : L + c + 1 + k * (c + 1) = L + (k + 1) * (c + 1) := by rw [Nat.succ_mul]; (first | lia | omega)
    rw [e1] at h2
    exact h2
def tal (w : Nat) (e : Tab) (n : Nat) : Tab := fun x y => if y < w then e x y else if x < n ∧ y = w + x then 1 else 0
theorem tally_sum {e : Tab} {n w : Nat} {L : List RC} {e' : Tab} {st : List Nat} {v : Vc} (hL : ∀ c ∈ L, c.ok n) (he : rapps L (tal w e n) = e') (hst : st.length ≤ n) (hv : ∀ y, w ≤ y → v y = 0) :
    ∀ y, y < w → v y = lessV e' st 0 st.length v y + cmb (fun i => - lessV e' st 0 st.length v (w + i)) e n y := by
  have h1 := lessV_in (n := n) e' st st.length 0 v (by (first | lia | omega))
  rw [← he, ← inr_apps L (tal w e n) _ hL, he] at h1
  obtain ⟨a, ha⟩ := h1
  have hai : ∀ i, i < n → a i = - lessV e' st 0 st.length v (w + i) := fun i hi => by
    have := ha (w + i)
    dsimp only at this
    rw [hv (w + i) (by (first | lia | omega))] at this
    have e1 : cmb a (tal w e n) n (w + i) = a i := by
      have h2 : cmb a (tal w e n) n (w + i) = cmb a (dgF fun _ => 1) n i := cmb_congr n fun j hj => ⟨rfl, by
        unfold tal dgF
        rw [if_neg (by (first | lia | omega))]
        by_cases hij : j = i
        · rw [if_pos ⟨hj, by (first | lia | omega)⟩, if_pos hij]
        · rw [if_neg (by (first | lia | omega)), if_neg hij]⟩
      rw [h2, cmb_dg, if_pos hi]; (first | lia | omega)
    rw [e1] at this
    (first | lia | omega)
  intro y hy
  have h2 := ha y
  dsimp only at h2
  have h3 : cmb a (tal w e n) n y = cmb (fun i => - lessV e' st 0 st.length v (w + i)) e n y := cmb_congr n fun j hj => ⟨hai j hj, by unfold tal; rw [if_pos hy]⟩
  rw [h3] at h2
  (first | lia | omega)
theorem tally_none {e : Tab} {n w w' : Nat} {L : List RC} {e' : Tab} {st : List Nat} {v : Vc} (hL : ∀ c ∈ L, c.ok n) (he : rapps L (tal w e n) = e') (hs : Stairs e' st w' n) (hin : InR n e v) :
    ∀ y, y < w → lessV e' st 0 st.length v y = 0 := by
  obtain ⟨a0, ha0⟩ := hin
  have h1 : InR n (tal w e n) (cmb a0 (tal w e n) n) := ⟨a0, fun _ => rfl⟩
  rw [inr_apps L (tal w e n) _ hL, he] at h1
  obtain ⟨a, ha⟩ := h1
  refine lessV_zero hs a st.length 0 v (by (first | lia | omega)) fun y hy => ?_
  have h2 : cmb a0 (tal w e n) n y = cmb a0 e n y := cmb_congr n fun j _ => ⟨rfl, by unfold tal; rw [if_pos hy]⟩
  rw [ha0 y, ← h2, ha y]
  have hlen := hs.len
  obtain ⟨d, hd⟩ := Nat.exists_eq_add_of_le hlen
  rw [hd, cmbF_split, show st.length = 0 + st.length from (Nat.zero_add _).symm, cmbF_split]
  rw [Nat.zero_add, cmbF_zero a e' y d st.length (fun i h3 h4 => hs.zr i h3 (by (first | lia | omega)) y)]
  simp [cmb]
end E1

namespace X1
open PySem L2
def toCh (c : Bool × E1.RC) : Ch := match c.2 with
  | .add i j q => .add c.1 i j q
  | .swap i j => .swap c.1 i j
  | .turn i => .turn c.1 i
section
variable {m n : Nat} {T U : Tb}
theorem ent_out_row (h : Rect m n T) {x : Nat} (hx : m ≤ x) (y : Nat) : ent T x y = 0 := by
  unfold ent
  have : T.getD x [] = [] := by
    have : T.length ≤ x := by rw [h.1]; exact hx
    simp [this]
  rw [this]; rfl
theorem ent_out_col (h : Rect m n T) (x : Nat) {y : Nat} (hy : n ≤ y) : ent T x y = 0 := by
  by_cases hx : x < m
  · unfold ent
    have : (T.getD x []).length ≤ y := by rw [h.row hx]; exact hy
    simp only [List.getD_eq_getElem?_getD, List.getElem?_eq_none (by simpa only [List.getD_eq_getElem?_getD] using this)]
    rfl
  · exact ent_out_row h (by (first | lia | omega)) y
theorem wide_ent (h : Rect m n T) : E1.Wide (ent T) n := fun x y hy => ent_out_col h x hy
theorem toCh_ok {c : Bool × E1.RC} (h : E1.ok2 m n c) : (toCh c).ok m n := by
  obtain ⟨s, c⟩ := c
  cases c <;> cases s <;> exact h
theorem ent_toCh (h : Rect m n T) {c : Bool × E1.RC} (hc : E1.ok2 m n c) : ent ((toCh c).app T) = E1.app2 c (ent T) := by
  have hr := Ch.app_rect h (toCh_ok hc)
  funext x y
  obtain ⟨s, c⟩ := c
  by_cases hx : x < m
  · by_cases hy : y < n
    · cases s with
      | true =>
        cases c with
        | add i j q =>
          obtain ⟨h1, h2, h3⟩ := (show i < m ∧ j < m ∧ i ≠ j from hc)
          show ent ((Ch.add true i j q).app T) x y = E1.addR (ent T) i j q x y
          rw [ent_add_row h h1 h2 hy]; rfl
        | swap i j =>
          obtain ⟨h1, h2, h3⟩ := (show i < m ∧ j < m ∧ i ≠ j from hc)
          show ent ((Ch.swap true i j).app T) x y = ent T (E1.sw i j x) y
          rw [ent_swap_row h h1 h2]
          unfold E1.sw
          by_cases e1 : x = i
          · rw [if_pos e1, if_neg (by (first | lia | omega)), if_pos e1]
          · by_cases e2 : x = j
            · rw [if_pos e2, if_neg e1, if_pos e2]
            · rw [if_neg e2, if_neg e1, if_neg e1, if_neg e2]
        | turn i =>
          have h1 : i < m := hc
          show ent ((Ch.turn true i).app T) x y = E1.turnR (ent T) i x y
          rw [ent_turn_row h h1]; rfl
      | false =>
        cases c with
        | add i j q =>
          obtain ⟨h1, h2, h3⟩ := (show i < n ∧ j < n ∧ i ≠ j from hc)
          show ent ((Ch.add false i j q).app T) x y = E1.addR (E1.tipT (ent T)) i j q y x
          rw [ent_add_col h h1 hx]; rfl
        | swap i j =>
          obtain ⟨h1, h2, h3⟩ := (show i < n ∧ j < n ∧ i ≠ j from hc)
          show ent ((Ch.swap false i j).app T) x y = ent T x (E1.sw i j y)
          rw [ent_swap_col h h1 h2 hx]
          unfold E1.sw
          by_cases e1 : y = i
          · rw [if_pos e1, if_neg (by (first | lia | omega)), if_pos e1]
          · by_cases e2 : y = j
            · rw [if_pos e2, if_neg e1, if_pos e2]
            · rw [if_neg e2, if_neg e1, if_neg e1, if_neg e2]
        | turn i =>
          have h1 : i < n := hc
          show ent ((Ch.turn false i).app T) x y = E1.turnR (E1.tipT (ent T)) i y x
          rw [ent_turn_col h h1 hx]; rfl
    · rw [ent_out_col hr x (by (first | lia | omega))]
      have hz : ∀ x, ent T x y = 0 := fun x => ent_out_col h x (by (first | lia | omega))
      cases s with
      | true =>
        cases c with
        | add i j q => show 0 = E1.addR (ent T) i j q x y; unfold E1.addR; rw [hz, hz, hz]; split <;> simp
        | swap i j => exact (hz _).symm
        | turn i => show 0 = E1.turnR (ent T) i x y; unfold E1.turnR; rw [hz, hz]; split <;> rfl
      | false =>
        cases c with
        | add i j q =>
          obtain ⟨h1, h2, h3⟩ := (show i < n ∧ j < n ∧ i ≠ j from hc)
          show 0 = E1.addR (E1.tipT (ent T)) i j q y x
          unfold E1.addR; rw [if_neg (by (first | lia | omega))]; exact (hz x).symm
        | swap i j =>
          obtain ⟨h1, h2, h3⟩ := (show i < n ∧ j < n ∧ i ≠ j from hc)
          show 0 = ent T x (E1.sw i j y)
          unfold E1.sw; rw [if_neg (by (first | lia | omega)), if_neg (by (first | lia | omega))]; exact (hz x).symm
        | turn i =>
          have h1 : i < n := hc
          show 0 = E1.turnR (E1.tipT (ent T)) i y x
          unfold E1.turnR; rw [if_neg (by (first | lia | omega))]; exact (hz x).symm
  · rw [ent_out_row hr (by (first | lia | omega))]
    have hz : ∀ y, ent T x y = 0 := fun y => ent_out_row h (by (first | lia | omega)) y
    cases s with
    | true =>
      cases c with
      | add i j q =>
        obtain ⟨h1, h2, h3⟩ := (show i < m ∧ j < m ∧ i ≠ j from hc)
        show 0 = E1.addR (ent T) i j q x y
        unfold E1.addR; rw [if_neg (by (first | lia | omega))]; exact (hz y).symm
      | swap i j =>
        obtain ⟨h1, h2, h3⟩ := (show i < m ∧ j < m ∧ i ≠ j from hc)
        show 0 = ent T (E1.sw i j x) y
        unfold E1.sw; rw [if_neg (by (first | lia | omega)), if_neg (by (first | lia | omega))]; exact (hz y).symm
      | turn i =>
        have h1 : i < m := hc
        show 0 = E1.turnR (ent T) i x y
        unfold E1.turnR; rw [if_neg (by (first | lia | omega))]; exact (hz y).symm
    | false =>
      cases c with
      | add i j q => show 0 = E1.addR (E1.tipT (ent T)) i j q y x; unfold E1.addR E1.tipT; rw [hz, hz, hz]; split <;> simp
      | swap i j => exact (hz _).symm
      | turn i => show 0 = E1.turnR (E1.tipT (ent T)) i y x; unfold E1.turnR E1.tipT; rw [hz, hz]; split <;> rfl
theorem ent_apps : ∀ (L : List (Bool × E1.RC)) {T : Tb}, Rect m n T → (∀ c ∈ L, E1.ok2 m n c) → ent (apps (L.map toCh) T) = E1.apps2 L (ent T)
  | [], T, _, _ => rfl
  | c :: L, T, h, hok => by
    have hc := hok c List.mem_cons_self
    have e1 : apps ((c :: L).map toCh) T = apps (L.map toCh) ((toCh c).app T) := rfl
    have e2 : E1.apps2 (c :: L) (ent T) = E1.apps2 L (E1.app2 c (ent T)) := rfl
    rw [e1, e2, ent_apps L (Ch.app_rect h (toCh_ok hc)) (fun x hx => hok x (List.mem_cons_of_mem _ hx)), ent_toCh h hc]
def tipB (n : Nat) (T : Tb) : Tb := (List.range n).map fun j => T.map fun r => r.getD j 0
end
end X1

namespace X1
open PySem L2
def top (i : Nat) : Stmt := PySem.Challenge.pw_crosstable_k05_whole_sums_of_rows.main.body.getD i (.Pass ⟨0, 0, 0, 0⟩)
abbrev s_wall : Stmt := top 0
abbrev s_first_place : Stmt := top 2
theorem sc_first_place : FnScope ["row", "place", "number"] ["row"] (defScope s_first_place) := ⟨rfl, rfl, rfl, by decide +kernel, rfl, by decide +kernel, by decide +kernel⟩
abbrev s_build_stairs : Stmt := top 3
theorem sc_build_stairs : FnScope ["walk", "steps", "low", "top"] ["walk"] (defScope s_build_stairs) := ⟨rfl, rfl, rfl, by decide +kernel, rfl, by decide +kernel, by decide +kernel⟩
abbrev s_take_in : Stmt := top 4
theorem sc_take_in : FnScope ["walk", "steps", "low", "top", "place"] ["walk", "steps", "low"] (defScope s_take_in) := ⟨rfl, rfl, rfl, by decide +kernel, rfl, by decide +kernel, by decide +kernel⟩
abbrev s_lessen_row : Stmt := top 5
theorem sc_lessen_row : FnScope ["walk", "steps", "row", "start", "step"] ["walk", "steps", "row", "start"] (defScope s_lessen_row) := ⟨rfl, rfl, rfl, by decide +kernel, rfl, by decide +kernel, by decide +kernel⟩
abbrev s_lift : Stmt := top 6
theorem sc_lift : FnScope ["walk", "low", "top", "height", "row"] ["walk", "low", "top", "height"] (defScope s_lift) := ⟨rfl, rfl, rfl, by decide +kernel, rfl, by decide +kernel, by decide +kernel⟩
abbrev s_refuse_no_table : Stmt := top 12
theorem sc_refuse_no_table : FnScope ["table", "width", "row"] ["table"] (defScope s_refuse_no_table) := ⟨rfl, rfl, rfl, by decide +kernel, rfl, by decide +kernel, by decide +kernel⟩
abbrev s_copied : Stmt := top 13
theorem sc_copied : FnScope ["table"] ["table"] (defScope s_copied) := ⟨rfl, rfl, rfl, by decide +kernel, rfl, by decide +kernel, by decide +kernel⟩
abbrev s_change_by_row : Stmt := top 14
theorem sc_change_by_row : FnScope ["rows", "change", "one", "many"] ["rows", "change"] (defScope s_change_by_row) := ⟨rfl, rfl, rfl, by decide +kernel, rfl, by decide +kernel, by decide +kernel⟩
abbrev s_swap_parts : Stmt := top 15
theorem sc_swap_parts : FnScope ["parts", "one", "two", "kept"] ["parts", "one", "two"] (defScope s_swap_parts) := ⟨rfl, rfl, rfl, by decide +kernel, rfl, by decide +kernel, by decide +kernel⟩
abbrev s_how_often : Stmt := top 19
theorem sc_how_often : FnScope ["table", "row", "width", "rest"] ["table", "row"] (defScope s_how_often) := ⟨rfl, rfl, rfl, by decide +kernel, rfl, by decide +kernel, by decide +kernel⟩
abbrev s_tallied : Stmt := top 20
theorem sc_tallied : FnScope ["table"] ["table"] (defScope s_tallied) := ⟨rfl, rfl, rfl, by decide +kernel, rfl, by decide +kernel, by decide +kernel⟩
abbrev s_tally_of_one : Stmt := top 21
theorem sc_tally_of_one : FnScope ["total", "place"] ["total", "place"] (defScope s_tally_of_one) := ⟨rfl, rfl, rfl, by decide +kernel, rfl, by decide +kernel, by decide +kernel⟩
abbrev s_less_the_stairs : Stmt := top 22
theorem sc_less_the_stairs : FnScope ["table", "row", "walk", "rest", "top", "place", "stair", "times"] ["table", "row"] (defScope s_less_the_stairs) := ⟨rfl, rfl, rfl, by decide +kernel, rfl, by decide +kernel, by decide +kernel⟩
abbrev s_law_whole : Stmt := top 24
theorem sc_law_whole : FnScope ["_law_found"] ["_law_found"] (defScope s_law_whole) := ⟨rfl, rfl, rfl, by decide +kernel, rfl, by decide +kernel, by decide +kernel⟩
abbrev s_law_at : Stmt := top 25
theorem sc_law_at : FnScope ["_law_script", "_law_k"] ["_law_script", "_law_k"] (defScope s_law_at) := ⟨rfl, rfl, rfl, by decide +kernel, rfl, by decide +kernel, by decide +kernel⟩
abbrev s_law_sizes : Stmt := top 26
theorem sc_law_sizes : FnScope ["_law_script", "_law_way"] ["_law_script"] (defScope s_law_sizes) := ⟨rfl, rfl, rfl, by decide +kernel, rfl, by decide +kernel, by decide +kernel⟩
abbrev s_law_is_table : Stmt := top 27
theorem sc_law_is_table : FnScope ["_law_found", "_law_high", "_law_wide", "_law_row", "_law_number"] ["_law_found", "_law_high", "_law_wide"] (defScope s_law_is_table) := ⟨rfl, rfl, rfl, by decide +kernel, rfl, by decide +kernel, by decide +kernel⟩
abbrev s_law_copy : Stmt := top 28
theorem sc_law_copy : FnScope ["_law_table"] ["_law_table"] (defScope s_law_copy) := ⟨rfl, rfl, rfl, by decide +kernel, rfl, by decide +kernel, by decide +kernel⟩
abbrev s_law_spot : Stmt := top 29
theorem sc_law_spot : FnScope ["_law_side", "_law_place", "_law_k"] ["_law_side", "_law_place", "_law_k"] (defScope s_law_spot) := ⟨rfl, rfl, rfl, by decide +kernel, rfl, by decide +kernel, by decide +kernel⟩
abbrev s_law_walk : Stmt := top 30
theorem sc_law_walk : FnScope ["_law_table", "_law_change", "_law_many", "_law_k", "_law_here", "_law_number", "_law_there", "_law_other"] ["_law_table", "_law_change"] (defScope s_law_walk) := ⟨rfl, rfl, rfl, by decide +kernel, rfl, by decide +kernel, by decide +kernel⟩
abbrev s_law_walked : Stmt := top 31
theorem sc_law_walked : FnScope ["_law_table", "_law_changes", "_law_made", "_law_change"] ["_law_table", "_law_changes"] (defScope s_law_walked) := ⟨rfl, rfl, rfl, by decide +kernel, rfl, by decide +kernel, by decide +kernel⟩
abbrev s_law_change_of : Stmt := top 32
theorem sc_law_change_of : FnScope ["_law_cell", "_law_k", "_law_high", "_law_wide", "_law_side", "_law_many", "_law_one", "_law_way", "_law_two"] ["_law_cell", "_law_k", "_law_high", "_law_wide"] (defScope s_law_change_of) := ⟨rfl, rfl, rfl, by decide +kernel, rfl, by decide +kernel, by decide +kernel⟩
abbrev s_law_changes_by : Stmt := top 33
theorem sc_law_changes_by : FnScope ["_law_cells", "_law_high", "_law_wide"] ["_law_cells", "_law_high", "_law_wide"] (defScope s_law_changes_by) := ⟨rfl, rfl, rfl, by decide +kernel, rfl, by decide +kernel, by decide +kernel⟩
abbrev s_law_row_by : Stmt := top 34
theorem sc_law_row_by : FnScope ["_law_script", "_law_first", "_law_many", "_law_steps", "_law_row", "_law_last", "_law_k", "_law_factor"] ["_law_script", "_law_first", "_law_many"] (defScope s_law_row_by) := ⟨rfl, rfl, rfl, by decide +kernel, rfl, by decide +kernel, by decide +kernel⟩
abbrev s_law_laid : Stmt := top 35
theorem sc_law_laid : FnScope ["_law_row", "_law_high", "_law_wide", "_law_table", "_law_k"] ["_law_row", "_law_high", "_law_wide"] (defScope s_law_laid) := ⟨rfl, rfl, rfl, by decide +kernel, rfl, by decide +kernel, by decide +kernel⟩
abbrev s_law_goes : Stmt := top 36
theorem sc_law_goes : FnScope ["_law_one", "_law_other"] ["_law_one", "_law_other"] (defScope s_law_goes) := ⟨rfl, rfl, rfl, by decide +kernel, rfl, by decide +kernel, by decide +kernel⟩
abbrev s_law_numbers : Stmt := top 37
theorem sc_law_numbers : FnScope ["_law_found", "_law_due", "_law_k"] ["_law_found", "_law_due"] (defScope s_law_numbers) := ⟨rfl, rfl, rfl, by decide +kernel, rfl, by decide +kernel, by decide +kernel⟩
abbrev s_law_plain_row : Stmt := top 38
theorem sc_law_plain_row : FnScope ["_law_script", "_law_row", "_law_wide", "_law_plain", "_law_k", "_law_number", "_law_place"] ["_law_script", "_law_row", "_law_wide"] (defScope s_law_plain_row) := ⟨rfl, rfl, rfl, by decide +kernel, rfl, by decide +kernel, by decide +kernel⟩
abbrev s_law : Stmt := top 39
theorem sc_law : FnScope ["_law_script", "_law_high", "_law_wide", "_law_row", "_law_changes", "_law_table", "_law_plain", "_law_sum_it", "_law_k", "_law_across", "_law_wanted", "_law_handed", "_law_given", "_law_found", "_law_made"] ["_law_script"] (defScope s_law) := ⟨rfl, rfl, rfl, by decide +kernel, rfl, by decide +kernel, by decide +kernel⟩
abbrev s_Walk___init__ : Stmt := inClass (top 17) 0
theorem sc_Walk___init__ : FnScope ["self", "table"] ["self", "table"] (defScope s_Walk___init__) := ⟨rfl, rfl, rfl, by decide +kernel, rfl, by decide +kernel, by decide +kernel⟩
abbrev s_Walk_tip_over : Stmt := inClass (top 17) 1
abbrev s_Walk_make : Stmt := inClass (top 17) 2
theorem sc_Walk_make : FnScope ["self", "change"] ["self", "change"] (defScope s_Walk_make) := ⟨rfl, rfl, rfl, by decide +kernel, rfl, by decide +kernel, by decide +kernel⟩
abbrev s_Walk_add_times : Stmt := inClass (top 17) 3
theorem sc_Walk_add_times : FnScope ["self", "one", "two", "many"] ["self", "one", "two", "many"] (defScope s_Walk_add_times) := ⟨rfl, rfl, rfl, by decide +kernel, rfl, by decide +kernel, by decide +kernel⟩
abbrev s_Walk_swap_rows : Stmt := inClass (top 17) 4
theorem sc_Walk_swap_rows : FnScope ["self", "one", "two"] ["self", "one", "two"] (defScope s_Walk_swap_rows) := ⟨rfl, rfl, rfl, by decide +kernel, rfl, by decide +kernel, by decide +kernel⟩
abbrev s_Walk_turn_row : Stmt := inClass (top 17) 5
abbrev s_Walk_lessen : Stmt := inClass (top 17) 6
theorem sc_Walk_lessen : FnScope ["self", "one", "two", "place", "number", "part"] ["self", "one", "two", "place"] (defScope s_Walk_lessen) := ⟨rfl, rfl, rfl, by decide +kernel, rfl, by decide +kernel, by decide +kernel⟩
abbrev s_Walk_meet : Stmt := inClass (top 17) 7
theorem sc_Walk_meet : FnScope ["self", "top", "low", "place"] ["self", "top", "low", "place"] (defScope s_Walk_meet) := ⟨rfl, rfl, rfl, by decide +kernel, rfl, by decide +kernel, by decide +kernel⟩
def IsCh (H : Hp) (t : Addr) (c : Ch) : Prop := H t = some (.tup (chV c))
def IsChs (H : Hp) (l : Addr) (ts : List Addr) (cs : List Ch) : Prop := H l = some (.lst (ts.map V.ref)) ∧ Paired (IsCh H) ts cs
theorem pimp {α β : Type} {F G : α → β → Prop} : ∀ {l : List α} {l' : List β}, Paired F l l' → (∀ a b, F a b → G a b) → Paired G l l'
  | _, _, .nil, _ => .nil
  | _, _, .cons h t, f => .cons (f _ _ h) (pimp t f)
theorem IsChs.same {H H' : Hp} {l : Addr} {ts : List Addr} {cs : List Ch} (h : IsChs H l ts cs) (s : Same H H') : IsChs H' l ts cs :=
  ⟨s _ _ h.1, pimp h.2 fun _ _ e => s _ _ e⟩
theorem pget {α β : Type} {F : α → β → Prop} : ∀ {l : List α} {l' : List β} {i : Nat} {a : α}, Paired F l l' → l[i]? = some a → ∃ b, l'[i]? = some b ∧ F a b
  | _, _, _, _, .nil, e => by simp at e
  | _, _, 0, _, .cons h _, e => by simp at e; subst e; exact ⟨_, rfl, h⟩
  | _, _, i + 1, a, .cons _ t, e => by
    obtain ⟨b, h1, h2⟩ := pget (i := i) (a := a) t (by simpa using e)
    exact ⟨b, by simpa using h1, h2⟩
theorem mref {rs : List Addr} {i : Nat} {y : V} (h : (rs.map V.ref)[i]? = some y) : ∃ r, rs[i]? = some r ∧ y = .ref r := by
  rw [List.getElem?_map] at h
  cases e : rs[i]? with
  | none => rw [e] at h; cases h
  | some r => rw [e] at h; exact ⟨r, rfl, (Option.some.inj h).symm⟩
theorem mint {xs : List Int} {i : Nat} {y : V} (h : (xs.map V.int)[i]? = some y) : ∃ r, xs[i]? = some r ∧ y = .int r := by
  rw [List.getElem?_map] at h
  cases e : xs[i]? with
  | none => rw [e] at h; cases h
  | some r => rw [e] at h; exact ⟨r, rfl, (Option.some.inj h).symm⟩
theorem rget {rs : List Addr} {i : Nat} {r : Addr} (h : rs[i]? = some r) : (rs.map V.ref)[i]? = some (.ref r) := by rw [List.getElem?_map, h]; rfl
theorem iget {xs : List Int} {i : Nat} {x : Int} (h : xs[i]? = some x) : (xs.map V.int)[i]? = some (.int x) := by rw [List.getElem?_map, h]; rfl
theorem ixN_nat {n i : Nat} (h : i < n) : ixN n (i : Int) = some i := by
  unfold ixN
  rw [if_pos (Int.natCast_nonneg i), if_pos (by (first | lia | omega))]
  simp
inductive RowAt (H : Hp) (rs : List Addr) (T : Tb) (i n : Nat) : Prop
  | mk (r : Addr) (_ : rs[i]? = some r) (_ : T[i]? = some (T.getD i [])) (_ : IsRow H r (T.getD i [])) (_ : (T.getD i []).length = n) : RowAt H rs T i n
theorem _root_.L2.TabAt.at {H : Hp} {a : Addr} {rs : List Addr} {T : Tb} {m n i : Nat} (t : TabAt H a rs T) (hr : Rect m n T) (hi : i < m) : RowAt H rs T i n := by
  have hl : i < T.length := by rw [hr.1]; exact hi
  have e : T[i]? = some (T.getD i []) := by simp [hl]
  obtain ⟨r, h1, h2⟩ := t.tab.2.get e
  exact ⟨r, h1, e, h2, hr.row hi⟩
theorem _root_.L2.TabAt.len {H : Hp} {a : Addr} {rs : List Addr} {T : Tb} {m n : Nat} (t : TabAt H a rs T) (hr : Rect m n T) : rs.length = m := by rw [t.tab.2.length, hr.1]
theorem getD_some {row : List Int} {j n : Nat} (hl : row.length = n) (hj : j < n) : row[j]? = some (row.getD j 0) := by
  have : j < row.length := by (first | lia | omega)
  simp [this]
theorem _root_.L2.TabAt.put {H H2 : Hp} {a D : Addr} {rs : List Addr} {T : Tb} {i : Nat} {row : List Int} (t : TabAt H a rs T) (s : Same H H2) (hD : H2 D = none) :
    TabAt (upd (upd H2 D (.lst (row.map V.int))) a (.lst ((rs.map V.ref).set i (.ref D)))) a (rs.set i D) (T.set i row) ∧
    Stay H (upd (upd H2 D (.lst (row.map V.int))) a (.lst ((rs.map V.ref).set i (.ref D)))) (a :: rs) ∧ ∀ b ∈ rs.set i D, b ∈ rs ∨ H b = none := by
  have nd := List.nodup_cons.mp t.nd
  have fD : H D = none := s.free hD
  have hDa : D ≠ a := (ne_of_none t.tab.1 fD).symm
  have hDr : D ∉ rs := fun z => by
    obtain ⟨row', e⟩ := t.tab.2.tracked D z
    rw [IsRow, fD] at e; cases e
  have hmem : ∀ b ∈ rs.set i D, b ∈ rs ∨ b = D := fun b hb => List.mem_or_eq_of_mem_set hb
  refine ⟨⟨⟨?_, ?_⟩, ?_⟩, fun b o e hb => ?_, fun b hb => ?_⟩
  · rw [upd_same, List.map_set]
  · have h1 : IsRows (upd (upd H2 D (.lst (row.map V.int))) a (.lst ((rs.map V.ref).set i (.ref D)))) rs T := t.tab.2.imp fun r hr o e => by
      have hra : r ≠ a := by rintro rfl; exact nd.1 hr
      have hrD : r ≠ D := by rintro rfl; exact hDr hr
      rw [upd_ne hra, upd_ne hrD]; exact s r o e
    refine h1.put ?_
    show upd _ a _ D = _
    rw [upd_ne hDa, upd_same]
  · refine List.nodup_cons.mpr ⟨fun z => ?_, ?_⟩
    · rcases hmem a z with z | z
      · exact nd.1 z
      · exact hDa z.symm
    · exact (nodup_set nd.2 hDr)
  · have hba : b ≠ a := fun z => hb (by rw [z]; exact List.mem_cons_self)
    rw [upd_ne hba, upd_ne (ne_of_none e fD)]; exact s b o e
  · rcases hmem b hb with z | z
    · exact .inl z
    · exact .inr (by rw [z]; exact fD)
where
  nodup_set : ∀ {rs : List Addr} {i : Nat} {D : Addr}, rs.Nodup → D ∉ rs → (rs.set i D).Nodup
    | [], _, _, h, _ => h
    | r :: rs, 0, D, h, hD => List.nodup_cons.mpr ⟨fun z => hD (List.mem_cons_of_mem _ z), (List.nodup_cons.mp h).2⟩
    | r :: rs, i + 1, D, h, hD => by
      refine List.nodup_cons.mpr ⟨fun z => ?_, nodup_set (List.nodup_cons.mp h).2 fun z => hD (List.mem_cons_of_mem _ z)⟩
      rcases List.mem_or_eq_of_mem_set z with z | z
      · exact (List.nodup_cons.mp h).1 z
      · exact hD (by rw [z]; exact List.mem_cons_self)
section
variable {P : Program} {w : World} {K : PySem.W.Frag} {mg : Str → Option Value} {base : Heap}
inductive SpSwap (vs : List V) (H : Hp) (Q : VK) : Prop
  | mk (p : Addr) (xs : List V) (i j : Nat) (x y : V) (_ : vs = [.ref p, .int i, .int j]) (_ : H p = some (.lst xs)) (_ : xs[i]? = some x) (_ : xs[j]? = some y) (_ : Q .non (upd H p (.lst ((xs.set i y).set j x)))) : SpSwap vs H Q
def spSwap : Sp := fun vs H Q _ => SpSwap vs H Q
theorem ok_swap_parts (D : DefAt K mg "swap_parts" s_swap_parts ["parts", "one", "two"]) (T : Bt mg) : Callee P w K mg base 1 "swap_parts" ["parts", "one", "two"] spSwap := by
  refine D.ok (k := 0) sc_swap_parts (fun vs H Q E h => ?_) (fun f cdv A outer s H vs Q E hr h => ?_)
  · obtain ⟨_, _, _, _, _, _, rfl, _⟩ := h
    rfl
  · obtain ⟨p, xs, i, j, x, y, rfl, hp, hx, hy, k⟩ := h
    refine ⟨_, (pss_cons (ps_set (i := 3) sc_swap_parts.nd rfl (Or.inl rfl) (pe_ix ix_list (pv 0) (pv 1) (fun _ _ => rfl)))
        (pss_cons (ps_asg (pe_ix ix_list (pv 0) (pv 2) (fun _ _ => rfl)) (pg_sub (pv 0) (pv 1) set_list))
        (pss_one (ps_asg (pv 3) (pg_sub (pv 0) (pv 2) set_list))))), ?_⟩
    have hi : i < xs.length := (List.getElem?_eq_some_iff.mp hx).1
    have hj : j < xs.length := (List.getElem?_eq_some_iff.mp hy).1
    refine ⟨_, rfl, _, rfl, p, xs, _, x, rfl, rfl, SqL.of hp, atI_nat hx, ?_⟩
    refine ⟨_, rfl, _, rfl, p, xs, _, y, rfl, rfl, SqL.of hp, atI_nat hy, ?_⟩
    refine ⟨_, rfl, _, rfl, p, xs, _, i, rfl, rfl, hp, ixN_nat hi, ?_⟩
    refine ⟨_, rfl, _, rfl, _, rfl, p, _, _, j, rfl, rfl, upd_same, ixN_nat (by rw [List.length_set]; exact hj), ?_⟩
    rw [upd_upd]
    exact k
inductive SpRefT (vs : List V) (H : Hp) (Q : VK) : Prop
  | mk (a : Addr) (rs : List Addr) (T : Tb) (m n : Nat) (_ : vs = [.ref a]) (_ : TabAt H a rs T) (_ : Rect (m + 1) (n + 1) T) (_ : Q .non H) : SpRefT vs H Q
def spRefT : Sp := fun vs H Q _ => SpRefT vs H Q
theorem ok_refuse_no_table (D : DefAt K mg "refuse_no_table" s_refuse_no_table ["table"]) (T : Bt mg) : Callee P w K mg base 1 "refuse_no_table" ["table"] spRefT := by
  refine D.ok (k := 0) sc_refuse_no_table (fun vs H Q E h => ?_) (fun f cdv A outer s H vs Q E hr h => ?_)
  · obtain ⟨_, _, _, _, _, rfl, _⟩ := h
    rfl
  · obtain ⟨a, rs, Tt, m, n, rfl, ht, hr', k⟩ := h
    refine ⟨_, (pss_cons (ps_if (pt_cmpR op_eq (pe_callB call_len_seq rfl T.len bt_len (pa_cons (pv 0) pa_nil)) pe_int (nomark _)) (pss_one ps_never) pss_nil)
        (pss_cons (ps_set (i := 1) sc_refuse_no_table.nd rfl (Or.inl rfl) (pe_callB call_len_seq rfl T.len bt_len (pa_cons (pe_ix ix_list (pv 0) pe_int (fun _ _ => rfl)) pa_nil)))
        (pss_cons (ps_if (pt_cmpR op_eq (pv 1) pe_int (nomark _)) (pss_one ps_never) pss_nil)
        (pss_one (ps_for PassesOwn.never rfl (pi_list (pv 0)) (pg_name (i := 2) sc_refuse_no_table.nd rfl (Or.inl rfl)) (pss_one (ps_if (pt_cmpR op_ne (pe_callB call_len_seq rfl T.len bt_len (pa_cons (pv 2) pa_nil)) (pv 1) (nomark _)) (pss_one ps_never) pss_nil))))))), ?_⟩
    have hl := ht.len hr'
    obtain ⟨r0, e0, _, hr0, hl0⟩ := ht.at hr' (Nat.succ_pos m)
    have h1 := ht.tab.1
    refine ⟨_, rfl, a, _, rfl, .inl (SqL.of h1), rfl, _, rfl, iteN (v_ne (by rw [List.length_map, hl]; (first | lia | omega))) ?_⟩
    refine ⟨_, rfl, a, _, _, _, rfl, rfl, SqL.of h1, atI_nat (j := 0) (rget e0), r0, _, rfl, .inl (SqL.of hr0), ?_⟩
    refine ⟨_, rfl, rfl, _, rfl, iteN (v_ne (by rw [List.length_map, hl0]; (first | lia | omega))) ?_⟩
    refine ⟨_, rfl, a, rfl, ⟨_, SqL.of h1⟩, for_list (K := K) (a := a) (xs := rs.map V.ref) (fun i σ H2 => H2 = H ∧ ∃ v, σ = [some (.ref a), some (.int (((Tt.getD 0 []).map V.int).length : Nat)), v]) ⟨rfl, none, rfl⟩ (fun i σ H2 _ h => by rw [h.1]; exact SqL.of h1) ?_ ?_⟩
    · rintro i y σ H2 hi ⟨rfl, v, rfl⟩
      obtain ⟨r, er, rfl⟩ := mref hi
      have him : i < m + 1 := by rw [← hl]; exact (List.getElem?_eq_some_iff.mp er).1
      obtain ⟨r', er', _, hrow, hlrow⟩ := ht.at hr' him
      rw [er] at er'; cases er'
      refine ⟨_, rfl, r, _, rfl, .inl (SqL.of hrow), _, rfl, rfl, _, rfl, iteNS ?_ ?_⟩
      · rw [List.length_map, List.length_map, hlrow, hl0]
      · exact ⟨rfl, _, rfl⟩
    · rintro σ H2 ⟨rfl, _⟩
      exact k
inductive SpCopy (vs : List V) (H : Hp) (Q : VK) : Prop
  | mk (a : Addr) (rs : List Addr) (T : Tb) (_ : vs = [.ref a]) (_ : TabAt H a rs T) (_ : T.length ≤ 1000) (_ : ∀ (p : Addr) (qs : List Addr) (H' : Hp), Same H H' → TabAt H' p qs T → (∀ b ∈ p :: qs, H b = none) → Q (.ref p) H') : SpCopy vs H Q
def spCopy : Sp := fun vs H Q _ => SpCopy vs H Q
structure CopyAt (H H2 : Hp) (qs : List Addr) (T : Tb) : Prop where
  same : Same H H2
  rows : IsRows H2 qs T
  nd : qs.Nodup
  new : ∀ b ∈ qs, H b = none
theorem CopyAt.start (H : Hp) : CopyAt H H [] [] := ⟨Same.refl H, .nil, List.nodup_nil, fun _ h => nomatch h⟩
theorem psnoc {α β : Type} {F : α → β → Prop} {a : α} {b : β} : ∀ {l : List α} {l' : List β}, Paired F l l' → F a b → Paired F (l ++ [a]) (l' ++ [b])
  | _, _, .nil, h => .cons h .nil
  | _, _, .cons h t, h' => .cons h (psnoc t h')
theorem CopyAt.more {H H2 : Hp} {qs : List Addr} {T : Tb} {p : Addr} {row : List Int} (c : CopyAt H H2 qs T) (hp : H2 p = none) : CopyAt H (upd H2 p (.lst (row.map V.int))) (qs ++ [p]) (T ++ [row]) := by
  have hq : p ∉ qs := fun z => by
    obtain ⟨r, e⟩ := c.rows.tracked p z
    rw [IsRow, hp] at e; cases e
  refine ⟨c.same.laid hp, psnoc (c.rows.imp fun r hr o e => ?_) upd_same, ?_, fun b hb => ?_⟩
  · have : r ≠ p := by rintro rfl; exact hq hr
    rw [upd_ne this]; exact e
  · refine List.nodup_append.mpr ⟨c.nd, by simp, fun a ha b hb => ?_⟩
    have : b = p := by simpa using hb
    subst this
    rintro rfl; exact hq ha
  · rcases List.mem_append.mp hb with z | z
    · exact c.new b z
    · have : b = p := by simpa using z
      subst this
      exact c.same.free hp
theorem CopyAt.done {H H2 : Hp} {qs : List Addr} {T : Tb} {p : Addr} (c : CopyAt H H2 qs T) (hp : H2 p = none) : Same H (upd H2 p (.lst (qs.map V.ref))) ∧ TabAt (upd H2 p (.lst (qs.map V.ref))) p qs T ∧ ∀ b ∈ p :: qs, H b = none := by
  have hq : p ∉ qs := fun z => by
    obtain ⟨r, e⟩ := c.rows.tracked p z
    rw [IsRow, hp] at e; cases e
  refine ⟨c.same.laid hp, ⟨⟨upd_same, c.rows.imp fun r hr o e => ?_⟩, List.nodup_cons.mpr ⟨hq, c.nd⟩⟩, fun b hb => ?_⟩
  · have : r ≠ p := by rintro rfl; exact hq hr
    rw [upd_ne this]; exact e
  · rcases List.mem_cons.mp hb with rfl | z
    · exact c.same.free hp
    · exact c.new b z
theorem ok_copied (D : DefAt K mg "copied" s_copied ["table"]) (T : Bt mg) : Callee P w K mg base 1 "copied" ["table"] spCopy := by
  refine D.ok (k := 0) sc_copied (fun vs H Q E h => ?_) (fun f cdv A outer s H vs Q E hr h => ?_)
  · obtain ⟨_, _, _, rfl, _⟩ := h
    rfl
  · obtain ⟨a, rs, Tt, rfl, ht, hz, k⟩ := h
    refine ⟨_, (pss_one (ps_ret (pe_comp (N := ["row"]) (cap := []) (k := 1) (CompScope.mk' (defScope s_copied) ["table"] rfl rfl (by decide +kernel)) rfl (pi_list (pv 0)) (fun _ _ _ _ => (pg_name (i := 0) (show (["row"] : List Str).Nodup by decide +kernel) rfl (Or.inl rfl))) (fun _ _ _ _ => (pe_callTy (call_list_ofK (K := K) rfl) rfl T.list bt_list (pa_cons (pv 0) pa_nil)))))), ?_⟩
    have h1 := ht.tab.1
    have hlen := ht.tab.2.length
    refine ⟨_, rfl, a, rfl, ⟨_, SqL.of h1⟩, comp_list (K := K) (a := a) (xs := rs.map V.ref) (fun i ys H2 => ∃ qs, ys = qs.map V.ref ∧ qs.length = i ∧ i ≤ Tt.length ∧ CopyAt H H2 qs (Tt.take i)) (by rw [List.length_map, hlen]; exact Nat.le_trans hz (by decide)) ⟨[], rfl, rfl, Nat.zero_le _, by simpa using CopyAt.start H⟩ (fun i ys H2 ⟨qs, e, e2, _⟩ => by rw [e, List.length_map, e2]) (fun i ys H2 _ ⟨qs, _, _, _, c⟩ => SqL.of (c.same _ _ h1)) ?_ ?_⟩
    · rintro i x ys H2 hx ⟨qs, rfl, hq, hi, c⟩
      obtain ⟨r, er, rfl⟩ := mref hx
      obtain ⟨row, erow, hrow⟩ := pget ht.tab.2 er
      refine ⟨rfl, _, rfl, r, _, rfl, .inl (SqL.of (c.same _ _ hrow)), fun l hl => ?_⟩
      have hlt : i < Tt.length := (List.getElem?_eq_some_iff.mp erow).1
      refine ⟨qs ++ [l], by rw [List.map_append]; rfl, by rw [List.length_append, hq]; rfl, hlt, ?_⟩
      have e : Tt.take (i + 1) = Tt.take i ++ [row] := by rw [List.take_succ, erow]; rfl
      rw [e]
      exact c.more hl
    · rintro ys H2 ⟨qs, rfl, hq, hi, c⟩ p hp
      rw [List.length_map, hlen, List.take_length] at c
      obtain ⟨q1, q2, q3⟩ := c.done hp
      exact k p qs _ q1 q2 q3
end
end X1

namespace X1
open PySem L2
theorem sd_row (s : Bool) : decide (V.str (sd s) = V.str "row") = s := by
  cases s
  · exact decide_eq_false (by decide +kernel)
  · exact decide_eq_true rfl
theorem sd_col (s : Bool) : decide (V.str (sd s) = V.str "column") = !s := by
  cases s
  · exact decide_eq_true rfl
  · exact decide_eq_false (by decide +kernel)
def Ch.word : Ch → Str
  | .add _ _ _ _ => "add"
  | .swap _ _ _ => "swap"
  | .turn _ _ => "turn"
def Ch.parts : Ch → List Int
  | .add _ i j q => [i, j, q]
  | .swap _ i j => [i, j]
  | .turn _ i => [i]
theorem ne_swap_add : ¬ V.str "swap" = V.str "add" := by decide +kernel
theorem ne_turn_add : ¬ V.str "turn" = V.str "add" := by decide +kernel
theorem ne_turn_swap : ¬ V.str "turn" = V.str "swap" := by decide +kernel
theorem swap_perm {rs : List Addr} {i j : Nat} {a b : Addr} (hi : rs[i]? = some a) (hj : rs[j]? = some b) : ((rs.set i b).set j a).Perm rs := by
  obtain ⟨h1, e1⟩ := List.getElem?_eq_some_iff.mp hi
  obtain ⟨h2, e2⟩ := List.getElem?_eq_some_iff.mp hj
  subst e1 e2
  exact List.set_set_perm h1 h2
def Ch.rowd : Ch → Ch
  | .add _ i j q => .add true i j q
  | .swap _ i j => .swap true i j
  | .turn _ i => .turn true i
def Ch.fits (B : Nat) : Ch → Prop
  | .add _ _ _ q => q.natAbs ≤ 2 ^ B
  | _ => True
theorem cell_of {T : Tb} {i j : Nat} {v : Int} (h : (T.getD i [])[j]? = some v) : v = ent T i j := by
  unfold ent
  rw [List.getD_eq_getElem?_getD (l := T.getD i []), h]; rfl
structure Fill (H H2 : Hp) (l : Addr) (qs : List Addr) (T : Tb) : Prop where
  same : Same H H2
  tab : TabAt H2 l qs T
  new : H l = none
theorem Fill.more {H H2 H3 : Hp} {l r : Addr} {qs : List Addr} {T : Tb} {row : List Int} (md : Fill H H2 l qs T) (s : Same H2 H3) (hr : IsRow H3 r row) (hn : H2 r = none) : Fill H (upd H3 l (.lst (qs.map V.ref ++ [.ref r]))) l (qs ++ [r]) (T ++ [row]) := by
  have nd := List.nodup_cons.mp md.tab.nd
  have hrl : r ≠ l := (ne_of_none md.tab.tab.1 hn).symm
  have hrq : r ∉ qs := fun z => by
    obtain ⟨w, e⟩ := md.tab.tab.2.tracked r z
    rw [IsRow, hn] at e; cases e
  refine ⟨fun b o e => ?_, ⟨⟨?_, ?_⟩, ?_⟩, md.new⟩
  · have hb : b ≠ l := fun z => by rw [z, md.new] at e; cases e
    rw [upd_ne hb]; exact s _ _ (md.same _ _ e)
  · rw [upd_same, List.map_append]; rfl
  · refine psnoc (md.tab.tab.2.imp fun b hb o e => ?_) ?_
    · have hbl : b ≠ l := by rintro rfl; exact nd.1 hb
      rw [upd_ne hbl]; exact s _ _ e
    · show upd H3 l _ r = _
      rw [upd_ne hrl]; exact hr
  · refine List.nodup_cons.mpr ⟨fun z => ?_, List.nodup_append.mpr ⟨nd.2, by simp, fun x hx y hy => ?_⟩⟩
    · rcases List.mem_append.mp z with z | z
      · exact nd.1 z
      · have e : l = r := by simpa using z
        exact hrl e.symm
    · have : y = r := by simpa using hy
      subst this
      rintro rfl; exact hrq hx
theorem Rect.snoc {m n : Nat} {T : Tb} {row : List Int} (h : Rect m n T) (hr : row.length = n) : Rect (m + 1) n (T ++ [row]) :=
  ⟨by rw [List.length_append, h.1]; rfl, fun q hq => by
    rcases List.mem_append.mp hq with z | z
    · exact h.2 q z
    · have : q = row := by simpa using z
      rw [this]; exact hr⟩
section
variable {P : Program} {w : World} {K : PySem.W.Frag} {mg : Str → Option Value} {base : Heap}
inductive SpRow (B : Nat) (vs : List V) (H : Hp) (Q : VK) : Prop
  | mk (a t : Addr) (rs : List Addr) (T : Tb) (m n : Nat) (c : Ch) (_ : vs = [.ref a, .ref t]) (_ : TabAt H a rs T) (_ : Rect m n T) (_ : n ≤ 1000) (_ : IsCh H t c) (_ : c.rowd.ok m n) (_ : c.fits B) (_ : E1.Le B (ent T)) (_ : ∀ (qs : List Addr) (H' : Hp), TabAt H' a qs (c.rowd.app T) → Stay H H' (a :: rs) → (∀ b ∈ qs, b ∈ rs ∨ H b = none) → Q .non H') : SpRow B vs H Q
def spRow (B : Nat) : Sp := fun vs H Q _ => SpRow B vs H Q
theorem take_zip {f : Int → Int → Int} {xs ys : List Int} {i : Nat} {x y : Int} (hx : xs[i]? = some x) (hy : ys[i]? = some y) : (List.zipWith f xs ys).take (i + 1) = (List.zipWith f xs ys).take i ++ [f x y] := by
  rw [List.take_succ, List.getElem?_zipWith, hx, hy]; rfl
theorem take_map {f : Int → Int} {xs : List Int} {i : Nat} {x : Int} (hx : xs[i]? = some x) : (xs.map f).take (i + 1) = (xs.map f).take i ++ [f x] := by
  rw [List.take_succ, List.getElem?_map, hx]; rfl
theorem ok_change_by_row {B : Nat} (hB : B ≤ 33554432) (D : DefAt K mg "change_by_row" s_change_by_row ["rows", "change"]) (T : Bt mg) (C_swap_parts : Callee P w K mg base 1 "swap_parts" ["parts", "one", "two"] spSwap) : Callee P w K mg base 2 "change_by_row" ["rows", "change"] (spRow B) := by
  refine D.ok (k := 1) sc_change_by_row (fun vs H Q E h => ?_) (fun f cdv A outer s H vs Q E hr h => ?_)
  · obtain ⟨_, _, _, _, _, _, _, rfl, _⟩ := h
    rfl
  · obtain ⟨a, t, rs, Tt, m, n, c, rfl, ht, hr', hn, hc, hok, hsm, hle, k⟩ := h
    refine ⟨_, (pss_cons (ps_set (i := 2) sc_change_by_row.nd rfl (Or.inl rfl) (pe_ix ix_tup (pv 1) pe_int (fun _ _ => rfl)))
        (pss_one (ps_if (pt_cmpR op_eq (pe_ix ix_tup (pv 1) pe_int (fun _ _ => rfl)) pe_str (nomark _)) (pss_cons (ps_set (i := 3) sc_change_by_row.nd rfl (Or.inr rfl) (pe_ix ix_tup (pv 1) pe_int (fun _ _ => rfl)))
        (pss_one (ps_asg (pe_comp (N := ["many", "number", "other"]) (cap := [3]) (k := 2) (CompScope.mk' (defScope s_change_by_row) ["rows", "change", "one", "many"] rfl rfl (by decide +kernel)) rfl (pi_zip rfl T.zip (pa_cons (pe_ix ix_list (pv 0) (pv 2) (fun _ _ => rfl)) (pa_cons (pe_ix ix_list (pv 0) (pe_ix ix_tup (pv 1) pe_int (fun _ _ => rfl)) (fun _ _ => rfl)) pa_nil))) (fun _ _ _ _ => (pg_tupK (K := K) (n := 2) rfl rfl (pgs_cons (pg_name (i := 1) (show (["many", "number", "other"] : List Str).Nodup by decide +kernel) rfl (Or.inl rfl)) (pgs_cons (pg_name (i := 2) (show (["many", "number", "other"] : List Str).Nodup by decide +kernel) rfl (Or.inl rfl)) pgs_nil)))) (fun _ _ _ _ => (pe_op op_add (pv 1) (pe_op (op_mulB B hB) (pv 0) (pv 2))))) (pg_sub (pv 0) (pv 2) set_list)))) (pss_one (ps_if (pt_cmpR op_eq (pe_ix ix_tup (pv 1) pe_int (fun _ _ => rfl)) pe_str (nomark _)) (pss_one (ps_expr (pe_callC C_swap_parts (hr.mono (by decide)) rfl (pa_cons (pv 0) (pa_cons (pv 2) (pa_cons (pe_ix ix_tup (pv 1) pe_int (fun _ _ => rfl)) pa_nil)))))) (pss_one (ps_asg (pe_comp (N := ["number"]) (cap := []) (k := 1) (CompScope.mk' (defScope s_change_by_row) ["rows", "change", "one", "many"] rfl rfl (by decide +kernel)) rfl (pi_list (pe_ix ix_list (pv 0) (pv 2) (fun _ _ => rfl))) (fun _ _ _ _ => (pg_name (i := 0) (show (["number"] : List Str).Nodup by decide +kernel) rfl (Or.inl rfl))) (fun _ _ _ _ => (pe_un un_neg (pv 0)))) (pg_sub (pv 0) (pv 2) set_list)))))))), ?_⟩
    have hl := ht.len hr'
    have h1 := ht.tab.1
    cases c with
    | add sd i j q =>
      obtain ⟨hi, hj, hij⟩ := hok
      have hi : i < m := hi
      have hj : j < m := hj
      obtain ⟨ri, ei, _, hri, hli⟩ := ht.at hr' hi
      obtain ⟨rj, ej, _, hrj, hlj⟩ := ht.at hr' hj
      have hci : i < (rs.map V.ref).length := by rw [List.length_map, hl]; exact hi
      refine ⟨_, rfl, t, _, _, _, rfl, rfl, SqT.of hc, rfl, ?_⟩
      refine ⟨_, rfl, t, _, _, _, rfl, rfl, SqT.of hc, rfl, rfl, _, rfl, iteP rfl ?_⟩
      refine ⟨_, rfl, t, _, _, _, rfl, rfl, SqT.of hc, rfl, ?_⟩
      refine ⟨_, rfl, _, rfl, a, _, _, _, rfl, rfl, SqL.of h1, atI_nat (rget ei), _, rfl, _, rfl, t, _, _, _, rfl, rfl, SqT.of hc, rfl, a, _, _, _, rfl, rfl, SqL.of h1, atI_nat (rget ej), ri, rj, _, _, rfl, SqL.of hri, SqL.of hrj, ?_⟩
      refine comp_it (J := Itz K ri rj) (n := n) (fun i' ys H2 => Same H H2 ∧ i' ≤ n ∧ ys = ((List.zipWith (fun x y => x + q * y) (Tt.getD i []) (Tt.getD j [])).take i').map V.int) (Nat.le_trans hn (by decide)) ⟨Same.refl H, Nat.zero_le _, by simp⟩ (fun i' ys H2 ⟨_, hle, e⟩ => by rw [e, List.length_map, List.length_take, List.length_zipWith, hli, hlj]; (first | lia | omega))
        (fun i' ys H2 hlt ⟨sm, _, _⟩ => ⟨_, _, SqL.of (sm _ _ hri), SqL.of (sm _ _ hrj), by rw [List.length_map, hli]; exact hlt, by rw [List.length_map, hlj]; exact hlt⟩)
        (fun ys H2 ⟨sm, _, _⟩ => ⟨_, _, SqL.of (sm _ _ hri), SqL.of (sm _ _ hrj), .inl (by rw [List.length_map, hli]; exact Nat.le_refl _)⟩) ?_ ?_
      · rintro i' x ys H2 H3 hlt ⟨sm, _, rfl⟩ ⟨p, u, v, rfl, hp, rfl, hu, hv⟩
        have hu := hu _ (SqL.of (sm _ _ hri))
        have hv := hv _ (SqL.of (sm _ _ hrj))
        obtain ⟨u', eu, rfl⟩ := mint hu
        obtain ⟨v', ev, rfl⟩ := mint hv
        refine ⟨p, _, rfl, SqT.of upd_same, rfl, _, _, rfl, _, _, rfl, rfl, rfl, ?_⟩
        refine ⟨_, rfl, _, rfl, _, rfl, _, _, rfl, rfl, ⟨hsm, by rw [cell_of ev]; exact hle j i'⟩, _, _, rfl, rfl, sm.laid hp, hlt, ?_⟩
        rw [take_zip eu ev, List.map_append]
        rfl
      · rintro ys H2 ⟨sm, _, rfl⟩ p hp
        have e : (List.zipWith (fun x y => x + q * y) (Tt.getD i []) (Tt.getD j [])).take n = List.zipWith (fun x y => x + q * y) (Tt.getD i []) (Tt.getD j []) := List.take_of_length_le (by rw [List.length_zipWith, hli, hlj]; (first | lia | omega))
        rw [e]
        have hpa : a ≠ p := ne_of_none (sm _ _ h1) hp
        refine ⟨_, rfl, _, rfl, a, _, _, i, rfl, rfl, by rw [upd_ne hpa]; exact sm _ _ h1, ixN_nat hci, ?_⟩
        obtain ⟨q1, q2, q3⟩ := ht.put (i := i) (row := List.zipWith (fun x y => x + q * y) (Tt.getD i []) (Tt.getD j [])) sm hp
        exact k _ _ q1 q2 q3
    | swap sd i j =>
      obtain ⟨hi, hj, hij⟩ := hok
      have hi : i < m := hi
      have hj : j < m := hj
      obtain ⟨ri, ei, ti, hri, hli⟩ := ht.at hr' hi
      obtain ⟨rj, ej, tj, hrj, hlj⟩ := ht.at hr' hj
      refine ⟨_, rfl, t, _, _, _, rfl, rfl, SqT.of hc, rfl, ?_⟩
      refine ⟨_, rfl, t, _, _, _, rfl, rfl, SqT.of hc, rfl, rfl, _, rfl, iteN ne_swap_add ?_⟩
      refine ⟨_, rfl, t, _, _, _, rfl, rfl, SqT.of hc, rfl, rfl, _, rfl, iteP rfl ?_⟩
      refine ⟨_, rfl, _, rfl, _, rfl, t, _, _, _, rfl, rfl, SqT.of hc, rfl, a, _, i, j, _, _, rfl, h1, rget ei, rget ej, ?_⟩
      have nd := List.nodup_cons.mp ht.nd
      have eR : ((rs.map V.ref).set i (.ref rj)).set j (.ref ri) = ((rs.set i rj).set j ri).map V.ref := by rw [List.map_set, List.map_set]
      have perm : ((rs.set i rj).set j ri).Perm rs := swap_perm ei ej
      have mem : ∀ b, b ∈ (rs.set i rj).set j ri ↔ b ∈ rs := fun b => perm.mem_iff
      refine k ((rs.set i rj).set j ri) _ ⟨⟨?_, ?_⟩, ?_⟩ (fun b o e hb => ?_) (fun b hb => .inl ((mem b).mp hb))
      · rw [upd_same, eR]
      · refine (((ht.tab.2.put (i := i) hrj).put (i := j) hri)).imp fun r hrr o e => ?_
        have : r ≠ a := by rintro rfl; exact nd.1 ((mem r).mp hrr)
        rw [upd_ne this]; exact e
      · exact List.nodup_cons.mpr ⟨fun z => nd.1 ((mem a).mp z), perm.nodup_iff.mpr nd.2⟩
      · rw [upd_ne (fun z => hb (by rw [z]; exact List.mem_cons_self))]; exact e
    | turn sd i =>
      have hi : i < m := hok
      obtain ⟨ri, ei, ti, hri, hli⟩ := ht.at hr' hi
      have hci : i < (rs.map V.ref).length := by rw [List.length_map, hl]; exact hi
      refine ⟨_, rfl, t, _, _, _, rfl, rfl, SqT.of hc, rfl, ?_⟩
      refine ⟨_, rfl, t, _, _, _, rfl, rfl, SqT.of hc, rfl, rfl, _, rfl, iteN ne_turn_add ?_⟩
      refine ⟨_, rfl, t, _, _, _, rfl, rfl, SqT.of hc, rfl, rfl, _, rfl, iteN ne_turn_swap ?_⟩
      refine ⟨_, rfl, _, rfl, a, _, _, _, rfl, rfl, SqL.of h1, atI_nat (rget ei), ri, rfl, ⟨_, SqL.of hri⟩, ?_⟩
      refine comp_list (K := K) (a := ri) (xs := (Tt.getD i []).map V.int) (fun i' ys H2 => H2 = H ∧ i' ≤ n ∧ ys = (((Tt.getD i []).map fun x => -x).take i').map V.int) (by rw [List.length_map, hli]; exact Nat.le_trans hn (by decide)) ⟨rfl, Nat.zero_le _, by simp⟩ (fun i' ys H2 ⟨_, hle, e⟩ => by rw [e, List.length_map, List.length_take, List.length_map, hli]; (first | lia | omega)) (fun i' ys H2 _ ⟨e, _, _⟩ => by rw [e]; exact SqL.of hri) ?_ ?_
      · rintro i' x ys H2 hx ⟨rfl, _, rfl⟩
        obtain ⟨u, eu, rfl⟩ := mint hx
        refine ⟨rfl, _, rfl, _, rfl, rfl, ?_, ?_⟩
        · have := (List.getElem?_eq_some_iff.mp eu).1; (first | lia | omega)
        · rw [take_map (f := fun x => -x) eu, List.map_append]; rfl
      · rintro ys H2 ⟨rfl, _, rfl⟩ p hp
        have e : (((Tt.getD i []).map fun x => -x).take ((Tt.getD i []).map V.int).length) = (Tt.getD i []).map fun x => -x := List.take_of_length_le (by rw [List.length_map, List.length_map]; exact Nat.le_refl _)
        rw [e]
        have hpa : a ≠ p := ne_of_none h1 hp
        refine ⟨_, rfl, _, rfl, a, _, _, i, rfl, rfl, by rw [upd_ne hpa]; exact h1, ixN_nat hci, ?_⟩
        obtain ⟨q1, q2, q3⟩ := ht.put (i := i) (row := (Tt.getD i []).map fun x => -x) (Same.refl _) hp
        exact k _ _ q1 q2 q3
end
end X1

namespace X1
open PySem L2
theorem iteB {b : Bool} {A B : Prop} (hb : b = true) (h : A) : if b = true then A else B := by rw [hb]; exact iteT h
theorem iteB0 {b : Bool} {A B : Prop} (hb : b = false) (h : B) : if b = true then A else B := by rw [hb]; exact iteF h
theorem cut_all {xs : List V} (h : xs.length ≤ 500) : cutV xs none (some 500) = xs := by
  have e : HT.sIx xs.length xs.length (some 500) = xs.length := by
    have := HT.sIx_nat xs.length xs.length 500
    rw [show ((500 : Nat) : Int) = (500 : Int) from rfl] at this
    rw [this]; (first | lia | omega)
  unfold cutV
  rw [e, HT.sIx_none]
  simp
theorem sizeN (k : Nat) (hk : 0 < k) (x : Int) : ∃ h : Nat, 1 + x % (k : Int) = ((h + 1 : Nat) : Int) ∧ h + 1 ≤ k := by
  have h1 : 0 ≤ x % (k : Int) := Int.emod_nonneg _ (by (first | lia | omega))
  have h2 : x % (k : Int) < k := Int.emod_lt_of_pos _ (by (first | lia | omega))
  obtain ⟨h, e⟩ := Int.eq_ofNat_of_zero_le h1
  exact ⟨h, by (first | lia | omega), by (first | lia | omega)⟩
def Big (c : Nat) (T : Tb) : Prop := ∀ r ∈ T, ∀ x ∈ r, x.natAbs ≤ c
theorem Big.ent {c : Nat} {T : Tb} (h : Big c T) (x y : Nat) : (ent T x y).natAbs ≤ c := by
  unfold X1.ent
  rw [List.getD_eq_getElem?_getD, List.getD_eq_getElem?_getD]
  cases e : T[x]? with
  | none => simp
  | some r =>
    simp only [Option.getD_some]
    cases e2 : r[y]? with
    | none => simp
    | some v => exact h r (List.mem_of_getElem? e) v (List.mem_of_getElem? e2)
theorem Big.mono {c d : Nat} {T : Tb} (h : Big c T) (hd : c ≤ d) : Big d T := fun r hr x hx => Nat.le_trans (h r hr x hx) hd
theorem Big.set {c : Nat} {T : Tb} {row : List Int} (h : Big c T) (hr : ∀ x ∈ row, x.natAbs ≤ c) (i : Nat) : Big c (T.set i row) := fun r hm => by
  rcases List.mem_or_eq_of_mem_set hm with z | z
  · exact h r z
  · rw [z]; exact hr
section
variable {P : Program} {w : World} {K : PySem.W.Frag} {mg : Str → Option Value} {base : Heap}
inductive SpWhole (vs : List V) (H : Hp) (Q : VK) : Prop
  | mk (i : Int) (_ : vs = [.int i]) (_ : Q (.bl true) H) : SpWhole vs H Q
def spWhole : Sp := fun vs H Q _ => SpWhole vs H Q
theorem ok_law_whole (D : DefAt K mg "_law_whole" s_law_whole ["_law_found"]) (T : Bt mg) : Callee P w K mg base 1 "_law_whole" ["_law_found"] spWhole := by
  refine D.ok (k := 0) sc_law_whole (fun vs H Q E h => ?_) (fun f cdv A outer s H vs Q E hr h => ?_)
  · obtain ⟨_, rfl, _⟩ := h
    rfl
  · obtain ⟨i, rfl, k⟩ := h
    refine ⟨_, (pss_one (ps_ret (pe_and (pe_callB call_isi rfl T.isinstance bt_isinstance (pa_cons (pv 0) (pa_cons (pe_bltn (v := .ty "int") rfl T.int bt_int rfl) pa_nil))) (pe_one (pe_not (pe_callB call_isi rfl T.isinstance bt_isinstance (pa_cons (pv 0) (pa_cons (pe_bltn (v := .ty "bool") rfl T.bool bt_bool rfl) pa_nil)))))))), ?_⟩
    refine ⟨_, rfl, _, _, _, rfl, .int i, by simp, _, rfl, iteB (by decide) ?_⟩
    exact ⟨_, rfl, _, _, _, rfl, .int i, by simp, _, rfl, k⟩
inductive SpAt (K : PySem.W.Frag) (vs : List V) (H : Hp) (Q : VK) : Prop
  | mk (a : Addr) (ns : List Int) (k : Nat) (_ : vs = [.ref a, .int k]) (_ : SqL K H a (ns.map V.int)) (_ : Q (.int (ns.getD k 0)) H) : SpAt K vs H Q
def spAt (K : PySem.W.Frag) : Sp := fun vs H Q _ => SpAt K vs H Q
theorem ok_law_at (D : DefAt K mg "_law_at" s_law_at ["_law_script", "_law_k"]) (T : Bt mg) : Callee P w K mg base 1 "_law_at" ["_law_script", "_law_k"] (spAt K) := by
  refine D.ok (k := 0) sc_law_at (fun vs H Q E h => ?_) (fun f cdv A outer s H vs Q E hr h => ?_)
  · obtain ⟨_, _, _, rfl, _⟩ := h
    rfl
  · obtain ⟨a, ns, i, rfl, ha, k⟩ := h
    refine ⟨_, (pss_cons (ps_if (pt_cmpR op_lt (pv 1) (pe_callB call_len_seq rfl T.len bt_len (pa_cons (pv 0) pa_nil)) (nomark _)) (pss_one (ps_ret (pe_ix ix_list (pv 0) (pv 1) (fun _ _ => rfl)))) pss_nil)
        (pss_one (ps_ret pe_int))), ?_⟩
    refine ⟨_, rfl, _, rfl, a, _, rfl, .inl ha, _, _, rfl, rfl, _, rfl, ?_⟩
    rw [List.length_map]
    by_cases hi : i < ns.length
    · refine iteP (by (first | lia | omega)) ⟨_, rfl, _, rfl, a, _, _, _, rfl, rfl, ha, atI_nat (iget (getD_some rfl hi)), k⟩
    · refine iteN (by (first | lia | omega)) ?_
      have : ns.getD i 0 = 0 := by simp [Nat.not_lt.mp hi]
      rw [this] at k
      exact k
theorem ok_law_copy (D : DefAt K mg "_law_copy" s_law_copy ["_law_table"]) (T : Bt mg) : Callee P w K mg base 1 "_law_copy" ["_law_table"] spCopy := by
  refine D.ok (k := 0) sc_law_copy (fun vs H Q E h => ?_) (fun f cdv A outer s H vs Q E hr h => ?_)
  · obtain ⟨_, _, _, rfl, _⟩ := h
    rfl
  · obtain ⟨a, rs, Tt, rfl, ht, hz, k⟩ := h
    refine ⟨_, (pss_one (ps_ret (pe_comp (N := ["_law_row"]) (cap := []) (k := 1) (CompScope.mk' (defScope s_law_copy) ["_law_table"] rfl rfl (by decide +kernel)) rfl (pi_list (pv 0)) (fun _ _ _ _ => (pg_name (i := 0) (show (["_law_row"] : List Str).Nodup by decide +kernel) rfl (Or.inl rfl))) (fun _ _ _ _ => (pe_callTy (call_list_ofK (K := K) rfl) rfl T.list bt_list (pa_cons (pv 0) pa_nil)))))), ?_⟩
    have h1 := ht.tab.1
    have hlen := ht.tab.2.length
    refine ⟨_, rfl, a, rfl, ⟨_, SqL.of h1⟩, comp_list (K := K) (a := a) (xs := rs.map V.ref) (fun i ys H2 => ∃ qs, ys = qs.map V.ref ∧ qs.length = i ∧ i ≤ Tt.length ∧ CopyAt H H2 qs (Tt.take i)) (by rw [List.length_map, hlen]; exact Nat.le_trans hz (by decide)) ⟨[], rfl, rfl, Nat.zero_le _, by simpa using CopyAt.start H⟩ (fun i ys H2 ⟨qs, e, e2, _⟩ => by rw [e, List.length_map, e2]) (fun i ys H2 _ ⟨qs, _, _, _, c⟩ => SqL.of (c.same _ _ h1)) ?_ ?_⟩
    · rintro i x ys H2 hx ⟨qs, rfl, hq, hi, c⟩
      obtain ⟨r, er, rfl⟩ := mref hx
      obtain ⟨row, erow, hrow⟩ := pget ht.tab.2 er
      refine ⟨rfl, _, rfl, r, _, rfl, .inl (SqL.of (c.same _ _ hrow)), fun l hl => ?_⟩
      have hlt : i < Tt.length := (List.getElem?_eq_some_iff.mp erow).1
      refine ⟨qs ++ [l], by rw [List.map_append]; rfl, by rw [List.length_append, hq]; rfl, hlt, ?_⟩
      have e : Tt.take (i + 1) = Tt.take i ++ [row] := by rw [List.take_succ, erow]; rfl
      rw [e]
      exact c.more hl
    · rintro ys H2 ⟨qs, rfl, hq, hi, c⟩ p hp
      rw [List.length_map, hlen, List.take_length] at c
      obtain ⟨q1, q2, q3⟩ := c.done hp
      exact k p qs _ q1 q2 q3
end
end X1

namespace X1
open PySem L2
section
variable {P : Program} {w : World} {K : PySem.W.Frag} {mg : Str → Option Value} {base : Heap}
inductive SpIsT (vs : List V) (H : Hp) (Q : VK) : Prop
  | mk (a : Addr) (rs : List Addr) (T : Tb) (m n : Nat) (_ : vs = [.ref a, .int m, .int n]) (_ : TabAt H a rs T) (_ : Rect m n T) (_ : Q (.bl true) H) : SpIsT vs H Q
def spIsT : Sp := fun vs H Q _ => SpIsT vs H Q
theorem ok_law_is_table (D : DefAt K mg "_law_is_table" s_law_is_table ["_law_found", "_law_high", "_law_wide"]) (T : Bt mg) (C_law_whole : Callee P w K mg base 1 "_law_whole" ["_law_found"] spWhole) : Callee P w K mg base 2 "_law_is_table" ["_law_found", "_law_high", "_law_wide"] spIsT := by
  refine D.ok (k := 1) sc_law_is_table (fun vs H Q E h => ?_) (fun f cdv A outer s H vs Q E hr h => ?_)
  · obtain ⟨_, _, _, _, _, rfl, _⟩ := h
    rfl
  · obtain ⟨a, rs, Tt, m, n, rfl, ht, hr', k⟩ := h
    refine ⟨_, (pss_cons (ps_if (PW.pt (pw_or (pt_not (pt_val (pe_callB call_isi rfl T.isinstance bt_isinstance (pa_cons (pv 0) (pa_cons (pe_bltn (v := .ty "list") rfl T.list bt_list rfl) pa_nil))))) (pw_or1 (pt_cmpR op_ne (pe_callB call_len_seq rfl T.len bt_len (pa_cons (pv 0) pa_nil)) (pv 1) (nomark _))))) (pss_one (ps_ret pe_bl)) pss_nil)
        (pss_cons (ps_for PassesOwn.never rfl (pi_list (pv 0)) (pg_name (i := 3) sc_law_is_table.nd rfl (Or.inl rfl)) (pss_cons (ps_if (PW.pt (pw_or (pt_not (pt_val (pe_callB call_isi rfl T.isinstance bt_isinstance (pa_cons (pv 3) (pa_cons (pe_bltn (v := .ty "list") rfl T.list bt_list rfl) pa_nil))))) (pw_or1 (pt_cmpR op_ne (pe_callB call_len_seq rfl T.len bt_len (pa_cons (pv 3) pa_nil)) (pv 2) (nomark _))))) (pss_one (ps_ret pe_bl)) pss_nil)
        (pss_one (ps_for PassesOwn.never rfl (pi_list (pv 3)) (pg_name (i := 4) sc_law_is_table.nd rfl (Or.inl rfl)) (pss_one (ps_if (pt_not (pt_val (pe_callC C_law_whole (hr.mono (by decide)) rfl (pa_cons (pv 4) pa_nil)))) (pss_one (ps_ret pe_bl)) pss_nil))))))
        (pss_one (ps_ret pe_bl)))), ?_⟩
    have h1 := ht.tab.1
    have hl := ht.len hr'
    refine ⟨_, rfl, _, _, _, rfl, .lst h1, by simp, _, rfl, iteB0 (by decide) ⟨_, rfl, a, _, rfl, .inl (SqL.of h1), _, rfl, rfl, _, rfl, iteNS (by rw [List.length_map, hl]) ?_⟩⟩
    refine ⟨_, rfl, a, rfl, ⟨_, SqL.of h1⟩, for_list (K := K) (a := a) (xs := rs.map V.ref) (fun i σ H2 => H2 = H ∧ ∃ v v', σ = [some (.ref a), some (.int m), some (.int n), v, v']) ⟨rfl, none, none, rfl⟩ (fun i σ H2 _ h => by rw [h.1]; exact SqL.of h1) ?_ ?_⟩
    · rintro i y σ H2 hi ⟨rfl, v, v', rfl⟩
      obtain ⟨r, er, rfl⟩ := mref hi
      obtain ⟨row, erow, hrow⟩ := pget ht.tab.2 er
      have hlr : row.length = n := hr'.2 row (List.mem_of_getElem? erow)
      refine ⟨_, rfl, _, _, _, rfl, .lst hrow, by simp, _, rfl, iteB0 (by decide) ⟨_, rfl, r, _, rfl, .inl (SqL.of hrow), _, rfl, rfl, _, rfl, iteNS (by rw [List.length_map, hlr]) ?_⟩⟩
      refine ⟨_, rfl, r, rfl, ⟨_, SqL.of hrow⟩, for_list (K := K) (a := r) (xs := row.map V.int) (fun j σ H3 => H3 = H2 ∧ ∃ v, σ = [some (.ref a), some (.int m), some (.int n), some (.ref r), v]) ⟨rfl, v', rfl⟩ (fun j σ H3 _ h => by rw [h.1]; exact SqL.of hrow) ?_ ?_⟩
      · rintro j z σ H3 hj ⟨rfl, v2, rfl⟩
        obtain ⟨u, eu, rfl⟩ := mint hj
        exact ⟨_, rfl, u, rfl, _, rfl, iteF ⟨rfl, _, rfl⟩⟩
      · rintro σ H3 ⟨rfl, v2, rfl⟩
        exact ⟨rfl, _, _, rfl⟩
    · rintro σ H2 ⟨rfl, _⟩
      exact k
end
end X1

namespace X1
open PySem L2
def Ch.one : Ch → Nat
  | .add _ i _ _ => i
  | .swap _ i _ => i
  | .turn _ i => i
theorem chV_1 (c : Ch) : atI (chV c) 1 = some (.str (sd c.side)) := by cases c <;> rfl
theorem chV_2 (c : Ch) : atI (chV c) 2 = some (.int c.one) := by cases c <;> rfl
theorem one_ok {m n : Nat} {c : Ch} (h : c.ok m n) : c.one < dim c.side m n := by
  cases c with
  | add => exact h.1
  | swap => exact h.1
  | turn => exact h
theorem spot_ok {m n p k : Nat} {s : Bool} (hp : p < dim s m n) (hk : k < dim s n m) : (spot s p k).1 < m ∧ (spot s p k).2 < n := by
  cases s
  · exact ⟨hk, hp⟩
  · exact ⟨hp, hk⟩
theorem _root_.L2.TabAt.cellE {H : Hp} {a r : Addr} {rs : List Addr} {T : Tb} {x y : Nat} {v : Int} (t : TabAt H a rs T) (e : rs[x]? = some r) : TabAt (upd H r (.lst (((T.getD x []).map V.int).set y (.int v)))) a rs (setE T x y v) := by
  rw [← List.map_set]
  exact t.cell e
theorem stay_cell {H H2 : Hp} {a r : Addr} {rs : List Addr} {x : Nat} {o : HO} (s : Stay H H2 (a :: rs)) (e : rs[x]? = some r) : Stay H (upd H2 r o) (a :: rs) := fun b u q hb => by
  rw [upd_ne (fun z => hb (by rw [z]; exact List.mem_cons_of_mem _ (List.mem_of_getElem? e)))]
  exact s b u q hb
theorem _root_.L2.Stay.trans {H H1 H2 : Hp} {F : List Addr} (a : Stay H H1 F) (b : Stay H1 H2 F) : Stay H H2 F := fun c o e h => b c o (a c o e h) h
theorem stay_new {H H2 : Hp} {q : Addr} {o : HO} {F : List Addr} (s : Stay H H2 F) (hq : H2 q = none) : Stay H (upd H2 q o) F := fun b u e hb => by
  have z := s b u e hb
  rw [upd_ne (ne_of_none z hq)]; exact z
theorem rd2 {K : PySem.W.Frag} {H : Hp} {a : Addr} {rs : List Addr} {T : Tb} {m n x y it : Nat} {σ : St} {ti tj : TE} {Q : VK} (ht : TabAt H a rs T) (hr : Rect m n T) (hσ : σ[it]? = some (some (.ref a))) (hi : ∀ R : VK, R (.int (x : Nat)) H → ti σ H R) (hj : ∀ R : VK, R (.int (y : Nat)) H → tj σ H R)
    (hx : x < m) (hy : y < n) (k : Q (.int (ent T x y)) H) : tOp (rIxL K) (tOp (rIxL K) (tVar it) ti) tj σ H Q := by
  obtain ⟨r, er, _, hrow, hlr⟩ := ht.at hr hx
  exact ⟨_, hσ, hi _ ⟨a, _, _, _, rfl, rfl, SqL.of ht.tab.1, atI_nat (rget er), hj _ ⟨r, _, _, _, rfl, rfl, SqL.of hrow, atI_nat (iget (getD_some hlr hy)), k⟩⟩⟩
theorem wr2 {K : PySem.W.Frag} {H : Hp} {a : Addr} {rs : List Addr} {T : Tb} {m n x y it : Nat} {v : Int} {σ : St} {ti tj : TE} {Q : St → Hp → Prop} (ht : TabAt H a rs T) (hr : Rect m n T) (hσ : σ[it]? = some (some (.ref a))) (hi : ∀ R : VK, R (.int (x : Nat)) H → ti σ H R) (hj : ∀ R : VK, R (.int (y : Nat)) H → tj σ H R)
    (hx : x < m) (hy : y < n) (k : ∀ H', TabAt H' a rs (setE T x y v) → Stay H H' (a :: rs) → (∀ b xs, H b = some (.tup xs) → H' b = some (.tup xs)) → Q σ H') : gSub (tOp (rIxL K) (tVar it) ti) tj rSetL (.int v) σ H Q := by
  obtain ⟨r, er, _, hrow, hlr⟩ := ht.at hr hx
  refine ⟨_, hσ, hi _ ⟨a, _, _, _, rfl, rfl, SqL.of ht.tab.1, atI_nat (rget er), hj _ ⟨r, _, _, y, rfl, rfl, hrow, ixN_nat (by rw [List.length_map, hlr]; exact hy), ?_⟩⟩⟩
  refine k _ (ht.cellE er) (stay_cell (fun b o e _ => e) er) fun b xs e => ?_
  rw [upd_ne (ne_of e hrow (by intro z; cases z))]; exact e
theorem rdT {K : PySem.W.Frag} {H : Hp} {q : Addr} {xs : List V} {iq i : Nat} {v : V} {σ : St} (hq : H q = some (.tup xs)) (hσ : σ[iq]? = some (some (.ref q))) (hv : xs[i]? = some v) (R : VK) (k : R v H) : tOp (rIxT K) (tVar iq) (tC (.int (i : Nat))) σ H R :=
  ⟨_, hσ, q, _, _, _, rfl, rfl, SqT.of hq, atI_nat hv, k⟩
section
variable {P : Program} {w : World} {K : PySem.W.Frag} {mg : Str → Option Value} {base : Heap}
inductive SpSpot (vs : List V) (H : Hp) (Q : VK) : Prop
  | mk (s : Bool) (p k : Nat) (_ : vs = [.str (sd s), .int p, .int k]) (_ : ∀ q : Addr, H q = none → Q (.ref q) (upd H q (.tup [.int (spot s p k).1, .int (spot s p k).2]))) : SpSpot vs H Q
def spSpot : Sp := fun vs H Q _ => SpSpot vs H Q
theorem ok_law_spot (D : DefAt K mg "_law_spot" s_law_spot ["_law_side", "_law_place", "_law_k"]) (T : Bt mg) : Callee P w K mg base 1 "_law_spot" ["_law_side", "_law_place", "_law_k"] spSpot := by
  refine D.ok (k := 0) sc_law_spot (fun vs H Q E h => ?_) (fun f cdv A outer s H vs Q E hr h => ?_)
  · obtain ⟨_, _, _, rfl, _⟩ := h
    rfl
  · obtain ⟨sd', p, i, rfl, k⟩ := h
    refine ⟨_, (pss_cons (ps_if (pt_cmpR op_eq (pv 0) pe_str (nomark _)) (pss_one (ps_ret (pe_tup (pa_cons (pv 1) (pa_cons (pv 2) pa_nil))))) pss_nil)
        (pss_one (ps_ret (pe_tup (pa_cons (pv 2) (pa_cons (pv 1) pa_nil)))))), ?_⟩
    refine ⟨_, rfl, rfl, _, rfl, ?_⟩
    rw [sd_row]
    cases sd' with
    | true => exact iteT ⟨_, rfl, _, rfl, by show 2 ≤ sizeLine; decide, fun q hq => k q hq⟩
    | false => exact iteF ⟨_, rfl, _, rfl, by show 2 ≤ sizeLine; decide, fun q hq => k q hq⟩
inductive SpWalk (B : Nat) (vs : List V) (H : Hp) (Q : VK) : Prop
  | mk (a t : Addr) (rs : List Addr) (T : Tb) (m n : Nat) (c : Ch) (_ : vs = [.ref a, .ref t]) (_ : TabAt H a rs T) (_ : Rect m n T) (_ : 0 < m) (_ : m ≤ 1000) (_ : n ≤ 1000) (_ : IsCh H t c) (_ : c.ok m n) (_ : c.fits B) (_ : E1.Le B (ent T)) (_ : E1.Le B (ent (c.app T))) (_ : ∀ (H' : Hp), TabAt H' a rs (c.app T) → Stay H H' (a :: rs) → Q .non H') : SpWalk B vs H Q
def spWalk (B : Nat) : Sp := fun vs H Q _ => SpWalk B vs H Q
theorem ok_law_walk {B : Nat} (hB : B ≤ 33554432) (D : DefAt K mg "_law_walk" s_law_walk ["_law_table", "_law_change"]) (T : Bt mg) (C_law_spot : Callee P w K mg base 1 "_law_spot" ["_law_side", "_law_place", "_law_k"] spSpot) : Callee P w K mg base 2 "_law_walk" ["_law_table", "_law_change"] (spWalk B) := by
  refine D.ok (k := 1) sc_law_walk (fun vs H Q E h => ?_) (fun f cdv A outer s H vs Q E hr h => ?_)
  · obtain ⟨_, _, _, _, _, _, _, rfl, _⟩ := h
    rfl
  · obtain ⟨a, t, rs, Tt, m, n, c, rfl, ht, hr', hm0, hm, hn, hc, hok, hsm, hle, hle2, k⟩ := h
    refine ⟨_, (pss_cons (ps_set (i := 2) sc_law_walk.nd rfl (Or.inl rfl) (pe_ix ix_list (pe_lst (pa_cons (pe_callB call_len_seq rfl T.len bt_len (pa_cons (pv 0) pa_nil)) (pa_cons (pe_callB call_len_seq rfl T.len bt_len (pa_cons (pe_ix ix_list (pv 0) pe_int (fun _ _ => rfl)) pa_nil)) pa_nil))) (pe_callTy call_int1 rfl T.int bt_int (pa_cons (pe_cmpR op_eq (pe_ix ix_tup (pv 1) pe_int (fun _ _ => rfl)) pe_str (nomark _)) pa_nil)) (fun _ _ => rfl)))
        (pss_one (ps_for PassesOwn.never rfl (pi_range1 rfl T.range (pa_cons (pv 2) pa_nil)) (pg_name (i := 3) sc_law_walk.nd rfl (Or.inl rfl)) (pss_cons (ps_set (i := 4) sc_law_walk.nd rfl (Or.inl rfl) (pe_callC C_law_spot (hr.mono (by decide)) rfl (pa_cons (pe_ix ix_tup (pv 1) pe_int (fun _ _ => rfl)) (pa_cons (pe_ix ix_tup (pv 1) pe_int (fun _ _ => rfl)) (pa_cons (pv 3) pa_nil)))))
        (pss_cons (ps_set (i := 5) sc_law_walk.nd rfl (Or.inl rfl) (pe_ix ix_list (pe_ix ix_list (pv 0) (pe_ix ix_tup (pv 4) pe_int (fun _ _ => rfl)) (fun _ _ => rfl)) (pe_ix ix_tup (pv 4) pe_int (fun _ _ => rfl)) (fun _ _ => rfl)))
        (pss_one (ps_if (pt_cmpR op_eq (pe_ix ix_tup (pv 1) pe_int (fun _ _ => rfl)) pe_str (nomark _)) (pss_one (ps_asg (pe_op op_sub pe_int (pv 5)) (pg_sub (pe_ix ix_list (pv 0) (pe_ix ix_tup (pv 4) pe_int (fun _ _ => rfl)) (fun _ _ => rfl)) (pe_ix ix_tup (pv 4) pe_int (fun _ _ => rfl)) set_list))) (pss_cons (ps_set (i := 6) sc_law_walk.nd rfl (Or.inl rfl) (pe_callC C_law_spot (hr.mono (by decide)) rfl (pa_cons (pe_ix ix_tup (pv 1) pe_int (fun _ _ => rfl)) (pa_cons (pe_ix ix_tup (pv 1) pe_int (fun _ _ => rfl)) (pa_cons (pv 3) pa_nil)))))
        (pss_cons (ps_set (i := 7) sc_law_walk.nd rfl (Or.inl rfl) (pe_ix ix_list (pe_ix ix_list (pv 0) (pe_ix ix_tup (pv 6) pe_int (fun _ _ => rfl)) (fun _ _ => rfl)) (pe_ix ix_tup (pv 6) pe_int (fun _ _ => rfl)) (fun _ _ => rfl)))
        (pss_one (ps_if (pt_cmpR op_eq (pe_ix ix_tup (pv 1) pe_int (fun _ _ => rfl)) pe_str (nomark _)) (pss_cons (ps_asg (pv 7) (pg_sub (pe_ix ix_list (pv 0) (pe_ix ix_tup (pv 4) pe_int (fun _ _ => rfl)) (fun _ _ => rfl)) (pe_ix ix_tup (pv 4) pe_int (fun _ _ => rfl)) set_list))
        (pss_one (ps_asg (pv 5) (pg_sub (pe_ix ix_list (pv 0) (pe_ix ix_tup (pv 6) pe_int (fun _ _ => rfl)) (fun _ _ => rfl)) (pe_ix ix_tup (pv 6) pe_int (fun _ _ => rfl)) set_list)))) (pss_one (ps_asg (pe_op op_add (pv 5) (pe_op (op_mulB B hB) (pv 7) (pe_ix ix_tup (pv 1) pe_int (fun _ _ => rfl)))) (pg_sub (pe_ix ix_list (pv 0) (pe_ix ix_tup (pv 4) pe_int (fun _ _ => rfl)) (fun _ _ => rfl)) (pe_ix ix_tup (pv 4) pe_int (fun _ _ => rfl)) set_list)))))))))))))), ?_⟩
    have hl := ht.len hr'
    have h1 := ht.tab.1
    obtain ⟨r0, e0, _, hr0, hl0⟩ := ht.at hr' hm0
    have nt : t ∉ a :: rs := fun z => by
      rcases List.mem_cons.mp z with z | z
      · subst z; rw [IsCh, h1] at hc; cases hc
      · obtain ⟨row, e2⟩ := ht.tab.2.tracked t z
        rw [IsRow, hc] at e2; cases e2
    have hone := one_ok hok
    refine ⟨_, rfl, a, _, rfl, .inl (SqL.of h1), _, rfl, a, _, _, _, rfl, rfl, SqL.of h1, atI_nat (j := 0) (rget e0), r0, _, rfl, .inl (SqL.of hr0), by show 2 ≤ sizeLine; decide, fun pl hpl => ?_⟩
    have sl : Same H (upd H pl (.lst [V.int ((rs.map V.ref).length : Nat), V.int (((Tt.getD 0 []).map V.int).length : Nat)])) := same_upd hpl
    refine ⟨_, rfl, t, _, _, _, rfl, rfl, SqT.of (sl _ _ hc), chV_1 c, rfl, .inr ⟨_, rfl, pl, _, _, .int (dim c.side n m : Nat), rfl, rfl, SqL.of upd_same, ?_, ?_⟩⟩
    · rw [sd_row, List.length_map, hl, List.length_map, hl0]
      cases c.side <;> rfl
    refine ⟨_, rfl, _, rfl, by (first | lia | omega), ?_, ?_⟩
    · have : dim c.side n m ≤ 1000 := by unfold dim; cases c.side <;> simp <;> assumption
      (first | lia | omega)
    refine for_range0 (fun i σ H2 => TabAt H2 a rs (walkN c Tt i) ∧ Stay H H2 (a :: rs) ∧ ∃ v3 v4 v5 v6 v7, σ = [some (.ref a), some (.ref t), some (.int (dim c.side n m : Nat)), v3, v4, v5, v6, v7]) ⟨ht.same sl, sl.stay _, none, none, none, none, none, rfl⟩ ?_ ?_
    · rintro i σ H2 hi ⟨ht2, st2, v3, v4, v5, v6, v7, rfl⟩
      have hi' : i < dim c.side n m := by simpa using hi
      obtain ⟨hrW, hWe⟩ := walkN_spec hr' hok i (Nat.le_of_lt hi')
      have hWle : ∀ x y, x < m → y < n → (ent (walkN c Tt i) x y).natAbs ≤ 2 ^ B := fun x y hx hy => by
        have e := hWe x y hx hy
        by_cases hb : (if c.side then y else x) < i
        · rw [if_pos hb] at e; rw [e]; exact hle2 x y
        · rw [if_neg hb] at e; rw [e]; exact hle x y
      have hsp := spot_ok hone hi'
      generalize hW : walkN c Tt i = W at ht2 hrW hWle
      have hnx : walkN c Tt (i + 1) = stepW c W i := by rw [walkN_succ, hW]
      rw [hnx]
      have hc2 := st2 _ _ hc nt
      refine ⟨_, rfl, t, _, _, _, rfl, rfl, SqT.of hc2, chV_1 c, _, rfl, t, _, _, _, rfl, rfl, SqT.of hc2, chV_2 c, _, rfl, c.side, c.one, i, rfl, fun q hq => ?_⟩
      have hst0 : stepW c W i = stepW c W i := rfl
      generalize hx : (spot c.side c.one i).1 = x at hsp ⊢
      generalize hy : (spot c.side c.one i).2 = y at hsp ⊢
      have s3 : Same H2 (upd H2 q (.tup [V.int (x : Nat), V.int (y : Nat)])) := same_upd hq
      have st3 : Stay H (upd H2 q (.tup [V.int (x : Nat), V.int (y : Nat)])) (a :: rs) := stay_new st2 hq
      have ht3 := ht2.same s3
      have hq3 : (upd H2 q (.tup [V.int (x : Nat), V.int (y : Nat)])) q = some (.tup [V.int (x : Nat), V.int (y : Nat)]) := upd_same
      have hc3 := s3 _ _ hc2
      generalize hH3 : upd H2 q (.tup [V.int (x : Nat), V.int (y : Nat)]) = H3 at s3 st3 ht3 hq3 hc3 ⊢
      refine rd2 (it := 0) (x := x) (y := y) ht3 hrW rfl (fun R z => rdT (i := 0) hq3 rfl rfl R z) (fun R z => rdT (i := 1) hq3 rfl rfl R z) hsp.1 hsp.2 ?_
      cases c with
      | turn sd p =>
        refine rdT (i := 0) hc3 rfl rfl _ ⟨rfl, _, rfl, iteP rfl ?_⟩
        refine ⟨_, rfl, _, _, rfl, rfl, wr2 (it := 0) (x := x) (y := y) ht3 hrW rfl (fun R z => rdT (i := 0) hq3 rfl rfl R z) (fun R z => rdT (i := 1) hq3 rfl rfl R z) hsp.1 hsp.2 fun H4 ht4 st4 _ => ⟨?_, st3.trans st4, _, _, _, _, _, rfl⟩⟩
        show TabAt _ a rs (setE W (spot sd p i).1 (spot sd p i).2 (0 - ent W (spot sd p i).1 (spot sd p i).2))
        rw [show (spot sd p i).1 = x from hx, show (spot sd p i).2 = y from hy]
        exact ht4
      | add sd p p' qq =>
        obtain ⟨_, hp', _⟩ := hok
        have hsp2 := spot_ok (s := sd) hp' hi'
        refine rdT (i := 0) hc3 rfl rfl _ ⟨rfl, _, rfl, iteN (by decide +kernel) ?_⟩
        refine ⟨_, rfl, t, _, _, _, rfl, rfl, SqT.of hc3, rfl, _, rfl, t, _, _, _, rfl, rfl, SqT.of hc3, rfl, _, rfl, sd, p', i, rfl, fun q2 hq2 => ?_⟩
        generalize hx2 : (spot sd p' i).1 = x2 at hsp2 ⊢
        generalize hy2 : (spot sd p' i).2 = y2 at hsp2 ⊢
        have s4 : Same H3 (upd H3 q2 (.tup [V.int (x2 : Nat), V.int (y2 : Nat)])) := same_upd hq2
        have st4 : Stay H (upd H3 q2 (.tup [V.int (x2 : Nat), V.int (y2 : Nat)])) (a :: rs) := stay_new st3 hq2
        have hq4 : (upd H3 q2 (.tup [V.int (x2 : Nat), V.int (y2 : Nat)])) q2 = some (.tup [V.int (x2 : Nat), V.int (y2 : Nat)]) := upd_same
        generalize hH4 : upd H3 q2 (.tup [V.int (x2 : Nat), V.int (y2 : Nat)]) = H4 at s4 st4 hq4 ⊢
        have ht4 := ht3.same s4
        have hc4 := s4 _ _ hc3
        have hqq := s4 _ _ hq3
        refine rd2 (it := 0) (x := x2) (y := y2) ht4 hrW rfl (fun R z => rdT (i := 0) hq4 rfl rfl R z) (fun R z => rdT (i := 1) hq4 rfl rfl R z) hsp2.1 hsp2.2 ?_
        refine rdT (i := 0) hc4 rfl rfl _ ⟨rfl, _, rfl, iteN (by decide +kernel) ?_⟩
        refine ⟨_, rfl, _, rfl, rdT (i := 4) hc4 rfl rfl _ ⟨_, _, rfl, rfl, ⟨hWle x2 y2 hsp2.1 hsp2.2, hsm⟩, _, _, rfl, rfl, wr2 (it := 0) (x := x) (y := y) ht4 hrW rfl (fun R z => rdT (i := 0) hqq rfl rfl R z) (fun R z => rdT (i := 1) hqq rfl rfl R z) hsp.1 hsp.2 fun H5 ht5 st5 _ => ⟨?_, st4.trans st5, _, _, _, _, _, rfl⟩⟩⟩
        show TabAt _ a rs (setE W (spot sd p i).1 (spot sd p i).2 (ent W (spot sd p i).1 (spot sd p i).2 + ent W (spot sd p' i).1 (spot sd p' i).2 * qq))
        rw [show (spot sd p i).1 = x from hx, show (spot sd p i).2 = y from hy, hx2, hy2]
        exact ht5
      | swap sd p p' =>
        obtain ⟨_, hp', _⟩ := hok
        have hsp2 := spot_ok (s := sd) hp' hi'
        refine rdT (i := 0) hc3 rfl rfl _ ⟨rfl, _, rfl, iteN (by decide +kernel) ?_⟩
        refine ⟨_, rfl, t, _, _, _, rfl, rfl, SqT.of hc3, rfl, _, rfl, t, _, _, _, rfl, rfl, SqT.of hc3, rfl, _, rfl, sd, p', i, rfl, fun q2 hq2 => ?_⟩
        generalize hx2 : (spot sd p' i).1 = x2 at hsp2 ⊢
        generalize hy2 : (spot sd p' i).2 = y2 at hsp2 ⊢
        have s4 : Same H3 (upd H3 q2 (.tup [V.int (x2 : Nat), V.int (y2 : Nat)])) := same_upd hq2
        have st4 : Stay H (upd H3 q2 (.tup [V.int (x2 : Nat), V.int (y2 : Nat)])) (a :: rs) := stay_new st3 hq2
        have hq4 : (upd H3 q2 (.tup [V.int (x2 : Nat), V.int (y2 : Nat)])) q2 = some (.tup [V.int (x2 : Nat), V.int (y2 : Nat)]) := upd_same
        generalize hH4 : upd H3 q2 (.tup [V.int (x2 : Nat), V.int (y2 : Nat)]) = H4 at s4 st4 hq4 ⊢
        have ht4 := ht3.same s4
        have hc4 := s4 _ _ hc3
        have hqq := s4 _ _ hq3
        refine rd2 (it := 0) (x := x2) (y := y2) ht4 hrW rfl (fun R z => rdT (i := 0) hq4 rfl rfl R z) (fun R z => rdT (i := 1) hq4 rfl rfl R z) hsp2.1 hsp2.2 ?_
        refine rdT (i := 0) hc4 rfl rfl _ ⟨rfl, _, rfl, iteP rfl ?_⟩
        refine ⟨_, rfl, wr2 (it := 0) (x := x) (y := y) ht4 hrW rfl (fun R z => rdT (i := 0) hqq rfl rfl R z) (fun R z => rdT (i := 1) hqq rfl rfl R z) hsp.1 hsp.2 fun H5 ht5 st5 tu5 => ?_⟩
        have hr5 : Rect m n (setE W x y (ent W x2 y2)) := hrW.setE hsp.1
        have hq5 := tu5 _ _ hq4
        refine ⟨_, rfl, wr2 (it := 0) (x := x2) (y := y2) ht5 hr5 rfl (fun R z => rdT (i := 0) hq5 rfl rfl R z) (fun R z => rdT (i := 1) hq5 rfl rfl R z) hsp2.1 hsp2.2 fun H6 ht6 st6 _ => ⟨?_, (st4.trans st5).trans st6, _, _, _, _, _, rfl⟩⟩
        show TabAt _ a rs (setE (setE W (spot sd p i).1 (spot sd p i).2 (ent W (spot sd p' i).1 (spot sd p' i).2)) (spot sd p' i).1 (spot sd p' i).2 (ent W (spot sd p i).1 (spot sd p i).2))
        rw [show (spot sd p i).1 = x from hx, show (spot sd p i).2 = y from hy, hx2, hy2]
        exact ht6
    · rintro σ H2 ⟨ht2, st2, _⟩
      have e : ((dim c.side n m : Nat) : Int).toNat = dim c.side n m := by simp
      rw [e, walkN_all hr' hok] at ht2
      exact k H2 ht2 st2
inductive SpWalked (B : Nat) (vs : List V) (H : Hp) (Q : VK) : Prop
  | mk (a l : Addr) (rs ts : List Addr) (T : Tb) (m n : Nat) (cs : List Ch) (_ : vs = [.ref a, .ref l]) (_ : TabAt H a rs T) (_ : Rect m n T) (_ : 0 < m) (_ : m ≤ 1000) (_ : n ≤ 1000) (_ : IsChs H l ts cs) (_ : (∀ c ∈ cs, c.ok m n ∧ c.fits B)) (_ : (∀ i, E1.Le B (ent (apps (cs.take i) T)))) (_ : ∀ (p : Addr) (qs : List Addr) (H' : Hp), Same H H' → TabAt H' p qs (apps cs T) → Q (.ref p) H') : SpWalked B vs H Q
def spWalked (B : Nat) : Sp := fun vs H Q _ => SpWalked B vs H Q
theorem ok_law_walked {B : Nat} (D : DefAt K mg "_law_walked" s_law_walked ["_law_table", "_law_changes"]) (T : Bt mg) (C_law_copy : Callee P w K mg base 1 "_law_copy" ["_law_table"] spCopy) (C_law_walk : Callee P w K mg base 2 "_law_walk" ["_law_table", "_law_change"] (spWalk B)) : Callee P w K mg base 3 "_law_walked" ["_law_table", "_law_changes"] (spWalked B) := by
  refine D.ok (k := 2) sc_law_walked (fun vs H Q E h => ?_) (fun f cdv A outer s H vs Q E hr h => ?_)
  · obtain ⟨_, _, _, _, _, _, _, _, rfl, _⟩ := h
    rfl
  · obtain ⟨a, l, rs, ts, Tt, m, n, cs, rfl, ht, hr', hm0, hm, hn, hcs, hok, hall, k⟩ := h
    refine ⟨_, (pss_cons (ps_set (i := 2) sc_law_walked.nd rfl (Or.inl rfl) (pe_callC C_law_copy (hr.mono (by decide)) rfl (pa_cons (pv 0) pa_nil)))
        (pss_cons (ps_for PassesOwn.never rfl (pi_list (pv 1)) (pg_name (i := 3) sc_law_walked.nd rfl (Or.inl rfl)) (pss_one (ps_expr (pe_callC C_law_walk (hr.mono (by decide)) rfl (pa_cons (pv 2) (pa_cons (pv 3) pa_nil))))))
        (pss_one (ps_ret (pv 2))))), ?_⟩
    refine ⟨_, rfl, a, rs, Tt, rfl, ht, by rw [hr'.1]; exact hm, fun p qs H1 sm ht1 new => ?_⟩
    have hcs1 := hcs.same sm
    refine ⟨_, rfl, l, rfl, ⟨_, SqL.of hcs1.1⟩, for_list (K := K) (a := l) (xs := ts.map V.ref) (fun i σ H2 => ∃ (v : Option V), σ = [some (.ref a), some (.ref l), some (.ref p), v] ∧ Same H H2 ∧ TabAt H2 p qs (apps (cs.take i) Tt)) ⟨none, rfl, sm, by simpa [apps] using ht1⟩ (fun i σ H2 _ ⟨_, _, s2, _⟩ => SqL.of (s2 _ _ hcs.1)) ?_ ?_⟩
    · rintro i y σ H2 hy ⟨v, rfl, s2, ht2⟩
      obtain ⟨t, et, rfl⟩ := mref hy
      obtain ⟨c, ec, hc⟩ := pget hcs.2 et
      have hmem : c ∈ cs := List.mem_of_getElem? ec
      obtain ⟨hco, hcsm⟩ := hok c hmem
      have hr2 : Rect m n (apps (cs.take i) Tt) := apps_rect hr' fun d hd => (hok d (List.mem_of_mem_take hd)).1
      have enx : apps (cs.take (i + 1)) Tt = c.app (apps (cs.take i) Tt) := by rw [List.take_succ, ec, apps_append]; rfl
      refine ⟨_, rfl, _, rfl, p, t, qs, _, m, n, c, rfl, ht2, hr2, hm0, hm, hn, s2 _ _ hc, hco, hcsm, hall i, by rw [← enx]; exact hall (i + 1), fun H3 ht3 st3 => ?_⟩
      exact ⟨_, rfl, fun b o e => st3 b o (s2 b o e) (fun z => by rw [new b z] at e; cases e), by rw [enx]; exact ht3⟩
    · rintro σ H2 ⟨v, rfl, s2, ht2⟩
      rw [List.length_map, Paired.length hcs.2, List.take_length] at ht2
      exact ⟨_, rfl, k p qs H2 s2 ht2⟩
end
end X1

namespace X1
open PySem L2
section
variable {P : Program} {w : World} {K : PySem.W.Frag} {mg : Str → Option Value} {base : Heap}
inductive SpNums (vs : List V) (H : Hp) (Q : VK) : Prop
  | mk (a b : Addr) (xs : List Int) (_ : vs = [.ref a, .ref b]) (_ : H a = some (.lst (xs.map V.int))) (_ : H b = some (.lst (xs.map V.int))) (_ : xs.length ≤ 1000) (_ : Q (.bl true) H) : SpNums vs H Q
def spNums : Sp := fun vs H Q _ => SpNums vs H Q
theorem ok_law_numbers (D : DefAt K mg "_law_numbers" s_law_numbers ["_law_found", "_law_due"]) (T : Bt mg) (C_law_whole : Callee P w K mg base 1 "_law_whole" ["_law_found"] spWhole) : Callee P w K mg base 2 "_law_numbers" ["_law_found", "_law_due"] spNums := by
  refine D.ok (k := 1) sc_law_numbers (fun vs H Q E h => ?_) (fun f cdv A outer s H vs Q E hr h => ?_)
  · obtain ⟨_, _, _, rfl, _⟩ := h
    rfl
  · obtain ⟨a, b, xs, rfl, ha, hb, hz, k⟩ := h
    refine ⟨_, (pss_cons (ps_if (PW.pt (pw_or (pt_not (pt_val (pe_callB call_isi rfl T.isinstance bt_isinstance (pa_cons (pv 0) (pa_cons (pe_bltn (v := .ty "list") rfl T.list bt_list rfl) pa_nil))))) (pw_or1 (pt_cmpR op_ne (pe_callB call_len_seq rfl T.len bt_len (pa_cons (pv 0) pa_nil)) (pe_callB call_len_seq rfl T.len bt_len (pa_cons (pv 1) pa_nil)) (nomark _))))) (pss_one (ps_ret pe_bl)) pss_nil)
        (pss_cons (ps_for PassesOwn.never rfl (pi_range1 rfl T.range (pa_cons (pe_callB call_len_seq rfl T.len bt_len (pa_cons (pv 1) pa_nil)) pa_nil)) (pg_name (i := 2) sc_law_numbers.nd rfl (Or.inl rfl)) (pss_one (ps_if (PW.pt (pw_or (pt_not (pt_val (pe_callC C_law_whole (hr.mono (by decide)) rfl (pa_cons (pe_ix ix_list (pv 0) (pv 2) (fun _ _ => rfl)) pa_nil)))) (pw_or1 (pt_cmpR op_ne (pe_ix ix_list (pv 0) (pv 2) (fun _ _ => rfl)) (pe_ix ix_list (pv 1) (pv 2) (fun _ _ => rfl)) (nomark _))))) (pss_one (ps_ret pe_bl)) pss_nil)))
        (pss_one (ps_ret pe_bl)))), ?_⟩
    refine ⟨_, rfl, _, _, _, rfl, .lst ha, by simp, _, rfl, iteB0 (by decide) ⟨_, rfl, a, _, rfl, .inl (SqL.of ha), _, rfl, b, _, rfl, .inl (SqL.of hb), rfl, _, rfl, iteNS rfl ?_⟩⟩
    refine ⟨_, rfl, b, _, rfl, .inl (SqL.of hb), _, rfl, by (first | lia | omega), ?_, ?_⟩
    · rw [List.length_map]; (first | lia | omega)
    rw [List.length_map]
    refine for_range0 (fun i σ H2 => H2 = H ∧ ∃ (v2 : Option V), σ = [some (.ref a), some (.ref b), v2]) ⟨rfl, none, rfl⟩ ?_ ?_
    · rintro i σ H2 hi ⟨rfl, v2, rfl⟩
      have hi' : i < xs.length := by simpa using hi
      have e : xs[i]? = some xs[i] := by simp [hi']
      refine ⟨_, rfl, _, rfl, a, _, _, _, rfl, rfl, SqL.of ha, atI_nat (iget e), _, rfl, _, rfl, iteF ?_⟩
      refine ⟨_, rfl, _, rfl, a, _, _, _, rfl, rfl, SqL.of ha, atI_nat (iget e), _, rfl, _, rfl, b, _, _, _, rfl, rfl, SqL.of hb, atI_nat (iget e), rfl, _, rfl, iteNS rfl ?_⟩
      exact ⟨rfl, _, rfl⟩
    · rintro σ H2 ⟨rfl, _⟩
      exact k
end
end X1

namespace X1
open PySem L2
theorem pred_sub {m i : Nat} (h : i < m) : ∃ k, m - i = k + 1 := ⟨m - i - 1, by (first | lia | omega)⟩
theorem sub_succ' {a i k : Nat} (h : a - i = k + 1) : a - (i + 1) = k := by (first | lia | omega)
theorem in2 {b p l : Addr} {F : List Addr} (h : b ∈ F) : b ∈ p :: l :: F := List.mem_cons_of_mem _ (List.mem_cons_of_mem _ h)
theorem n_rs : ¬ (("rows" : Str) = "side") := by decide +kernel
theorem n_rc : ¬ (("rows" : Str) = "changes") := by decide +kernel
theorem n_sc : ¬ (("side" : Str) = "changes") := by decide +kernel
def flds (a : Addr) (s : Bool) (l : Addr) : List (Str × V) := [("rows", .ref a), ("side", .str (sd s)), ("changes", .ref l)]
theorem pf2 (a : Addr) (x : V) : putF "side" x (putF "rows" (.ref a) []) = ([("rows", V.ref a), ("side", x)] : List (Str × V)) := by
  simp only [putF, n_rs, if_false]
theorem pf3 (a l : Addr) (x : V) : putF "changes" (.ref l) ([("rows", V.ref a), ("side", x)] : List (Str × V)) = ([("rows", V.ref a), ("side", x), ("changes", .ref l)] : List (Str × V)) := by
  simp only [putF, n_rc, n_sc, if_false]
theorem flds_eq (a : Addr) (s : Bool) (l : Addr) : flds a s l = putF "changes" (.ref l) (putF "side" (.str (sd s)) (putF "rows" (.ref a) [])) := by rw [pf2, pf3]; rfl
theorem flds_rows (a : Addr) (s : Bool) (l : Addr) : (flds a s l).lookup ("rows" : Str) = some (.ref a) := by
  rw [flds_eq, lookup_putF, if_neg n_rc, lookup_putF, if_neg n_rs, lookup_putF, if_pos rfl]
theorem flds_side (a : Addr) (s : Bool) (l : Addr) : (flds a s l).lookup ("side" : Str) = some (.str (sd s)) := by
  rw [flds_eq, lookup_putF, if_neg n_sc, lookup_putF, if_pos rfl]
theorem flds_changes (a : Addr) (s : Bool) (l : Addr) : (flds a s l).lookup ("changes" : Str) = some (.ref l) := by
  rw [flds_eq, lookup_putF, if_pos rfl]
theorem flds_no (a : Addr) (s : Bool) (l : Addr) {m : Str} (h1 : ¬ m = "rows") (h2 : ¬ m = "side") (h3 : ¬ m = "changes") : (flds a s l).lookup m = none := by
  rw [flds_eq, lookup_putF, if_neg h3, lookup_putF, if_neg h2, lookup_putF, if_neg h1]; rfl
theorem no_make (a : Addr) (s : Bool) (l : Addr) : (flds a s l).lookup ("make" : Str) = none := flds_no a s l (by decide +kernel) (by decide +kernel) (by decide +kernel)
theorem no_add_times (a : Addr) (s : Bool) (l : Addr) : (flds a s l).lookup ("add_times" : Str) = none := flds_no a s l (by decide +kernel) (by decide +kernel) (by decide +kernel)
theorem no_swap_rows (a : Addr) (s : Bool) (l : Addr) : (flds a s l).lookup ("swap_rows" : Str) = none := flds_no a s l (by decide +kernel) (by decide +kernel) (by decide +kernel)
theorem no_turn_row (a : Addr) (s : Bool) (l : Addr) : (flds a s l).lookup ("turn_row" : Str) = none := flds_no a s l (by decide +kernel) (by decide +kernel) (by decide +kernel)
theorem no_lessen (a : Addr) (s : Bool) (l : Addr) : (flds a s l).lookup ("lessen" : Str) = none := flds_no a s l (by decide +kernel) (by decide +kernel) (by decide +kernel)
theorem no_meet (a : Addr) (s : Bool) (l : Addr) : (flds a s l).lookup ("meet" : Str) = none := flds_no a s l (by decide +kernel) (by decide +kernel) (by decide +kernel)
theorem no_tip_over (a : Addr) (s : Bool) (l : Addr) : (flds a s l).lookup ("tip_over" : Str) = none := flds_no a s l (by decide +kernel) (by decide +kernel) (by decide +kernel)
def tc (s : Bool) (c : E1.RC) : Ch := toCh (s, c)
inductive WalkEx (C : Addr) (H0 H : Hp) (p : Addr) (e : E1.Tab) (m n : Nat) (s : Bool) (cs : List Ch) : Prop
  | mk (dx a l : Addr) (rs ts : List Addr) (T : Tb) (_ : H p = some (.ins C dx (flds a s l))) (_ : TabAt H a rs T) (_ : Rect m n T) (_ : ent T = e) (_ : IsChs H l ts cs) (_ : l ∉ a :: rs) (_ : ∀ b ∈ p :: l :: a :: rs, H0 b = none) : WalkEx C H0 H p e m n s cs
structure WalkAt (C : Addr) (H0 H : Hp) (p : Addr) (e : E1.Tab) (m n : Nat) (s : Bool) (cs : List Ch) : Prop where
  same : Same H0 H
  ex : WalkEx C H0 H p e m n s cs
  m0 : 0 < m
  n0 : 0 < n
  m1 : m ≤ 1000
  n1 : n ≤ 1000
section
variable {C : Addr} {H0 H H' : Hp} {p : Addr} {e : E1.Tab} {m n : Nat} {s : Bool} {cs : List Ch}
theorem WalkAt.on (W : WalkAt C H0 H p e m n s cs) (sm : Same H H') : WalkAt C H0 H' p e m n s cs := by
  obtain ⟨dx, a, l, rs, ts, T, hp, ht, hr, he, hc, hl, hn⟩ := W.ex
  exact ⟨W.same.trans sm, ⟨dx, a, l, rs, ts, T, sm _ _ hp, ht.same sm, hr, he, hc.same sm, hl, hn⟩, W.m0, W.n0, W.m1, W.n1⟩
theorem WalkAt.sub {H1 : Hp} (W : WalkAt C H1 H p e m n s cs) (sm : Same H0 H1) : WalkAt C H0 H p e m n s cs := by
  obtain ⟨dx, a, l, rs, ts, T, hp, ht, hr, he, hc, hl, hn⟩ := W.ex
  exact ⟨sm.trans W.same, ⟨dx, a, l, rs, ts, T, hp, ht, hr, he, hc, hl, fun b hb => sm.free (hn b hb)⟩, W.m0, W.n0, W.m1, W.n1⟩
theorem WalkAt.laid {q : Addr} {o : HO} (W : WalkAt C H0 H p e m n s cs) (hq : H q = none) : WalkAt C (upd H0 q o) (upd H q o) p e m n s cs := by
  have W2 := W.on (same_upd (o := o) hq)
  obtain ⟨dx, a, l, rs, ts, T, hp, ht, hr, he, hc, hl, hn⟩ := W2.ex
  obtain ⟨dx', a', l', rs', ts', T', hp', ht', _, _, hc', _, _⟩ := W.ex
  refine ⟨fun b u eb => ?_, ⟨dx, a, l, rs, ts, T, hp, ht, hr, he, hc, hl, fun b hb => ?_⟩, W.m0, W.n0, W.m1, W.n1⟩
  · by_cases z : b = q
    · subst z; rw [upd_same] at eb ⊢; exact eb
    · rw [upd_ne z] at eb ⊢; exact W.same b u eb
  · have hb0 := hn b hb
    have hbq : b ≠ q := by
      rintro rfl
      have hp2 : (upd H b o) p = some (.ins C dx' (flds a' s l')) := same_upd hq _ _ hp'
      rw [hp] at hp2
      have e1 : flds a s l = flds a' s l' := by injection hp2 with z; injection z
      have ea : a = a' := by
        have := congrArg (fun f => List.lookup ("rows" : Str) f) e1
        simp only [flds_rows] at this
        injection this with z; injection z
      have el : l = l' := by
        have := congrArg (fun f => List.lookup ("changes" : Str) f) e1
        simp only [flds_changes] at this
        injection this with z; injection z
      subst ea el
      have hrs : rs = rs' := by
        have h1 := same_upd (o := o) hq _ _ ht'.tab.1
        rw [ht.tab.1] at h1
        injection h1 with z; injection z with z
        exact map_ref_inj z
      subst hrs
      rcases List.mem_cons.mp hb with z | hb
      · rw [z] at hq; rw [hp'] at hq; cases hq
      rcases List.mem_cons.mp hb with z | hb
      · rw [z] at hq; rw [hc'.1] at hq; cases hq
      obtain ⟨u, hu⟩ := ht'.tracked b hb
      rw [hu] at hq; cases hq
    rw [upd_ne hbq]; exact hb0
where
  map_ref_inj : ∀ {xs ys : List Addr}, xs.map V.ref = ys.map V.ref → xs = ys
    | [], [], _ => rfl
    | [], _ :: _, h => by simp at h
    | _ :: _, [], h => by simp at h
    | x :: xs, y :: ys, h => by
      simp only [List.map_cons, List.cons.injEq, V.ref.injEq] at h
      rw [h.1, map_ref_inj h.2]
theorem WalkAt.put {q : Addr} {o u : HO} (W : WalkAt C H0 H p e m n s cs) (hq : H0 q = some u) (hm : ∀ xs, u ≠ .tup xs) : WalkAt C (upd H0 q o) (upd H q o) p e m n s cs := by
  obtain ⟨dx, a, l, rs, ts, T, hp, ht, hr, he, hc, hl, hn⟩ := W.ex
  have ne : ∀ b ∈ p :: l :: a :: rs, b ≠ q := fun b hb z => by rw [z] at hb; rw [hn q hb] at hq; cases hq
  have st : Stay H (upd H q o) [q] := fun b v eb hb => by rw [upd_ne (by simpa using hb)]; exact eb
  refine ⟨fun b v eb => ?_, ⟨dx, a, l, rs, ts, T, ?_, ?_, hr, he, ⟨?_, ?_⟩, hl, fun b hb => ?_⟩, W.m0, W.n0, W.m1, W.n1⟩
  · by_cases z : b = q
    · subst z; rw [upd_same] at eb ⊢; exact eb
    · rw [upd_ne z] at eb ⊢; exact W.same b v eb
  · rw [upd_ne (ne p (by simp))]; exact hp
  · exact ht.stay st fun b hb => by simpa using ne b (in2 hb)
  · rw [upd_ne (ne l (by simp))]; exact hc.1
  · refine pimp hc.2 fun t c z => ?_
    show upd H q o t = _
    have : t ≠ q := by
      rintro rfl
      have h2 := W.same _ _ hq
      rw [IsCh, h2] at z
      exact hm _ (Option.some.inj z)
    rw [upd_ne this]; exact z
  · rw [upd_ne (ne b hb)]; exact hn b hb
end
structure WTxt (K : PySem.W.Frag) (C : Addr) : Prop where
  cl : Cls K C
  nR : NoAttr K C "rows"
  nS : NoAttr K C "side"
  nC : NoAttr K C "changes"
section
variable {P : Program} {w : World} {K : PySem.W.Frag} {mg : Str → Option Value} {base : Heap} {C : Addr}
theorem WalkAt.cell {H0 H : Hp} {p : Addr} {e : E1.Tab} {m n : Nat} {s : Bool} {cs : List Ch} {σ : St} {iw i j x y : Nat} {Q : VK} (W : WalkAt C H0 H p e m n s cs) (X : WTxt K C) (hw : σ[iw]? = some (some (.ref p))) (hi : σ[i]? = some (some (.int (x : Nat)))) (hj : σ[j]? = some (some (.int (y : Nat))))
    (hx : x < m) (hy : y < n) (k : Q (.int (e x y)) H) : tOp (rIxL K) (tOp (rIxL K) (tFld K (tVar iw) "rows") (tVar i)) (tVar j) σ H Q := by
  obtain ⟨dx, a, l, rs, ts, T, hp, ht, hr, rfl, hc, hl, hn⟩ := W.ex
  obtain ⟨r, er, _, hrow, hlr⟩ := ht.at hr hx
  exact ⟨_, hw, p, C, dx, _, _, rfl, hp, X.cl, X.nR, flds_rows _ _ _, _, hi, a, _, _, _, rfl, rfl, SqL.of ht.tab.1, atI_nat (rget er), _, hj, r, _, _, _, rfl, rfl, SqL.of hrow, atI_nat (iget (getD_some hlr hy)), k⟩
theorem WalkAt.rowAt {H0 H : Hp} {p : Addr} {e : E1.Tab} {m n : Nat} {s : Bool} {cs : List Ch} {σ : St} {iw i x : Nat} {Q : VK} (W : WalkAt C H0 H p e m n s cs) (X : WTxt K C) (hw : σ[iw]? = some (some (.ref p))) (hi : σ[i]? = some (some (.int (x : Nat))))
    (hx : x < m) (k : ∀ (r : Addr) (row : List Int), IsRow H r row → row.length = n → (fun y => row.getD y 0) = e x → Q (.ref r) H) : tOp (rIxL K) (tFld K (tVar iw) "rows") (tVar i) σ H Q := by
  obtain ⟨dx, a, l, rs, ts, T, hp, ht, hr, rfl, hc, hl, hn⟩ := W.ex
  obtain ⟨r, er, _, hrow, hlr⟩ := ht.at hr hx
  exact ⟨_, hw, p, C, dx, _, _, rfl, hp, X.cl, X.nR, flds_rows _ _ _, _, hi, a, _, _, _, rfl, rfl, SqL.of ht.tab.1, atI_nat (rget er), k r _ hrow hlr rfl⟩
theorem WalkAt.rows {H0 H : Hp} {p : Addr} {e : E1.Tab} {m n : Nat} {s : Bool} {cs : List Ch} {σ : St} {iw : Nat} {Q : VK} (W : WalkAt C H0 H p e m n s cs) (X : WTxt K C) (hw : σ[iw]? = some (some (.ref p)))
    (k : ∀ (a : Addr) (rs : List Addr) (T : Tb), TabAt H a rs T → Rect m n T → ent T = e → (∀ b ∈ a :: rs, H0 b = none) → Q (.ref a) H) : tFld K (tVar iw) "rows" σ H Q := by
  obtain ⟨dx, a, l, rs, ts, T, hp, ht, hr, he, hc, hl, hn⟩ := W.ex
  exact ⟨_, hw, p, C, dx, _, _, rfl, hp, X.cl, X.nR, flds_rows _ _ _, k a rs T ht hr he fun b hb => hn b (in2 hb)⟩
theorem WalkAt.ob {H0 H : Hp} {p : Addr} {e : E1.Tab} {m n : Nat} {s : Bool} {cs : List Ch} (W : WalkAt C H0 H p e m n s cs) : ∃ (dx a l : Addr), H p = some (.ins C dx (flds a s l)) := by
  obtain ⟨dx, a, l, rs, ts, T, hp, _, _, _, _, _, _⟩ := W.ex
  exact ⟨dx, a, l, hp⟩
inductive SpInit (C : Addr) (vs : List V) (H : Hp) (Q : VK) : Prop
  | mk (H0 : Hp) (x dx a : Addr) (rs : List Addr) (T : Tb) (m n : Nat) (_ : vs = [.ref x, .ref a]) (_ : H x = some (.ins C dx [])) (_ : Same H0 H) (_ : H0 x = none) (_ : TabAt H a rs T) (_ : Rect m n T) (_ : 0 < m) (_ : 0 < n) (_ : m ≤ 1000) (_ : n ≤ 1000) (_ : ∀ H', WalkAt C H0 H' x (ent T) m n true [] → Q .non H') : SpInit C vs H Q
def spInit (C : Addr) : Sp := fun vs H Q _ => SpInit C vs H Q
theorem ok_Walk_init (D : MkAt K mg C "Walk" "Walk.__init__" s_Walk___init__ ["self", "table"]) (T : Bt mg) (X : WTxt K C) (C_copied : Callee P w K mg base 1 "copied" ["table"] spCopy) : Maker P w K mg base C 2 "Walk" ["self", "table"] (spInit C) := by
  refine D.ok (k := 1) sc_Walk___init__ (fun vs H Q E h => ?_) (fun f cdv A outer s H vs Q E hr h => ?_)
  · obtain ⟨_, _, _, _, _, _, _, _, rfl, _⟩ := h
    rfl
  · obtain ⟨H0, x, dx, a, rs, Tt, m, n, rfl, hx, sm0, hx0, ht, hr', m0, n0, m1, n1, k⟩ := h
    refine ⟨_, (pss_cons (ps_fld (pv 0) (pe_callC C_copied (hr.mono (by decide)) rfl (pa_cons (pv 1) pa_nil)) rfl)
        (pss_cons (ps_fld (pv 0) pe_str rfl)
        (pss_one (ps_fld (pv 0) (pe_lst pa_nil) rfl)))), ?_⟩
    refine ⟨_, rfl, a, rs, Tt, rfl, ht, by rw [hr'.1]; exact m1, fun a2 qs H1 s1 ht1 new1 => ?_⟩
    refine ⟨_, rfl, x, C, dx, _, rfl, s1 _ _ hx, X.cl, X.nR, by show 0 < 1000; decide, ?_⟩
    refine ⟨_, rfl, x, C, dx, _, rfl, upd_same, X.cl, X.nS, by show 1 < 1000; decide, ?_⟩
    rw [pf2, upd_upd]
    refine ⟨Nat.zero_le _, fun l hl => ?_⟩
    have hxl : x ≠ l := by
      rintro rfl; rw [upd_same] at hl; cases hl
    have hl1 : H1 l = none := by rw [upd_ne hxl.symm] at hl; exact hl
    refine ⟨_, rfl, x, C, dx, _, rfl, by rw [upd_ne hxl, upd_same], X.cl, X.nC, by show 2 < 1000; decide, ?_⟩
    have hx1 := s1 _ _ hx
    have hax : ∀ b ∈ a2 :: qs, b ≠ x := fun b hb z => by
      have := new1 b hb
      rw [z, hx] at this; cases this
    have hal : ∀ b ∈ a2 :: qs, b ≠ l := fun b hb z => by
      obtain ⟨o, ho⟩ := ht1.tracked b hb
      rw [z, hl1] at ho; cases ho
    refine k _ ⟨fun b o eb => ?_, ⟨dx, a2, l, qs, [], Tt, ?_, ?_, hr', rfl, ⟨?_, .nil⟩, fun z => (hal l z) rfl, fun b hb => ?_⟩, m0, n0, m1, n1⟩
    · have hbx : b ≠ x := fun z => by rw [z, hx0] at eb; cases eb
      have hb1 := s1 _ _ (sm0 _ _ eb)
      rw [upd_ne hbx, upd_ne (ne_of_none hb1 hl1), upd_ne hbx]
      exact hb1
    · rw [upd_same, pf3]; rfl
    · refine ht1.stay (F := [x, l]) (fun b o eb hb => ?_) fun b hb => ?_
      · have hb : b ≠ x ∧ b ≠ l := by simpa using hb
        rw [upd_ne hb.1, upd_ne hb.2, upd_ne hb.1]; exact eb
      · simp [hax b hb, hal b hb]
    · rw [upd_ne hxl.symm, upd_same]; rfl
    · rcases List.mem_cons.mp hb with z | hb
      · rw [z]; exact hx0
      rcases List.mem_cons.mp hb with z | hb
      · rw [z]; exact sm0.free (s1.free hl1)
      · exact sm0.free (new1 b hb)
end
end X1

namespace X1
open PySem L2
theorem rowd_toCh (s : Bool) (c : E1.RC) : (toCh (s, c)).rowd = toCh (true, c) := by cases c <;> rfl
theorem fits_toCh {B : Nat} {s : Bool} {c : E1.RC} (h : E1.qle B c) : (toCh (s, c)).fits B := by cases c <;> exact h
section
variable {P : Program} {w : World} {K : PySem.W.Frag} {mg : Str → Option Value} {base : Heap} {C : Addr}
inductive SpMake (B : Nat) (C : Addr) (vs : List V) (H : Hp) (Q : VK) : Prop
  | mk (H0 : Hp) (p t : Addr) (e : E1.Tab) (m n : Nat) (s : Bool) (cs : List Ch) (c : E1.RC) (_ : vs = [.ref p, .ref t]) (_ : WalkAt C H0 H p e m n s cs) (_ : IsCh H t (tc s c)) (_ : c.ok m) (_ : E1.qle B c) (_ : E1.Le B e) (_ : cs.length < sizeLine) (_ : ∀ H', WalkAt C H0 H' p (c.app e) m n s (cs ++ [tc s c]) → Q .non H') : SpMake B C vs H Q
def spMake (B : Nat) (C : Addr) : Sp := fun vs H Q _ => SpMake B C vs H Q
theorem ok_Walk_make {B : Nat} (D : MDefAt K C "make" "Walk.make" s_Walk_make ["self", "change"]) (T : Bt mg) (X : WTxt K C) (C_change_by_row : Callee P w K mg base 2 "change_by_row" ["rows", "change"] (spRow B)) : MCallee P w K mg base C 3 "make" ["self", "change"] (spMake B C) := by
  refine D.ok (k := 2) X.cl sc_Walk_make (fun vs H Q E h => ?_) (fun f cdv A outer s H vs Q E hr h => ?_)
  · obtain ⟨_, _, _, _, _, _, _, _, _, rfl, _⟩ := h
    rfl
  · obtain ⟨H0, p, t, e, m, n, s, cs, c, rfl, W, ht, hok, hq, hle, hz, k⟩ := h
    refine ⟨_, (pss_cons (ps_expr (pe_callC C_change_by_row (hr.mono (by decide)) rfl (pa_cons (pe_fld (pv 0) rfl) (pa_cons (pv 1) pa_nil))))
        (pss_one (ps_expr (pe_bm PySem.F.plainAttrs_list PySem.F.slot_list_append PySem.F.type_list_append mt_append (pe_fld (pv 0) rfl) (pa_cons (pv 1) pa_nil))))), ?_⟩
    obtain ⟨dx, a, l, rs, ts, Tt, hp, hta, hr', he, hc, hla, hn⟩ := W.ex
    have hokT : (toCh (s, c)).rowd.ok m n := by rw [rowd_toCh]; exact toCh_ok (show E1.ok2 m n (true, c) from hok)
    refine ⟨_, rfl, p, C, dx, _, _, rfl, hp, X.cl, X.nR, flds_rows _ _ _, _, rfl, a, t, rs, Tt, m, n, toCh (s, c), rfl, hta, hr', W.n1, ht, hokT, fits_toCh hq, by rw [he]; exact hle, fun qs H1 ht1 st1 new1 => ?_⟩
    have npa : p ∉ a :: rs := fun z => by
      rcases List.mem_cons.mp z with z | z
      · subst z; rw [hta.tab.1] at hp; cases hp
      · obtain ⟨row, e2⟩ := hta.tab.2.tracked p z
        rw [IsRow, hp] at e2; cases e2
    have hp1 := st1 _ _ hp npa
    have hl1 := st1 _ _ hc.1 hla
    have nt : t ∉ a :: rs := fun z => by
      rcases List.mem_cons.mp z with z | z
      · subst z; rw [IsCh, hta.tab.1] at ht; cases ht
      · obtain ⟨row, e2⟩ := hta.tab.2.tracked t z
        rw [IsRow, ht] at e2; cases e2
    have ht1' := st1 _ _ ht nt
    refine ⟨_, rfl, p, C, dx, _, _, rfl, hp1, X.cl, X.nC, flds_changes _ _ _, .inl ⟨rfl, _, SqL.of hl1⟩, _, rfl, l, _, _, rfl, rfl, hl1, by rw [List.length_map, Paired.length hc.2]; exact hz, ?_⟩
    have hent : ent ((toCh (s, c)).rowd.app Tt) = c.app e := by
      rw [rowd_toCh, ent_toCh hr' (show E1.ok2 m n (true, c) from hok), he]; rfl
    have hrect : Rect m n ((toCh (s, c)).rowd.app Tt) := Ch.app_rect hr' hokT
    have memq : ∀ b ∈ a :: qs, b ∈ a :: rs ∨ H b = none := fun b hb => by
      rcases List.mem_cons.mp hb with z | z
      · exact .inl (by rw [z]; exact List.mem_cons_self)
      · rcases new1 b z with z | z
        · exact .inl (List.mem_cons_of_mem _ z)
        · exact .inr z
    have hlq : l ∉ a :: qs := fun z => by
      rcases memq l z with z | z
      · exact hla z
      · rw [hc.1] at z; cases z
    refine k _ ⟨fun b o eb => ?_, ⟨dx, a, l, qs, ts ++ [t], _, ?_, ?_, hrect, hent, ⟨?_, ?_⟩, hlq, fun b hb => ?_⟩, W.m0, W.n0, W.m1, W.n1⟩
    · have hbl : b ≠ l := fun z => by rw [z, hn l (by simp)] at eb; cases eb
      rw [upd_ne hbl]
      refine st1 _ _ (W.same _ _ eb) fun z => ?_
      rw [hn b (in2 z)] at eb; cases eb
    · rw [upd_ne (ne_of hp1 hl1 (by intro z; cases z))]; exact hp1
    · exact ht1.stay (F := [l]) (fun b o eb hb => by rw [upd_ne (by simpa using hb)]; exact eb) fun b hb => by
        simp only [List.mem_singleton]
        rintro rfl; exact hlq hb
    · rw [upd_same, List.map_append]; rfl
    · refine psnoc (pimp hc.2 fun t' c' z => ?_) ?_
      · show upd H1 l _ t' = _
        have z1 : H1 t' = some (.tup (chV c')) := st1 _ _ z fun zz => by
          rcases List.mem_cons.mp zz with zz | zz
          · subst zz; rw [IsCh, hta.tab.1] at z; cases z
          · obtain ⟨row, e2⟩ := hta.tab.2.tracked t' zz
            rw [IsRow, z] at e2; cases e2
        rw [upd_ne (ne_of z1 hl1 (by intro z; cases z))]; exact z1
      · show upd H1 l _ t = _
        rw [upd_ne (ne_of ht1' hl1 (by intro z; cases z))]; exact ht1'
    · rcases List.mem_cons.mp hb with z | hb
      · rw [z]; exact hn p (by simp)
      rcases List.mem_cons.mp hb with z | hb
      · rw [z]; exact hn l (by simp)
      · rcases memq b hb with z | z
        · exact hn b (in2 z)
        · exact W.same.free z
inductive SpAdd (B : Nat) (C : Addr) (vs : List V) (H : Hp) (Q : VK) : Prop
  | mk (H0 : Hp) (p : Addr) (e : E1.Tab) (m n : Nat) (s : Bool) (cs : List Ch) (i j : Nat) (q : Int) (_ : vs = [.ref p, .int i, .int j, .int q]) (_ : WalkAt C H0 H p e m n s cs) (_ : i < m) (_ : j < m) (_ : i ≠ j) (_ : q.natAbs ≤ 2 ^ B) (_ : E1.Le B e) (_ : cs.length + (E1.lch i j q).length ≤ sizeLine) (_ : ∀ H', WalkAt C H0 H' p (E1.addR e i j q) m n s (cs ++ (E1.lch i j q).map (tc s)) → Q .non H') : SpAdd B C vs H Q
def spAdd (B : Nat) (C : Addr) : Sp := fun vs H Q _ => SpAdd B C vs H Q
theorem ok_Walk_add_times {B : Nat} (D : MDefAt K C "add_times" "Walk.add_times" s_Walk_add_times ["self", "one", "two", "many"]) (T : Bt mg) (X : WTxt K C) (M_make : MCallee P w K mg base C 3 "make" ["self", "change"] (spMake B C)) : MCallee P w K mg base C 4 "add_times" ["self", "one", "two", "many"] (spAdd B C) := by
  refine D.ok (k := 3) X.cl sc_Walk_add_times (fun vs H Q E h => ?_) (fun f cdv A outer s H vs Q E hr h => ?_)
  · obtain ⟨_, _, _, _, _, _, _, _, _, _, rfl, _⟩ := h
    rfl
  · obtain ⟨H0, p, e, m, n, s, cs, i, j, q, rfl, W, hi, hj, hij, hq, hle, hz, k⟩ := h
    refine ⟨_, (pss_one (ps_if (pt_cmpR op_ne (pv 3) pe_int (nomark _)) (pss_one (ps_expr (pe_methC M_make (pv 0) (hr.mono (by decide)) (pa_cons (pe_tup (pa_cons pe_str (pa_cons (pe_fld (pv 0) rfl) (pa_cons (pv 1) (pa_cons (pv 2) (pa_cons (pv 3) pa_nil)))))) pa_nil)))) pss_nil)), ?_⟩
    refine ⟨_, rfl, rfl, _, rfl, ?_⟩
    by_cases h0 : q = 0
    · refine iteNS (by rw [h0]) ?_
      have e1 : E1.lch i j q = [] := by unfold E1.lch; rw [if_pos h0]
      rw [e1, h0, E1.addR_zero] at k
      exact k H (by simpa using W)
    · refine iteNN (v_ne h0) ?_
      have e1 : E1.lch i j q = [.add i j q] := by unfold E1.lch; rw [if_neg h0]
      rw [e1] at k hz
      obtain ⟨dx, a, l, hp⟩ := W.ob
      refine ⟨_, rfl, p, dx, _, rfl, hp, (by first | exact no_lessen _ _ _ | exact no_make _ _ _ | exact no_add_times _ _ _ | exact no_swap_rows _ _ _ | exact no_tip_over _ _ _ | exact no_meet _ _ _ | exact no_turn_row _ _ _), _, rfl, p, C, dx, _, _, rfl, hp, X.cl, X.nS, flds_side _ _ _, _, rfl, _, rfl, _, rfl, by show 5 ≤ sizeLine; decide, fun t ht => ?_⟩
      exact ⟨H0, p, t, e, m, n, s, cs, .add i j q, rfl, W.on (same_upd ht), upd_same, ⟨hi, hj, hij⟩, hq, hle, hz, fun H' W' => k H' W'⟩
inductive SpSwapR (B : Nat) (C : Addr) (vs : List V) (H : Hp) (Q : VK) : Prop
  | mk (H0 : Hp) (p : Addr) (e : E1.Tab) (m n : Nat) (s : Bool) (cs : List Ch) (i j : Nat) (_ : vs = [.ref p, .int i, .int j]) (_ : WalkAt C H0 H p e m n s cs) (_ : i < m) (_ : j < m) (_ : E1.Le B e) (_ : cs.length + (if i = j then [] else [E1.RC.swap i j]).length ≤ sizeLine) (_ : ∀ H', WalkAt C H0 H' p (E1.rapps (if i = j then [] else [E1.RC.swap i j]) e) m n s (cs ++ (if i = j then [] else [E1.RC.swap i j]).map (tc s)) → Q .non H') : SpSwapR B C vs H Q
def spSwapR (B : Nat) (C : Addr) : Sp := fun vs H Q _ => SpSwapR B C vs H Q
theorem ok_Walk_swap_rows {B : Nat} (D : MDefAt K C "swap_rows" "Walk.swap_rows" s_Walk_swap_rows ["self", "one", "two"]) (T : Bt mg) (X : WTxt K C) (M_make : MCallee P w K mg base C 3 "make" ["self", "change"] (spMake B C)) : MCallee P w K mg base C 4 "swap_rows" ["self", "one", "two"] (spSwapR B C) := by
  refine D.ok (k := 3) X.cl sc_Walk_swap_rows (fun vs H Q E h => ?_) (fun f cdv A outer s H vs Q E hr h => ?_)
  · obtain ⟨_, _, _, _, _, _, _, _, _, rfl, _⟩ := h
    rfl
  · obtain ⟨H0, p, e, m, n, s, cs, i, j, rfl, W, hi, hj, hle, hz, k⟩ := h
    refine ⟨_, (pss_one (ps_if (pt_cmpR op_ne (pv 1) (pv 2) (nomark _)) (pss_one (ps_expr (pe_methC M_make (pv 0) (hr.mono (by decide)) (pa_cons (pe_tup (pa_cons pe_str (pa_cons (pe_fld (pv 0) rfl) (pa_cons (pv 1) (pa_cons (pv 2) pa_nil))))) pa_nil)))) pss_nil)), ?_⟩
    refine ⟨_, rfl, _, rfl, rfl, _, rfl, ?_⟩
    by_cases h0 : i = j
    · refine iteNS (by rw [h0]) ?_
      rw [if_pos h0] at k
      exact k H (by simpa [E1.rapps] using W)
    · refine iteNN (v_ne (by (first | lia | omega))) ?_
      rw [if_neg h0] at k hz
      obtain ⟨dx, a, l, hp⟩ := W.ob
      refine ⟨_, rfl, p, dx, _, rfl, hp, (by first | exact no_lessen _ _ _ | exact no_make _ _ _ | exact no_add_times _ _ _ | exact no_swap_rows _ _ _ | exact no_tip_over _ _ _ | exact no_meet _ _ _ | exact no_turn_row _ _ _), _, rfl, p, C, dx, _, _, rfl, hp, X.cl, X.nS, flds_side _ _ _, _, rfl, _, rfl, by show 4 ≤ sizeLine; decide, fun t ht => ?_⟩
      exact ⟨H0, p, t, e, m, n, s, cs, .swap i j, rfl, W.on (same_upd ht), upd_same, ⟨hi, hj, h0⟩, trivial, hle, hz, fun H' W' => k H' W'⟩
inductive SpLess (B : Nat) (C : Addr) (vs : List V) (H : Hp) (Q : VK) : Prop
  | mk (H0 : Hp) (p : Addr) (e : E1.Tab) (m n : Nat) (s : Bool) (cs : List Ch) (i j y : Nat) (_ : vs = [.ref p, .int i, .int j, .int y]) (_ : WalkAt C H0 H p e m n s cs) (_ : i < m) (_ : j < m) (_ : i ≠ j) (_ : y < n) (_ : e j y ≠ 0) (_ : E1.Le B e) (_ : cs.length + (E1.lch i j (E1.lq e i j y)).length ≤ sizeLine) (_ : ∀ H', WalkAt C H0 H' p (E1.less e i j y) m n s (cs ++ (E1.lch i j (E1.lq e i j y)).map (tc s)) → Q .non H') : SpLess B C vs H Q
def spLess (B : Nat) (C : Addr) : Sp := fun vs H Q _ => SpLess B C vs H Q
theorem ok_Walk_lessen {B : Nat} (hB : B ≤ 33554432) (hB1 : 1 ≤ B) (hse : base.NoSeer) (htr : P.given.tree = none) (D : MDefAt K C "lessen" "Walk.lessen" s_Walk_lessen ["self", "one", "two", "place"]) (T : Bt mg) (X : WTxt K C) (M_add_times : MCallee P w K mg base C 4 "add_times" ["self", "one", "two", "many"] (spAdd B C)) : MCallee P w K mg base C 41 "lessen" ["self", "one", "two", "place"] (spLess B C) := by
  refine D.ok (k := 40) X.cl sc_Walk_lessen (fun vs H Q E h => ?_) (fun f cdv A outer s H vs Q E hr h => ?_)
  · obtain ⟨_, _, _, _, _, _, _, _, _, _, rfl, _⟩ := h
    rfl
  · obtain ⟨H0, p, e, m, n, s, cs, i, j, y, rfl, W, hi, hj, hij, hy, hnz, hle, hz, k⟩ := h
    refine ⟨_, (pss_cons (ps_set (i := 4) sc_Walk_lessen.nd rfl (Or.inl rfl) (pe_ix ix_list (pe_ix ix_list (pe_fld (pv 0) rfl) (pv 1) (fun _ _ => rfl)) (pv 3) (fun _ _ => rfl)))
        (pss_cons (ps_set (i := 5) sc_Walk_lessen.nd rfl (Or.inl rfl) (pe_ix ix_list (pe_ix ix_list (pe_fld (pv 0) rfl) (pv 2) (fun _ _ => rfl)) (pv 3) (fun _ _ => rfl)))
        (pss_one (ps_expr (pe_methC M_add_times (pv 0) (hr.mono (by decide)) (pa_cons (pv 1) (pa_cons (pv 2) (pa_cons (pe_un un_neg (pe_op (op_fdivB hse htr hr (by decide) rfl rfl ⟨_, rfl⟩) (pe_op op_add (pe_op (op_mulB B hB) pe_int (pv 4)) (pv 5)) (pe_op (op_mulB B hB) pe_int (pv 5)))) pa_nil)))))))), ?_⟩
    have h2 : (2 : Int).natAbs ≤ 2 ^ B := by
      have : 2 ^ 1 ≤ 2 ^ B := Nat.pow_le_pow_right (by decide) hB1
      exact this
    refine W.cell X (iw := 0) (i := 1) (j := 3) rfl rfl rfl hi hy ?_
    refine W.cell X (iw := 0) (i := 2) (j := 3) rfl rfl rfl hj hy ?_
    obtain ⟨dx, a, l, hp⟩ := W.ob
    refine ⟨_, rfl, p, dx, _, rfl, hp, (by first | exact no_lessen _ _ _ | exact no_make _ _ _ | exact no_add_times _ _ _ | exact no_swap_rows _ _ _ | exact no_tip_over _ _ _ | exact no_meet _ _ _ | exact no_turn_row _ _ _), _, rfl, _, rfl, _, rfl, _, _, rfl, rfl, ⟨h2, hle i y⟩, _, rfl, _, _, rfl, rfl, _, rfl, _, _, rfl, rfl, ⟨h2, hle j y⟩, _, _, rfl, rfl, by (first | lia | omega), _, rfl, ?_⟩
    have hql : (E1.lq e i j y).natAbs ≤ 2 ^ B := Nat.le_trans (E1.quo_le hnz) (hle i y)
    exact ⟨H0, p, e, m, n, s, cs, i, j, E1.lq e i j y, rfl, W, hi, hj, hij, hql, hle, hz, fun H' W' => k H' W'⟩
inductive SpMeet (B : Nat) (C : Addr) (vs : List V) (H : Hp) (Q : VK) : Prop
  | mk (H0 : Hp) (p : Addr) (e e' : E1.Tab) (m n : Nat) (s : Bool) (cs : List Ch) (top low y : Nat) (L : List E1.RC) (_ : vs = [.ref p, .int top, .int low, .int y]) (_ : WalkAt C H0 H p e m n s cs) (_ : E1.MeetR B top low y e L e') (_ : top < m) (_ : low < m) (_ : top ≠ low) (_ : y < n) (_ : cs.length + L.length ≤ sizeLine) (_ : ∀ H', WalkAt C H0 H' p e' m n s (cs ++ L.map (tc s)) → Q .non H') : SpMeet B C vs H Q
def spMeet (B : Nat) (C : Addr) : Sp := fun vs H Q _ => SpMeet B C vs H Q
theorem ok_Walk_meet {B : Nat} (D : MDefAt K C "meet" "Walk.meet" s_Walk_meet ["self", "top", "low", "place"]) (T : Bt mg) (X : WTxt K C) (M_lessen : MCallee P w K mg base C 41 "lessen" ["self", "one", "two", "place"] (spLess B C)) (M_swap_rows : MCallee P w K mg base C 4 "swap_rows" ["self", "one", "two"] (spSwapR B C)) : MCallee P w K mg base C 42 "meet" ["self", "top", "low", "place"] (spMeet B C) := by
  refine D.ok (k := 41) X.cl sc_Walk_meet (fun vs H Q E h => ?_) (fun f cdv A outer s H vs Q E hr h => ?_)
  · obtain ⟨_, _, _, _, _, _, _, _, _, _, _, _, rfl, _⟩ := h
    rfl
  · obtain ⟨H0, p, e, e', m, n, s, cs, top, low, y, L, rfl, W, hm, ht, hl, htl, hy, hz, k⟩ := h
    refine ⟨_, (pss_one (ps_while PassesOwn.never (pt_cmpR op_ne (pe_ix ix_list (pe_ix ix_list (pe_fld (pv 0) rfl) (pv 2) (fun _ _ => rfl)) (pv 3) (fun _ _ => rfl)) pe_int (nomark _)) (pss_cons (ps_expr (pe_methC M_lessen (pv 0) (hr.mono (by decide)) (pa_cons (pv 2) (pa_cons (pv 1) (pa_cons (pv 3) pa_nil)))))
        (pss_one (ps_if (pt_cmpR op_ne (pe_ix ix_list (pe_ix ix_list (pe_fld (pv 0) rfl) (pv 2) (fun _ _ => rfl)) (pv 3) (fun _ _ => rfl)) pe_int (nomark _)) (pss_cons (ps_expr (pe_methC M_lessen (pv 0) (hr.mono (by decide)) (pa_cons (pv 1) (pa_cons (pv 2) (pa_cons (pv 3) pa_nil)))))
        (pss_one (ps_if (pt_cmpR op_eq (pe_ix ix_list (pe_ix ix_list (pe_fld (pv 0) rfl) (pv 1) (fun _ _ => rfl)) (pv 3) (fun _ _ => rfl)) pe_int (nomark _)) (pss_one (ps_expr (pe_methC M_swap_rows (pv 0) (hr.mono (by decide)) (pa_cons (pv 1) (pa_cons (pv 2) pa_nil))))) pss_nil))) pss_nil))))), ?_⟩
    obtain ⟨N, hN⟩ := E1.meetH_of hm
    refine ⟨fun M σ H2 => σ = [some (.ref p), some (.int top), some (.int low), some (.int y)] ∧ ∃ (e1 : E1.Tab) (cs1 : List Ch) (L1 : List E1.RC), E1.MeetH B top low y M e1 L1 e' ∧ WalkAt C H0 H2 p e1 m n s cs1 ∧ cs1 ++ L1.map (tc s) = cs ++ L.map (tc s), ⟨N, rfl, e, cs, L, hN, W, rfl⟩, ?_⟩
    rintro M σ H2 ⟨rfl, e1, cs1, L1, hM, W1, hcs⟩
    have hlen : cs1.length + L1.length = cs.length + L.length := by
      have := congrArg List.length hcs
      simpa using this
    refine W1.cell X (iw := 0) (i := 2) (j := 3) rfl rfl rfl hl hy ⟨rfl, _, rfl, ?_⟩
    cases M with
    | zero => exact absurd hM (by simp [E1.MeetH])
    | succ M =>
    rcases hM with ⟨hle, h0, rfl, rfl⟩ | ⟨hle, h0, h1, e2, he2, hle2, hM⟩
    · rw [h0]
      refine iteF ?_
      exact k H2 (by rw [← hcs]; simpa using W1)
    · refine iteNN (v_ne h0) ?_
      refine ⟨fun σ' H' => σ' = [some (.ref p), some (.int top), some (.int low), some (.int y)] ∧ ∃ (e1 : E1.Tab) (cs1 : List Ch) (L1 : List E1.RC), E1.MeetH B top low y M e1 L1 e' ∧ WalkAt C H0 H' p e1 m n s cs1 ∧ cs1 ++ L1.map (tc s) = cs ++ L.map (tc s), fun σ' H' z => ⟨M, Nat.lt_succ_self _, z⟩, ?_⟩
      obtain ⟨dx, a, l, hp⟩ := W1.ob
      have hz1 : cs1.length + (E1.lch low top (E1.lq e1 low top y)).length ≤ sizeLine := by
        rcases hM with ⟨_, rfl, _⟩ | ⟨_, e3, _, _, ⟨_, L2, _, rfl⟩ | ⟨_, rfl, _⟩⟩
        · (first | lia | omega)
        · simp only [List.length_append] at hlen; (first | lia | omega)
        · simp only [List.length_append] at hlen; (first | lia | omega)
      refine ⟨_, rfl, p, dx, _, rfl, hp, (by first | exact no_lessen _ _ _ | exact no_make _ _ _ | exact no_add_times _ _ _ | exact no_swap_rows _ _ _ | exact no_tip_over _ _ _ | exact no_meet _ _ _ | exact no_turn_row _ _ _), _, rfl, _, rfl, _, rfl, H0, p, e1, m, n, s, cs1, low, top, y, rfl, W1, hl, ht, htl.symm, hy, h1, hle, hz1, fun H3 W3 => ?_⟩
      rw [← he2] at W3
      refine W3.cell X (iw := 0) (i := 2) (j := 3) rfl rfl rfl hl hy ⟨rfl, _, rfl, ?_⟩
      rcases hM with ⟨g0, rfl, rfl, k', rfl⟩ | ⟨g0, e3, he3, hle3, hM⟩
      · rw [g0]
        refine iteF ⟨rfl, e', _, [], ?_, W3, ?_⟩
        · exact .inl ⟨hle2, g0, rfl, rfl⟩
        · simpa using hcs
      · refine iteNN (v_ne g0) ?_
        obtain ⟨dx3, a3, l3, hp3⟩ := W3.ob
        have hz3 : (cs1 ++ (E1.lch low top (E1.lq e1 low top y)).map (tc s)).length + (E1.lch top low (E1.lq e2 top low y)).length ≤ sizeLine := by
          rcases hM with ⟨_, L2, _, rfl⟩ | ⟨_, rfl, _⟩ <;> simp at hlen ⊢ <;> (first | lia | omega)
        refine ⟨_, rfl, p, dx3, _, rfl, hp3, (by first | exact no_lessen _ _ _ | exact no_make _ _ _ | exact no_add_times _ _ _ | exact no_swap_rows _ _ _ | exact no_tip_over _ _ _ | exact no_meet _ _ _ | exact no_turn_row _ _ _), _, rfl, _, rfl, _, rfl, H0, p, e2, m, n, s, _, top, low, y, rfl, W3, ht, hl, htl, hy, g0, hle2, hz3, fun H4 W4 => ?_⟩
        rw [← he3] at W4
        refine W4.cell X (iw := 0) (i := 1) (j := 3) rfl rfl rfl ht hy ⟨rfl, _, rfl, ?_⟩
        rcases hM with ⟨g1, L2, hM2, rfl⟩ | ⟨g1, rfl, rfl, g2, g3, k', rfl⟩
        · refine iteN (v_ne g1) ⟨rfl, e3, _, L2, hM2, W4, ?_⟩
          rw [← hcs]; simp
        · refine iteP (congrArg V.int g1) ?_
          obtain ⟨dx4, a4, l4, hp4⟩ := W4.ob
          refine ⟨_, rfl, p, dx4, _, rfl, hp4, (by first | exact no_lessen _ _ _ | exact no_make _ _ _ | exact no_add_times _ _ _ | exact no_swap_rows _ _ _ | exact no_tip_over _ _ _ | exact no_meet _ _ _ | exact no_turn_row _ _ _), _, rfl, _, rfl, H0, p, e3, m, n, s, _, top, low, rfl, W4, ht, hl, hle3, by rw [if_neg htl]; simp at hlen ⊢; (first | lia | omega), fun H5 W5 => ?_⟩
          rw [if_neg htl] at W5
          refine ⟨rfl, _, _, [], ?_, W5, ?_⟩
          · exact .inl ⟨g3, g2, rfl, rfl⟩
          · rw [← hcs]; simp
end
end X1

namespace X1
open PySem L2
def stV (st : List Nat) : List V := st.map fun i => V.int (i : Nat)
theorem stV_len (st : List Nat) : (stV st).length = st.length := by simp [stV]
theorem stV_at {st : List Nat} {i : Nat} (h : i < st.length) : (stV st)[i]? = some (.int (E1.sat st i : Nat)) := by
  simp [stV, E1.sat, h]
theorem upd_id {H : Hp} {q : Addr} {o : HO} (h : H q = some o) : upd H q o = H := by
  funext b
  unfold upd
  split
  · rename_i z; rw [z, h]
  · rfl
section
variable {P : Program} {w : World} {K : PySem.W.Frag} {mg : Str → Option Value} {base : Heap} {C : Addr}
inductive SpFirst (vs : List V) (H : Hp) (Q : VK) : Prop
  | mk (r : Addr) (row : List Int) (_ : vs = [.ref r]) (_ : IsRow H r row) (_ : ∀ H', Same H H' → Q (.int (E1.fp (fun y => row.getD y 0) 0 row.length : Nat)) H') : SpFirst vs H Q
def spFirst : Sp := fun vs H Q _ => SpFirst vs H Q
theorem ok_first_place (D : DefAt K mg "first_place" s_first_place ["row"]) (T : Bt mg) : Callee P w K mg base 1 "first_place" ["row"] spFirst := by
  refine D.ok (k := 0) sc_first_place (fun vs H Q E h => ?_) (fun f cdv A outer s H vs Q E hr h => ?_)
  · obtain ⟨_, _, rfl, _⟩ := h
    rfl
  · obtain ⟨r, row, rfl, hrow, k⟩ := h
    refine ⟨_, (pss_cons (ps_for PassesOwn.never rfl (pi_enum rfl T.enumerate (pa_cons (pv 0) pa_nil)) (pg_tup (n := 2) rfl (pgs_cons (pg_name (i := 1) sc_first_place.nd rfl (Or.inl rfl)) (pgs_cons (pg_name (i := 2) sc_first_place.nd rfl (Or.inl rfl)) pgs_nil))) (pss_one (ps_if (pt_cmpR op_ne (pv 2) pe_int (nomark _)) (pss_one (ps_ret (pv 1))) pss_nil)))
        (pss_one (ps_ret (pe_callB call_len_seq rfl T.len bt_len (pa_cons (pv 0) pa_nil))))), ?_⟩
    refine ⟨_, rfl, r, _, rfl, SqL.of hrow, for_it (J := Ite K r) (n := row.length) (fun i σ H2 => Same H H2 ∧ (∃ v1 v2, σ = [some (.ref r), v1, v2]) ∧ ∀ z, z < i → row.getD z 0 = 0) ⟨Same.refl H, ⟨none, none, rfl⟩, fun z hz => absurd hz (Nat.not_lt_zero _)⟩
      (fun i σ H2 hi ⟨sm, _⟩ => ⟨_, SqL.of (sm _ _ hrow), by rw [List.length_map]; exact hi⟩) (fun σ H2 ⟨sm, _⟩ => ⟨_, SqL.of (sm _ _ hrow), by rw [List.length_map]; exact Nat.le_refl _⟩) ?_ ?_⟩
    · rintro i x σ H2 H3 hi ⟨sm, ⟨v1, v2, rfl⟩, hz⟩ ⟨q, u, rfl, hq, rfl, hu⟩
      obtain ⟨u', eu, rfl⟩ := mint (hu _ (SqL.of (sm _ _ hrow)))
      have eu' : row.getD i 0 = u' := by simp [eu]
      refine ⟨q, _, rfl, SqT.of upd_same, rfl, _, _, rfl, _, _, rfl, rfl, ?_⟩
      refine ⟨_, rfl, rfl, _, rfl, ?_⟩
      by_cases h0 : u' = 0
      · refine iteNS (by rw [h0]) ⟨sm.laid hq, ⟨_, _, rfl⟩, fun z hzi => ?_⟩
        by_cases e : z = i
        · rw [e, eu', h0]
        · exact hz z (by (first | lia | omega))
      · refine iteNN (v_ne h0) ⟨_, rfl, ?_⟩
        have e : E1.fp (fun y => row.getD y 0) 0 row.length = i := E1.fp_from _ _ _ (Nat.zero_le _) (by (first | lia | omega)) (fun z _ hzi => hz z hzi) (by show row.getD i 0 ≠ 0; rw [eu']; exact h0)
        have := k (upd H2 q (.tup [.int (i : Nat), .int u'])) (sm.laid hq)
        rw [e] at this
        exact this
    · rintro σ H2 ⟨sm, ⟨v1, v2, rfl⟩, hz⟩
      have e : E1.fp (fun y => row.getD y 0) 0 row.length = row.length := by
        rw [E1.fp_none row.length 0 (fun z _ hzi => hz z (by (first | lia | omega)))]; (first | lia | omega)
      have := k H2 sm
      rw [e] at this
      refine ⟨_, rfl, r, _, rfl, .inl (SqL.of (sm _ _ hrow)), ?_⟩
      rw [List.length_map]
      exact this
inductive SpLRow (B : Nat) (C : Addr) (vs : List V) (H : Hp) (Q : VK) : Prop
  | mk (H0 : Hp) (p q : Addr) (e e' : E1.Tab) (m n : Nat) (s : Bool) (cs : List Ch) (st : List Nat) (row t : Nat) (L : List E1.RC) (_ : vs = [.ref p, .ref q, .int row, .int t]) (_ : WalkAt C H0 H p e m n s cs) (_ : H0 q = some (.lst (stV st))) (_ : E1.LRow B st row t (st.length - t) e L e') (_ : row < m) (_ : t ≤ 2000) (_ : st.length ≤ m) (_ : (∀ i, t ≤ i → i < st.length → i ≠ row ∧ E1.sat st i < n)) (_ : cs.length + L.length ≤ sizeLine) (_ : ∀ H', WalkAt C H0 H' p e' m n s (cs ++ L.map (tc s)) → Q .non H') : SpLRow B C vs H Q
def spLRow (B : Nat) (C : Addr) : Sp := fun vs H Q _ => SpLRow B C vs H Q
theorem ok_lessen_row {B : Nat} (D : DefAt K mg "lessen_row" s_lessen_row ["walk", "steps", "row", "start"]) (T : Bt mg) (X : WTxt K C) (M_lessen : MCallee P w K mg base C 41 "lessen" ["self", "one", "two", "place"] (spLess B C)) : Callee P w K mg base 42 "lessen_row" ["walk", "steps", "row", "start"] (spLRow B C) := by
  refine D.ok (k := 41) sc_lessen_row (fun vs H Q E h => ?_) (fun f cdv A outer s H vs Q E hr h => ?_)
  · obtain ⟨_, _, _, _, _, _, _, _, _, _, _, _, _, rfl, _⟩ := h
    rfl
  · obtain ⟨H0, p, q, e, e', m, n, s, cs, st, row, t, L, rfl, W, hq, hL, hrow, ht, hst, hi, hz, k⟩ := h
    refine ⟨_, (pss_one (ps_for PassesOwn.never rfl (pi_range2 rfl T.range (pa_cons (pv 3) (pa_cons (pe_callB call_len_seq rfl T.len bt_len (pa_cons (pv 1) pa_nil)) pa_nil))) (pg_name (i := 4) sc_lessen_row.nd rfl (Or.inl rfl)) (pss_one (ps_expr (pe_methC M_lessen (pv 0) (hr.mono (by decide)) (pa_cons (pv 2) (pa_cons (pv 4) (pa_cons (pe_ix ix_list (pv 1) (pv 4) (fun _ _ => rfl)) pa_nil)))))))), ?_⟩
    have hq1 := W.same _ _ hq
    have hm1 := W.m1
    refine ⟨_, rfl, _, rfl, q, _, rfl, .inl (SqL.of hq1), _, _, rfl, ⟨by (first | lia | omega), by (first | lia | omega), by (first | lia | omega), by rw [stV_len]; (first | lia | omega)⟩, ?_⟩
    rw [stV_len]
    have en : ((st.length : Int) - (t : Int)).toNat = st.length - t := by (first | lia | omega)
    rw [en]
    refine for_range (fun i σ H2 => ∃ (v : Option V) (e1 : E1.Tab) (cs1 : List Ch) (L1 : List E1.RC), σ = [some (.ref p), some (.ref q), some (.int row), some (.int t), v] ∧ E1.LRow B st row (t + i) (st.length - t - i) e1 L1 e' ∧ WalkAt C H0 H2 p e1 m n s cs1 ∧ cs1 ++ L1.map (tc s) = cs ++ L.map (tc s)) ⟨none, e, cs, L, rfl, hL, W, rfl⟩ ?_ ?_
    · rintro i σ H2 hlt ⟨v, e1, cs1, L1, rfl, hL1, W1, hcs⟩
      have hlen : cs1.length + L1.length = cs.length + L.length := by
        have := congrArg List.length hcs
        simpa using this
      obtain ⟨k', hk'⟩ : ∃ k', st.length - t - i = k' + 1 := pred_sub hlt
      rw [hk'] at hL1
      obtain ⟨hle, hnz, L2, hL2, rfl⟩ := hL1
      have ex : ((t : Int) + (i : Int)) = ((t + i : Nat) : Int) := by (first | lia | omega)
      rw [ex]
      obtain ⟨hne, hsn⟩ := hi (t + i) (by (first | lia | omega)) (by (first | lia | omega))
      obtain ⟨dx, a, l, hp⟩ := W1.ob
      have hqa : (stV st)[t + i]? = some (.int (E1.sat st (t + i) : Nat)) := stV_at (by (first | lia | omega))
      refine ⟨_, rfl, p, dx, _, rfl, hp, (by first | exact no_lessen _ _ _ | exact no_make _ _ _ | exact no_add_times _ _ _ | exact no_swap_rows _ _ _ | exact no_tip_over _ _ _ | exact no_meet _ _ _ | exact no_turn_row _ _ _), _, rfl, _, rfl, _, rfl, _, rfl, q, _, _, _, rfl, rfl, SqL.of (W1.same _ _ hq), atI_nat hqa, H0, p, e1, m, n, s, cs1, row, t + i, E1.sat st (t + i), rfl, W1, hrow, by (first | lia | omega), hne.symm, hsn, hnz, hle, by simp at hlen; (first | lia | omega), fun H3 W3 => ?_⟩
      refine ⟨_, _, _, L2, rfl, ?_, W3, ?_⟩
      · have e2 : st.length - t - (i + 1) = k' := sub_succ' hk'
        rw [e2]; exact hL2
      · rw [← hcs]; simp
    · rintro σ H2 ⟨v, e1, cs1, L1, rfl, hL1, W1, hcs⟩
      have e2 : st.length - t - (st.length - t) = 0 := by (first | lia | omega)
      rw [e2] at hL1
      obtain ⟨_, rfl, rfl⟩ := hL1
      exact k H2 (by rw [← hcs]; simpa using W1)
inductive SpLift (B : Nat) (C : Addr) (vs : List V) (H : Hp) (Q : VK) : Prop
  | mk (H0 : Hp) (p : Addr) (e : E1.Tab) (m n : Nat) (s : Bool) (cs : List Ch) (low top ht : Nat) (_ : vs = [.ref p, .int low, .int top, .int ht]) (_ : WalkAt C H0 H p e m n s cs) (_ : low < m) (_ : ht ≤ low) (_ : top ≤ ht) (_ : E1.Le B e) (_ : cs.length + (E1.liftL low top ht).length ≤ sizeLine) (_ : ∀ H', WalkAt C H0 H' p (E1.rapps (E1.liftL low top ht) e) m n s (cs ++ (E1.liftL low top ht).map (tc s)) → Q .non H') : SpLift B C vs H Q
def spLift (B : Nat) (C : Addr) : Sp := fun vs H Q _ => SpLift B C vs H Q
theorem ok_lift {B : Nat} (D : DefAt K mg "lift" s_lift ["walk", "low", "top", "height"]) (T : Bt mg) (X : WTxt K C) (M_swap_rows : MCallee P w K mg base C 4 "swap_rows" ["self", "one", "two"] (spSwapR B C)) : Callee P w K mg base 5 "lift" ["walk", "low", "top", "height"] (spLift B C) := by
  refine D.ok (k := 4) sc_lift (fun vs H Q E h => ?_) (fun f cdv A outer s H vs Q E hr h => ?_)
  · obtain ⟨_, _, _, _, _, _, _, _, _, _, rfl, _⟩ := h
    rfl
  · obtain ⟨H0, p, e, m, n, s, cs, low, top, ht, rfl, W, hlow, h1, h2, hle, hz, k⟩ := h
    refine ⟨_, (pss_cons (ps_expr (pe_methC M_swap_rows (pv 0) (hr.mono (by decide)) (pa_cons (pv 1) (pa_cons (pv 3) pa_nil))))
        (pss_one (ps_for PassesOwn.never rfl (pi_rangeD rfl T.range (pa_cons (pv 3) (pa_cons (pv 2) (pa_cons (pe_un un_neg pe_int) pa_nil)))) (pg_name (i := 4) sc_lift.nd rfl (Or.inl rfl)) (pss_one (ps_expr (pe_methC M_swap_rows (pv 0) (hr.mono (by decide)) (pa_cons (pv 4) (pa_cons (pe_op op_sub (pv 4) pe_int) pa_nil)))))))), ?_⟩
    have hm1 := W.m1
    obtain ⟨dx, a, l, hp⟩ := W.ob
    unfold E1.liftL at hz k
    rw [List.length_append] at hz
    refine ⟨_, rfl, p, dx, _, rfl, hp, (by first | exact no_lessen _ _ _ | exact no_make _ _ _ | exact no_add_times _ _ _ | exact no_swap_rows _ _ _ | exact no_tip_over _ _ _ | exact no_meet _ _ _ | exact no_turn_row _ _ _), _, rfl, _, rfl, H0, p, e, m, n, s, cs, low, ht, rfl, W, hlow, by (first | lia | omega), hle, by (first | lia | omega), fun H1 W1 => ?_⟩
    generalize hL1 : (if low = ht then [] else [E1.RC.swap low ht]) = L1 at hz k W1
    have hle1 : E1.Le B (E1.rapps L1 e) := by
      rw [← hL1]
      split
      · exact hle
      · exact fun x y => hle _ _
    refine ⟨_, rfl, _, rfl, _, rfl, _, _, rfl, ⟨by (first | lia | omega), by (first | lia | omega), by (first | lia | omega), by (first | lia | omega)⟩, ?_⟩
    have en : ((ht : Int) - (top : Int)).toNat = ht - top := by (first | lia | omega)
    rw [en]
    refine for_down (fun i σ H2 => ∃ (v : Option V) (e1 : E1.Tab) (cs1 : List Ch), σ = [some (.ref p), some (.int low), some (.int top), some (.int ht), v] ∧ WalkAt C H0 H2 p e1 m n s cs1 ∧ E1.Le B e1 ∧ E1.rapps (E1.downs top (ht - top - i)) e1 = E1.rapps (L1 ++ E1.downs top (ht - top)) e ∧ cs1 ++ (E1.downs top (ht - top - i)).map (tc s) = cs ++ (L1 ++ E1.downs top (ht - top)).map (tc s)) ⟨none, _, _, rfl, W1, hle1, by rw [E1.rapps_app]; rfl, by simp⟩ ?_ ?_
    · rintro i σ H2 hlt ⟨v, e1, cs1, rfl, W2, hle2, he, hcs⟩
      obtain ⟨k', hk'⟩ : ∃ k', ht - top - i = k' + 1 := pred_sub hlt
      rw [hk'] at he hcs
      have hlen := congrArg List.length hcs
      simp only [List.length_append, List.length_map, E1.downs_len] at hlen hz
      obtain ⟨dx2, a2, l2, hp2⟩ := W2.ob
      have ex1 : ((ht : Int) - (i : Int)) = ((top + k' + 1 : Nat) : Int) := by (first | lia | omega)
      have ex2 : ((top + k' + 1 : Nat) : Int) - 1 = ((top + k' : Nat) : Int) := by (first | lia | omega)
      rw [ex1]
      refine ⟨_, rfl, p, dx2, _, rfl, hp2, (by first | exact no_lessen _ _ _ | exact no_make _ _ _ | exact no_add_times _ _ _ | exact no_swap_rows _ _ _ | exact no_tip_over _ _ _ | exact no_meet _ _ _ | exact no_turn_row _ _ _), _, rfl, _, rfl, _, _, rfl, rfl, ?_⟩
      dsimp only
      rw [ex2]
      have hne : ¬ top + k' + 1 = top + k' := by (first | lia | omega)
      refine ⟨H0, p, e1, m, n, s, cs1, top + k' + 1, top + k', rfl, W2, by (first | lia | omega), by (first | lia | omega), hle2, by rw [if_neg hne]; simp; (first | lia | omega), fun H3 W3 => ?_⟩
      rw [if_neg hne] at W3
      have e2 : ht - top - (i + 1) = k' := sub_succ' hk'
      refine ⟨_, _, _, rfl, W3, fun x y => hle2 _ _, ?_, ?_⟩
      · rw [e2, ← he]; rfl
      · rw [e2, ← hcs]; simp [E1.downs]
    · rintro σ H2 ⟨v, e1, cs1, rfl, W2, _, he, hcs⟩
      have e2 : ht - top - (ht - top) = 0 := by (first | lia | omega)
      rw [e2] at he hcs
      refine k H2 ?_
      rw [← he, ← hcs]
      simpa [E1.downs, E1.rapps] using W2
inductive SpTake (B : Nat) (C : Addr) (vs : List V) (H : Hp) (Q : VK) : Prop
  | mk (H0 : Hp) (p q : Addr) (e e1 e2 : E1.Tab) (m n : Nat) (s : Bool) (cs : List Ch) (st st1 : List Nat) (low top : Nat) (L1 L2 : List E1.RC) (_ : vs = [.ref p, .ref q, .int low]) (_ : WalkAt C H0 H p e m n s cs) (_ : H0 q = some (.lst (stV st))) (_ : E1.TakeR B low n st 0 e L1 top e1) (_ : top ≤ st.length) (_ : st.length ≤ low) (_ : low < m) (_ : ((E1.fp (e1 low) 0 n < n ∧ st1 = E1.ins st top (E1.fp (e1 low) 0 n) ∧ L2 = E1.liftL low top st.length ∧ e2 = E1.rapps L2 e1) ∨ (¬ E1.fp (e1 low) 0 n < n ∧ st1 = st ∧ L2 = [] ∧ e2 = e1))) (_ : (∀ i, i < st.length → E1.sat st i < n)) (_ : cs.length + (L1 ++ L2).length ≤ sizeLine) (_ : ∀ H', WalkAt C (upd H0 q (.lst (stV st1))) H' p e2 m n s (cs ++ (L1 ++ L2).map (tc s)) → Q .non H') : SpTake B C vs H Q
def spTake (B : Nat) (C : Addr) : Sp := fun vs H Q _ => SpTake B C vs H Q
theorem TakeR_le {B low n : Nat} {st : List Nat} {t top : Nat} {e e' : E1.Tab} {L : List E1.RC} (h : E1.TakeR B low n st t e L top e') : E1.Le B e' := by
  induction h with
  | stop h _ => exact h
  | skip _ _ _ _ ih => exact ih
  | meet _ _ _ _ _ _ _ ih => exact ih
theorem stV_ins (st : List Nat) (top x : Nat) : stV (E1.ins st top x) = (stV st).take top ++ V.int (x : Nat) :: (stV st).drop top := by
  simp [stV, E1.ins, List.map_take, List.map_drop]
theorem tAnd_of {tA tB : TT} {c1 c2 : Bool} {σ : St} {H : Hp} {Q : Bool → Hp → Prop} (hA : ∀ R : Bool → Hp → Prop, R c1 H → tA σ H R) (hB : c1 = true → ∀ R : Bool → Hp → Prop, (∀ H3, Same H H3 → R c2 H3) → tB σ H R) (k : ∀ H3, Same H H3 → Q (c1 && c2) H3) : tAnd tA tB σ H Q := by
  refine hA _ ?_
  cases c1 with
  | false => exact iteF (k H (Same.refl H))
  | true => exact iteT (hB rfl _ fun H3 s => k H3 s)
theorem ok_take_in {B : Nat} (D : DefAt K mg "take_in" s_take_in ["walk", "steps", "low"]) (T : Bt mg) (X : WTxt K C) (C_first_place : Callee P w K mg base 1 "first_place" ["row"] spFirst) (M_meet : MCallee P w K mg base C 42 "meet" ["self", "top", "low", "place"] (spMeet B C)) (C_lessen_row : Callee P w K mg base 42 "lessen_row" ["walk", "steps", "row", "start"] (spLRow B C)) (C_lift : Callee P w K mg base 5 "lift" ["walk", "low", "top", "height"] (spLift B C)) : Callee P w K mg base 43 "take_in" ["walk", "steps", "low"] (spTake B C) := by
  refine D.ok (k := 42) sc_take_in (fun vs H Q E h => ?_) (fun f cdv A outer s H vs Q E hr h => ?_)
  · obtain ⟨_, _, _, _, _, _, _, _, _, _, _, _, _, _, _, _, rfl, _⟩ := h
    rfl
  · obtain ⟨H0, p, q, e, e1, e2, m, n, s, cs, st, st1, low, top, L1, L2, rfl, W, hq, hT, htop, hst, hlow, hcase, hsat, hz, k⟩ := h
    refine ⟨_, (pss_cons (ps_set (i := 3) sc_take_in.nd rfl (Or.inl rfl) pe_int)
        (pss_cons (ps_while PassesOwn.never (PW.pt (pw_and (pt_cmpR op_lt (pv 3) (pe_callB call_len_seq rfl T.len bt_len (pa_cons (pv 1) pa_nil)) (nomark _)) (pw_and1 (pt_cmpR op_le (pe_ix ix_list (pv 1) (pv 3) (fun _ _ => rfl)) (pe_callC C_first_place (hr.mono (by decide)) rfl (pa_cons (pe_ix ix_list (pe_fld (pv 0) rfl) (pv 2) (fun _ _ => rfl)) pa_nil)) (nomark _))))) (pss_cons (ps_if (pt_cmpR op_eq (pe_ix ix_list (pv 1) (pv 3) (fun _ _ => rfl)) (pe_callC C_first_place (hr.mono (by decide)) rfl (pa_cons (pe_ix ix_list (pe_fld (pv 0) rfl) (pv 2) (fun _ _ => rfl)) pa_nil)) (nomark _)) (pss_cons (ps_expr (pe_methC M_meet (pv 0) (hr.mono (by decide)) (pa_cons (pv 3) (pa_cons (pv 2) (pa_cons (pe_ix ix_list (pv 1) (pv 3) (fun _ _ => rfl)) pa_nil)))))
        (pss_cons (ps_expr (pe_callC C_lessen_row (hr.mono (by decide)) rfl (pa_cons (pv 0) (pa_cons (pv 1) (pa_cons (pv 3) (pa_cons (pe_op op_add (pv 3) pe_int) pa_nil))))))
        (pss_one (ps_expr (pe_callC C_lessen_row (hr.mono (by decide)) rfl (pa_cons (pv 0) (pa_cons (pv 1) (pa_cons (pv 2) (pa_cons (pe_op op_add (pv 3) pe_int) pa_nil))))))))) pss_nil)
        (pss_one (ps_aug (i := 3) sc_take_in.nd rfl (Or.inl rfl) pe_int ip_add))))
        (pss_cons (ps_set (i := 4) sc_take_in.nd rfl (Or.inl rfl) (pe_callC C_first_place (hr.mono (by decide)) rfl (pa_cons (pe_ix ix_list (pe_fld (pv 0) rfl) (pv 2) (fun _ _ => rfl)) pa_nil)))
        (pss_one (ps_if (pt_cmpR op_lt (pv 4) (pe_callB call_len_seq rfl T.len bt_len (pa_cons (pe_ix ix_list (pe_fld (pv 0) rfl) (pv 2) (fun _ _ => rfl)) pa_nil)) (nomark _)) (pss_cons (ps_expr (pe_callC C_lift (hr.mono (by decide)) rfl (pa_cons (pv 0) (pa_cons (pv 2) (pa_cons (pv 3) (pa_cons (pe_callB call_len_seq rfl T.len bt_len (pa_cons (pv 1) pa_nil)) pa_nil))))))
        (pss_one (ps_expr (pe_bm PySem.F.plainAttrs_list PySem.F.slot_list_insert PySem.F.type_list_insert mt_insert (pv 1) (pa_cons (pv 3) (pa_cons (pv 4) pa_nil)))))) pss_nil))))), ?_⟩
    have hm1 := W.m1
    have hle1 := TakeR_le hT
    refine ⟨fun M σ H2 => ∃ (t : Nat) (ea : E1.Tab) (csa : List Ch) (La : List E1.RC) (v : Option V), σ = [some (.ref p), some (.ref q), some (.int low), some (.int t), v] ∧ M = st.length - t ∧ E1.TakeR B low n st t ea La top e1 ∧ WalkAt C H0 H2 p ea m n s csa ∧ csa ++ La.map (tc s) = cs ++ L1.map (tc s), ⟨_, 0, e, cs, L1, none, rfl, rfl, hT, W, rfl⟩, ?_⟩
    rintro M σ H2 ⟨t, ea, csa, La, v, rfl, rfl, hTa, Wa, hcs⟩
    have hlen : csa.length + La.length = cs.length + L1.length := by
      have := congrArg List.length hcs
      simpa using this
    have hqa := Wa.same _ _ hq
    refine tAnd_of (c1 := decide (t < st.length)) (c2 := decide (E1.sat st t ≤ E1.fp (ea low) 0 n)) (fun R hR => ?_) (fun hc R hR => ?_) (fun H3 s3 => ?_)
    · refine ⟨_, rfl, _, rfl, q, _, rfl, .inl (SqL.of hqa), _, _, rfl, rfl, _, rfl, ?_⟩
      have ed : decide ((t : Int) < (((stV st).length : Nat) : Int)) = decide (t < st.length) := by
        rw [stV_len]; exact decide_eq_decide.mpr (by (first | lia | omega))
      rw [ed]; exact hR
    · have hlt : t < st.length := by simpa using hc
      refine ⟨_, rfl, _, rfl, q, _, _, _, rfl, rfl, SqL.of hqa, atI_nat (stV_at hlt), Wa.rowAt X (iw := 0) (i := 2) rfl rfl hlow fun r row hrow hlr her => ⟨r, row, rfl, hrow, fun H4 s4 => ⟨_, _, rfl, rfl, _, rfl, ?_⟩⟩⟩
      have ev : E1.fp (fun y => row.getD y 0) 0 row.length = E1.fp (ea low) 0 n := by rw [her, hlr]
      have ed : decide (((E1.sat st t : Nat) : Int) ≤ ((E1.fp (fun y => row.getD y 0) 0 row.length : Nat) : Int)) = decide (E1.sat st t ≤ E1.fp (ea low) 0 n) := by
        rw [ev]; exact decide_eq_decide.mpr (by (first | lia | omega))
      rw [ed]; exact hR H4 s4
    have W3 := Wa.on s3
    have hq3 := W3.same _ _ hq
    cases hTa with
    | stop hle hno =>
      have eb : (decide (top < st.length) && decide (E1.sat st top ≤ E1.fp (e1 low) 0 n)) = false := by
        rw [← Bool.decide_and]; exact decide_eq_false hno
      refine iteB0 eb ?_
      refine W3.rowAt X (iw := 0) (i := 2) rfl rfl hlow fun r row hrow hlr her => ⟨r, row, rfl, hrow, fun H4 s4 => ?_⟩
      have ev : E1.fp (fun y => row.getD y 0) 0 row.length = E1.fp (e1 low) 0 n := by rw [her, hlr]
      rw [ev]
      have W4 := W3.on s4
      have hq4 := W4.same _ _ hq
      refine ⟨_, rfl, W4.rowAt X (iw := 0) (i := 2) rfl rfl hlow fun r2 row2 hrow2 hlr2 her2 => ⟨r2, _, rfl, .inl (SqL.of hrow2), _, _, rfl, rfl, _, rfl, ?_⟩⟩
      rw [List.length_map, hlr2]
      have hcs' : csa = cs ++ L1.map (tc s) := by simpa using hcs
      rcases hcase with ⟨hf, rfl, rfl, rfl⟩ | ⟨hf, rfl, rfl, rfl⟩
      · refine iteP (by (first | lia | omega)) ?_
        refine ⟨_, rfl, _, rfl, _, rfl, _, rfl, q, _, rfl, .inl (SqL.of hq4), H0, p, e1, m, n, s, csa, low, top, st.length, by rw [stV_len]; rfl, W4, hlow, hst, htop, hle, by simp at hlen hz; (first | lia | omega), fun H6 W6 => ?_⟩
        have hq6 := W6.same _ _ hq
        refine ⟨_, rfl, .inl ⟨rfl, _, SqL.of hq6⟩, _, rfl, _, rfl, q, _, top, _, rfl, rfl, hq6, by rw [stV_len]; exact htop, by rw [stV_len]; exact Nat.lt_of_lt_of_le (by (first | lia | omega) : st.length < 1000) (by decide), ?_⟩
        refine k _ ?_
        rw [stV_ins, List.map_append, ← List.append_assoc, ← hcs']
        exact W6.put hq (fun xs z => by cases z)
      · refine iteN (by (first | lia | omega)) ?_
        refine k H4 ?_
        rw [upd_id hq, List.append_nil, ← hcs']
        exact W4
    | skip hle hlt hsk hrest =>
      have eb : (decide (t < st.length) && decide (E1.sat st t ≤ E1.fp (ea low) 0 n)) = true := by
        rw [← Bool.decide_and]; exact decide_eq_true ⟨hlt, by (first | lia | omega)⟩
      refine iteB eb ⟨fun σ' H' => ∃ (ea : E1.Tab) (csa : List Ch) (La : List E1.RC) (v : Option V), σ' = [some (.ref p), some (.ref q), some (.int low), some (.int (t + 1 : Nat)), v] ∧ E1.TakeR B low n st (t + 1) ea La top e1 ∧ WalkAt C H0 H' p ea m n s csa ∧ csa ++ La.map (tc s) = cs ++ L1.map (tc s), fun σ' H' ⟨ea, csa, La, v, z1, z2, z3, z4⟩ => ⟨st.length - (t + 1), by (first | lia | omega), t + 1, ea, csa, La, v, z1, rfl, z2, z3, z4⟩, ?_⟩
      refine ⟨_, rfl, _, rfl, q, _, _, _, rfl, rfl, SqL.of hq3, atI_nat (stV_at hlt), W3.rowAt X (iw := 0) (i := 2) rfl rfl hlow fun r row hrow hlr her => ⟨r, row, rfl, hrow, fun H4 s4 => ⟨rfl, _, rfl, ?_⟩⟩⟩
      have ev : E1.fp (fun y => row.getD y 0) 0 row.length = E1.fp (ea low) 0 n := by rw [her, hlr]
      rw [ev]
      refine iteN (v_ne (by (first | lia | omega))) ⟨_, rfl, _, _, rfl, rfl, ?_⟩
      exact ⟨ea, csa, La, v, rfl, hrest, W3.on s4, hcs⟩
    | meet hle hlt hme hM hA hC hrest =>
      rename_i eb ec ed LA LB LC LD
      have eb' : (decide (t < st.length) && decide (E1.sat st t ≤ E1.fp (ea low) 0 n)) = true := by
        rw [← Bool.decide_and]; exact decide_eq_true ⟨hlt, by (first | lia | omega)⟩
      refine iteB eb' ⟨fun σ' H' => ∃ (ea : E1.Tab) (csa : List Ch) (La : List E1.RC) (v : Option V), σ' = [some (.ref p), some (.ref q), some (.int low), some (.int (t + 1 : Nat)), v] ∧ E1.TakeR B low n st (t + 1) ea La top e1 ∧ WalkAt C H0 H' p ea m n s csa ∧ csa ++ La.map (tc s) = cs ++ L1.map (tc s), fun σ' H' ⟨ea, csa, La, v, z1, z2, z3, z4⟩ => ⟨st.length - (t + 1), by (first | lia | omega), t + 1, ea, csa, La, v, z1, rfl, z2, z3, z4⟩, ?_⟩
      refine ⟨_, rfl, _, rfl, q, _, _, _, rfl, rfl, SqL.of hq3, atI_nat (stV_at hlt), W3.rowAt X (iw := 0) (i := 2) rfl rfl hlow fun r row hrow hlr her => ⟨r, row, rfl, hrow, fun H4 s4 => ⟨rfl, _, rfl, ?_⟩⟩⟩
      have ev : E1.fp (fun y => row.getD y 0) 0 row.length = E1.fp (ea low) 0 n := by rw [her, hlr]
      rw [ev]
      refine iteP (by rw [hme]) ?_
      have W4 := W3.on s4
      have hq4 := W4.same _ _ hq
      obtain ⟨dx, a, l, hp⟩ := W4.ob
      simp only [List.length_append] at hlen
      refine ⟨_, rfl, p, dx, _, rfl, hp, (by first | exact no_lessen _ _ _ | exact no_make _ _ _ | exact no_add_times _ _ _ | exact no_swap_rows _ _ _ | exact no_tip_over _ _ _ | exact no_meet _ _ _ | exact no_turn_row _ _ _), _, rfl, _, rfl, _, rfl, _, rfl, q, _, _, _, rfl, rfl, SqL.of hq4, atI_nat (stV_at hlt), H0, p, ea, eb, m, n, s, csa, t, low, E1.sat st t, LA, rfl, W4, hM, by (first | lia | omega), hlow, by (first | lia | omega), hsat t hlt, by simp at hz; (first | lia | omega), fun H5 W5 => ?_⟩
      refine ⟨_, rfl, _, rfl, _, rfl, _, rfl, _, _, rfl, rfl, H0, p, q, eb, ec, m, n, s, _, st, t, t + 1, LB, rfl, W5, hq, hA, by (first | lia | omega), by (first | lia | omega), by (first | lia | omega), fun i h1 h2 => ⟨by (first | lia | omega), hsat i h2⟩, by simp at hz ⊢; (first | lia | omega), fun H6 W6 => ?_⟩
      refine ⟨_, rfl, _, rfl, _, rfl, _, rfl, _, _, rfl, rfl, H0, p, q, ec, ed, m, n, s, _, st, low, t + 1, LC, rfl, W6, hq, hC, hlow, by (first | lia | omega), by (first | lia | omega), fun i h1 h2 => ⟨by (first | lia | omega), hsat i h2⟩, by simp at hz ⊢; (first | lia | omega), fun H7 W7 => ?_⟩
      refine ⟨_, rfl, _, _, rfl, rfl, ?_⟩
      exact ⟨ed, _, LD, v, rfl, hrest, W7, by rw [← hcs]; simp⟩
inductive SpBuild (B : Nat) (C : Addr) (vs : List V) (H : Hp) (Q : VK) : Prop
  | mk (H0 : Hp) (p : Addr) (e e' : E1.Tab) (m n : Nat) (s : Bool) (cs : List Ch) (st' : List Nat) (L : List E1.RC) (_ : vs = [.ref p]) (_ : WalkAt C H0 H p e m n s cs) (_ : E1.Build B n m 0 [] e L st' e') (_ : cs.length + L.length ≤ sizeLine) (_ : ∀ q H', H0 q = none → WalkAt C (upd H0 q (.lst (stV st'))) H' p e' m n s (cs ++ L.map (tc s)) → Q (.ref q) H') : SpBuild B C vs H Q
def spBuild (B : Nat) (C : Addr) : Sp := fun vs H Q _ => SpBuild B C vs H Q
theorem ok_build_stairs {B : Nat} (D : DefAt K mg "build_stairs" s_build_stairs ["walk"]) (T : Bt mg) (X : WTxt K C) (C_take_in : Callee P w K mg base 43 "take_in" ["walk", "steps", "low"] (spTake B C)) (C_lessen_row : Callee P w K mg base 42 "lessen_row" ["walk", "steps", "row", "start"] (spLRow B C)) : Callee P w K mg base 44 "build_stairs" ["walk"] (spBuild B C) := by
  refine D.ok (k := 43) sc_build_stairs (fun vs H Q E h => ?_) (fun f cdv A outer s H vs Q E hr h => ?_)
  · obtain ⟨_, _, _, _, _, _, _, _, _, _, rfl, _⟩ := h
    rfl
  · obtain ⟨H0, p, e, e', m, n, s, cs, st', L, rfl, W, hB, hz, k⟩ := h
    refine ⟨_, (pss_cons (ps_set (i := 1) sc_build_stairs.nd rfl (Or.inl rfl) (pe_lst pa_nil))
        (pss_cons (ps_for PassesOwn.never rfl (pi_range1 rfl T.range (pa_cons (pe_callB call_len_seq rfl T.len bt_len (pa_cons (pe_fld (pv 0) rfl) pa_nil)) pa_nil)) (pg_name (i := 2) sc_build_stairs.nd rfl (Or.inl rfl)) (pss_cons (ps_expr (pe_callC C_take_in (hr.mono (by decide)) rfl (pa_cons (pv 0) (pa_cons (pv 1) (pa_cons (pv 2) pa_nil)))))
        (pss_one (ps_for PassesOwn.never rfl (pi_rangeD rfl T.range (pa_cons (pe_op op_sub (pe_callB call_len_seq rfl T.len bt_len (pa_cons (pv 1) pa_nil)) pe_int) (pa_cons (pe_un un_neg pe_int) (pa_cons (pe_un un_neg pe_int) pa_nil)))) (pg_name (i := 3) sc_build_stairs.nd rfl (Or.inl rfl)) (pss_one (ps_expr (pe_callC C_lessen_row (hr.mono (by decide)) rfl (pa_cons (pv 0) (pa_cons (pv 1) (pa_cons (pv 3) (pa_cons (pe_op op_add (pv 3) pe_int) pa_nil)))))))))))
        (pss_one (ps_ret (pv 1))))), ?_⟩
    have hm1 := W.m1
    refine ⟨Nat.zero_le _, fun q hq => ?_⟩
    have hq0 : H0 q = none := W.same.free hq
    have W1 := W.laid (o := .lst []) hq
    refine W1.rows X (iw := 0) rfl fun a rs Tt hta hrt hent hnew => ⟨a, _, rfl, .inl (SqL.of hta.tab.1), _, rfl, by (first | lia | omega), by rw [List.length_map, hta.len hrt]; (first | lia | omega), ?_⟩
    rw [List.length_map, hta.len hrt]
    refine for_range0 (fun i σ H2 => ∃ (v2 v3 : Option V) (st : List Nat) (ea : E1.Tab) (csa : List Ch) (La : List E1.RC), σ = [some (.ref p), some (.ref q), v2, v3] ∧ E1.Build B n (m - i) i st ea La st' e' ∧ WalkAt C (upd H0 q (.lst (stV st))) H2 p ea m n s csa ∧ csa ++ La.map (tc s) = cs ++ L.map (tc s) ∧ (∀ j, j < st.length → E1.sat st j < n)) ⟨none, none, [], e, cs, L, rfl, hB, W1, rfl, fun j h => absurd h (by simp)⟩ ?_ ?_
    · rintro low σ H2 hlow ⟨v2, v3, st, ea, csa, La, rfl, hBa, Wa, hcs, hsat⟩
      have hlow' : low < m := by simpa using hlow
      obtain ⟨k', hk'⟩ : ∃ k', m - low = k' + 1 := pred_sub hlow'
      rw [hk'] at hBa
      obtain ⟨LA, top, e1, st1, LB, e2, LC, e3, LD, hT, htop, hst, hcase, hR, hB2, rfl⟩ := hBa
      have hlen : csa.length + (LA ++ (LB ++ (LC ++ LD))).length = cs.length + L.length := by
        have := congrArg List.length hcs
        simpa using this
      simp only [List.length_append] at hlen
      have hsat1 : ∀ j, j < st1.length → E1.sat st1 j < n := by
        rcases hcase with ⟨hf, rfl, _, _⟩ | ⟨_, rfl, _, _⟩
        · intro j hj
          rw [E1.ins_len htop] at hj
          rw [E1.ins_sat htop]
          split
          · exact hsat j (by (first | lia | omega))
          · split
            · exact hf
            · exact hsat (j - 1) (by (first | lia | omega))
        · exact hsat
      have hlen1 : st1.length ≤ low + 1 := by
        rcases hcase with ⟨_, rfl, _, _⟩ | ⟨_, rfl, _, _⟩
        · rw [E1.ins_len htop]; (first | lia | omega)
        · (first | lia | omega)
      refine ⟨_, rfl, _, rfl, _, rfl, upd H0 q (.lst (stV st)), p, q, ea, e1, e2, m, n, s, csa, st, st1, low, top, LA, LB, rfl, Wa, upd_same, hT, htop, hst, hlow', hcase, hsat, by simp; (first | lia | omega), fun H3 W3 => ?_⟩
      rw [upd_upd] at W3
      have hq3 := W3.same _ _ (upd_same (H := H0) (a := q) (o := .lst (stV st1)))
      refine ⟨_, rfl, q, _, rfl, .inl (SqL.of hq3), _, _, rfl, rfl, _, rfl, _, rfl, _, _, rfl, ⟨by (first | lia | omega), by rw [stV_len]; (first | lia | omega), by (first | lia | omega), by (first | lia | omega)⟩, ?_⟩
      rw [stV_len]
      have en : ((st1.length : Int) - 1 - -1).toNat = st1.length := by (first | lia | omega)
      rw [en]
      refine for_down (fun i σ H4 => ∃ (v3 : Option V) (eb : E1.Tab) (csb : List Ch) (Lb : List E1.RC), σ = [some (.ref p), some (.ref q), some (.int low), v3] ∧ E1.Red B st1 (st1.length - i) eb Lb e3 ∧ WalkAt C (upd H0 q (.lst (stV st1))) H4 p eb m n s csb ∧ csb ++ Lb.map (tc s) = csa ++ (LA ++ (LB ++ LC)).map (tc s)) ⟨_, _, _, LC, rfl, hR, W3, by simp⟩ ?_ ?_
      · rintro i σ H4 hi ⟨v3, eb, csb, Lb, rfl, hRb, Wb, hcb⟩
        obtain ⟨k2, hk2⟩ : ∃ k2, st1.length - i = k2 + 1 := pred_sub hi
        rw [hk2] at hRb
        obtain ⟨LE, ee, LF, hLE, hRF, rfl⟩ := hRb
        have hlb : csb.length + (LE ++ LF).length = csa.length + (LA ++ (LB ++ LC)).length := by
          have := congrArg List.length hcb
          simpa using this
        simp only [List.length_append] at hlb
        have ex : ((st1.length : Int) - 1 - (i : Int)) = ((k2 : Nat) : Int) := by (first | lia | omega)
        rw [ex]
        refine ⟨_, rfl, _, rfl, _, rfl, _, rfl, _, _, rfl, rfl, upd H0 q (.lst (stV st1)), p, q, eb, ee, m, n, s, csb, st1, k2, k2 + 1, LE, rfl, Wb, upd_same, hLE, by (first | lia | omega), by (first | lia | omega), by (first | lia | omega), fun j h1 h2 => ⟨by (first | lia | omega), hsat1 j h2⟩, by (first | lia | omega), fun H5 W5 => ?_⟩
        have e2' : st1.length - (i + 1) = k2 := sub_succ' hk2
        refine ⟨_, ee, _, LF, rfl, ?_, W5, ?_⟩
        · rw [e2']; exact hRF
        · rw [← hcb]; simp
      · rintro σ H4 ⟨v3, eb, csb, Lb, rfl, hRb, Wb, hcb⟩
        rw [Nat.sub_self] at hRb
        obtain ⟨_, rfl, rfl⟩ := hRb
        have e2' : m - (low + 1) = k' := sub_succ' hk'
        refine ⟨_, _, st1, _, csb, LD, rfl, ?_, Wb, ?_, hsat1⟩
        · rw [e2']; exact hB2
        · have : csb = csa ++ (LA ++ (LB ++ LC)).map (tc s) := by simpa using hcb
          rw [this, ← hcs]; simp
    · rintro σ H2 ⟨v2, v3, st, ea, csa, La, rfl, hBa, Wa, hcs, hsat⟩
      have e2 : m - ((m : Nat) : Int).toNat = 0 := by simp
      rw [e2] at hBa
      obtain ⟨_, rfl, rfl, rfl⟩ := hBa
      exact ⟨_, rfl, k q H2 hq0 (by rw [← hcs]; simpa using Wa)⟩
end
end X1

namespace X1
open PySem L2
theorem two_ne {one r many : Int} (h0 : 0 ≤ one) (h1 : one < many) (r0 : 0 ≤ r) (r1 : r < many - 1) : (one + 1 + r) % many ≠ one ∧ 0 ≤ (one + 1 + r) % many ∧ (one + 1 + r) % many < many := by
  have hm : 0 < many := by (first | lia | omega)
  refine ⟨?_, Int.emod_nonneg _ (by (first | lia | omega)), Int.emod_lt_of_pos _ hm⟩
  by_cases hx : one + 1 + r < many
  · rw [Int.emod_eq_of_lt (by (first | lia | omega)) hx]; (first | lia | omega)
  · have e : one + 1 + r = (one + 1 + r - many) + many := by (first | lia | omega)
    rw [e, Int.add_emod_right, Int.emod_eq_of_lt (by (first | lia | omega)) (by (first | lia | omega))]
    (first | lia | omega)
def Ch.tiny : Ch → Prop
  | .add _ _ _ q => -2 ≤ q ∧ q ≤ 2
  | _ => True
section
variable {P : Program} {w : World} {K : PySem.W.Frag} {mg : Str → Option Value} {base : Heap}
inductive SpChOf (vs : List V) (H : Hp) (Q : VK) : Prop
  | mk (cell : Int) (k m n : Nat) (_ : vs = [.int cell, .int k, .int m, .int n]) (_ : 0 < m) (_ : 0 < n) (_ : ∀ (p : Addr) (c : Ch) (H' : Hp), Same H H' → IsCh H' p c → c.ok m n → c.tiny → Q (.ref p) H') : SpChOf vs H Q
def spChOf : Sp := fun vs H Q _ => SpChOf vs H Q
theorem at_side (x : Int) : ∃ s : Bool, atI [V.str "row", V.str "column"] (x % 2) = some (.str (sd s)) := by
  have h1 : 0 ≤ x % 2 := Int.emod_nonneg _ (by decide)
  have h2 : x % 2 < 2 := Int.emod_lt_of_pos _ (by decide)
  have : x % 2 = 0 ∨ x % 2 = 1 := by (first | lia | omega)
  rcases this with h | h
  · exact ⟨true, by rw [h]; rfl⟩
  · exact ⟨false, by rw [h]; rfl⟩
theorem ok_law_change_of (D : DefAt K mg "_law_change_of" s_law_change_of ["_law_cell", "_law_k", "_law_high", "_law_wide"]) (T : Bt mg) : Callee P w K mg base 1 "_law_change_of" ["_law_cell", "_law_k", "_law_high", "_law_wide"] spChOf := by
  refine D.ok (k := 0) sc_law_change_of (fun vs H Q E h => ?_) (fun f cdv A outer s H vs Q E hr h => ?_)
  · obtain ⟨_, _, _, _, rfl, _⟩ := h
    rfl
  · obtain ⟨cell, i, m, n, rfl, hm, hn, k⟩ := h
    refine ⟨_, (pss_cons (ps_set (i := 4) sc_law_change_of.nd rfl (Or.inl rfl) (pe_ix ix_list (pe_lst (pa_cons pe_str (pa_cons pe_str pa_nil))) (pe_op op_mod (pe_op op_add (pe_op op_fdiv (pv 0) pe_int) (pe_op op_fdiv (pv 1) pe_int)) pe_int) (fun _ _ => rfl)))
        (pss_cons (ps_set (i := 5) sc_law_change_of.nd rfl (Or.inl rfl) (pe_ix ix_list (pe_lst (pa_cons (pv 2) (pa_cons (pv 3) pa_nil))) (pe_callTy call_int1 rfl T.int bt_int (pa_cons (pe_cmpR op_eq (pv 4) pe_str (nomark _)) pa_nil)) (fun _ _ => rfl)))
        (pss_cons (ps_set (i := 6) sc_law_change_of.nd rfl (Or.inl rfl) (pe_op op_mod (pe_op op_add (pe_op op_fdiv (pv 0) pe_int) (pv 1)) (pv 5)))
        (pss_cons (ps_set (i := 7) sc_law_change_of.nd rfl (Or.inl rfl) (pe_op op_mod (pe_op op_add (pv 0) (pv 1)) pe_int))
        (pss_cons (ps_if (PW.pt (pw_or (pt_cmpR op_eq (pv 7) pe_int (nomark _)) (pw_or1 (pt_cmpR op_eq (pv 5) pe_int (nomark _))))) (pss_one (ps_ret (pe_tup (pa_cons pe_str (pa_cons (pv 4) (pa_cons (pv 6) pa_nil)))))) pss_nil)
        (pss_cons (ps_set (i := 8) sc_law_change_of.nd rfl (Or.inl rfl) (pe_op op_mod (pe_op op_add (pe_op op_add (pv 6) pe_int) (pe_op op_mod (pe_op op_add (pe_op op_fdiv (pv 0) pe_int) (pe_op op_fdiv (pv 1) pe_int)) (pe_op op_sub (pv 5) pe_int))) (pv 5)))
        (pss_cons (ps_if (pt_cmpR op_eq (pv 7) pe_int (nomark _)) (pss_one (ps_ret (pe_tup (pa_cons pe_str (pa_cons (pv 4) (pa_cons (pv 6) (pa_cons (pv 8) pa_nil))))))) pss_nil)
        (pss_one (ps_ret (pe_tup (pa_cons pe_str (pa_cons (pv 4) (pa_cons (pv 6) (pa_cons (pv 8) (pa_cons (pe_op op_sub (pe_op op_mod (pe_op op_add (pe_op op_fdiv (pv 0) pe_int) (pv 1)) pe_int) pe_int) pa_nil))))))))))))))), ?_⟩
    refine ⟨by show 2 ≤ sizeLine; decide, fun l1 hl1 => ?_⟩
    obtain ⟨sd', hsd⟩ := at_side (cell / 5 + (i : Int) / 3)
    refine ⟨_, rfl, _, _, rfl, rfl, ⟨by decide, by decide⟩, _, rfl, _, _, rfl, rfl, ⟨by decide, by decide⟩, _, _, rfl, rfl, _, _, rfl, rfl, (by show (0 : Int) < 2; decide), l1, _, _, _, rfl, rfl, SqL.of upd_same, hsd, ?_⟩
    refine ⟨_, rfl, _, rfl, by show 2 ≤ sizeLine; decide, fun l2 hl2 => ?_⟩
    refine ⟨_, rfl, rfl, .inr ⟨_, rfl, l2, _, _, .int (dim sd' m n : Nat), rfl, rfl, SqL.of upd_same, ?_, ?_⟩⟩
    · rw [sd_col]; cases sd' <;> rfl
    have hd0 : 0 < dim sd' m n := by unfold dim; cases sd' <;> simp <;> assumption
    have sm : Same H (upd (upd H l1 (.lst [V.str "row", V.str "column"])) l2 (.lst [V.int (m : Nat), V.int (n : Nat)])) := (same_upd hl1).laid hl2
    generalize hHx : upd (upd H l1 (.lst [V.str "row", V.str "column"])) l2 (.lst [V.int (m : Nat), V.int (n : Nat)]) = H2 at sm ⊢
    have hdI : (0 : Int) < (dim sd' m n : Nat) := by (first | lia | omega)
    refine ⟨_, rfl, _, _, rfl, rfl, ⟨by decide, by decide⟩, _, rfl, _, _, rfl, rfl, _, rfl, _, _, rfl, rfl, hdI, ?_⟩
    have o0 : 0 ≤ (cell / 10 + (i : Int)) % (dim sd' m n : Nat) := Int.emod_nonneg _ (by (first | lia | omega))
    have o1 : (cell / 10 + (i : Int)) % (dim sd' m n : Nat) < (dim sd' m n : Nat) := Int.emod_lt_of_pos _ hdI
    obtain ⟨one, hone⟩ := Int.eq_ofNat_of_zero_le o0
    dsimp only
    rw [hone] at o1 ⊢
    have hone1 : one < dim sd' m n := by (first | lia | omega)
    refine ⟨_, rfl, _, rfl, _, _, rfl, rfl, _, _, rfl, rfl, (by show (0 : Int) < 5; decide), ?_⟩
    have turnQ : ∀ p : Addr, H2 p = none → Q (.ref p) (upd H2 p (.tup [.str "turn", .str (sd sd'), .int (one : Nat)])) := fun p hp => k p (.turn sd' one) _ (sm.laid hp) upd_same hone1 True.intro
    refine ⟨_, rfl, rfl, _, rfl, ?_⟩
    by_cases hw : (cell + (i : Int)) % 5 = 0
    · refine iteP (congrArg V.int hw) (iteT ⟨_, rfl, _, rfl, by show 3 ≤ sizeLine; decide, turnQ⟩)
    · refine iteN (v_ne hw) ⟨_, rfl, rfl, _, rfl, ?_⟩
      by_cases hd1 : ((dim sd' m n : Nat) : Int) = 1
      · refine iteP (congrArg V.int hd1) ⟨_, rfl, _, rfl, by show 3 ≤ sizeLine; decide, turnQ⟩
      · refine iteN (v_ne hd1) ?_
        have hd2 : (0 : Int) < (dim sd' m n : Nat) - 1 := by (first | lia | omega)
        refine ⟨_, rfl, _, _, rfl, rfl, _, rfl, _, _, rfl, rfl, ⟨by decide, by decide⟩, _, rfl, _, _, rfl, rfl, ⟨by decide, by decide⟩, _, _, rfl, rfl, _, rfl, _, _, rfl, rfl, _, _, rfl, rfl, hd2, _, _, rfl, rfl, _, rfl, _, _, rfl, rfl, hdI, ?_⟩
        have r0 : 0 ≤ (cell / 2 + (i : Int) / 2) % ((dim sd' m n : Nat) - 1) := Int.emod_nonneg _ (by (first | lia | omega))
        have r1 : (cell / 2 + (i : Int) / 2) % ((dim sd' m n : Nat) - 1) < (dim sd' m n : Nat) - 1 := Int.emod_lt_of_pos _ hd2
        obtain ⟨t1, t2, t3⟩ := two_ne (one := (one : Int)) (many := (dim sd' m n : Nat)) (by (first | lia | omega)) o1 r0 r1
        obtain ⟨two, htwo⟩ := Int.eq_ofNat_of_zero_le t2
        dsimp only
        rw [htwo] at t1 t3 ⊢
        have htwo1 : two < dim sd' m n := by (first | lia | omega)
        have hne : one ≠ two := by (first | lia | omega)
        refine ⟨_, rfl, rfl, _, rfl, ?_⟩
        by_cases hw1 : (cell + (i : Int)) % 5 = 1
        · refine iteP (congrArg V.int hw1) ⟨_, rfl, _, rfl, _, rfl, by show 4 ≤ sizeLine; decide, fun p hp => ?_⟩
          exact k p (.swap sd' one two) _ (sm.laid hp) upd_same ⟨hone1, htwo1, hne⟩ True.intro
        · refine iteN (v_ne hw1) ⟨_, rfl, _, rfl, _, rfl, _, rfl, _, _, rfl, rfl, ⟨by decide, by decide⟩, _, rfl, _, _, rfl, rfl, _, _, rfl, rfl, (by show (0 : Int) < 5; decide), _, _, rfl, rfl, by show 5 ≤ sizeLine; decide, fun p hp => ?_⟩
          refine k p (.add sd' one two ((cell / 3 + (i : Int)) % 5 - 2)) _ (sm.laid hp) upd_same ⟨hone1, htwo1, hne⟩ ?_
          have a0 : 0 ≤ (cell / 3 + (i : Int)) % 5 := Int.emod_nonneg _ (by decide)
          have a1 : (cell / 3 + (i : Int)) % 5 < 5 := Int.emod_lt_of_pos _ (by decide)
          exact ⟨by (first | lia | omega), by (first | lia | omega)⟩
inductive SpChsBy (K : PySem.W.Frag) (vs : List V) (H : Hp) (Q : VK) : Prop
  | mk (a : Addr) (ns : List Int) (m n : Nat) (_ : vs = [.ref a, .int m, .int n]) (_ : SqL K H a (ns.map V.int)) (_ : ns.length ≤ 500) (_ : 0 < m) (_ : 0 < n) (_ : ∀ (p : Addr) (ts : List Addr) (cs : List Ch) (H' : Hp), Same H H' → IsChs H' p ts cs → (∀ c ∈ cs, c.ok m n ∧ c.tiny) → cs.length = ns.length → Q (.ref p) H') : SpChsBy K vs H Q
def spChsBy (K : PySem.W.Frag) : Sp := fun vs H Q _ => SpChsBy K vs H Q
theorem ok_law_changes_by (D : DefAt K mg "_law_changes_by" s_law_changes_by ["_law_cells", "_law_high", "_law_wide"]) (T : Bt mg) (C_law_change_of : Callee P w K mg base 1 "_law_change_of" ["_law_cell", "_law_k", "_law_high", "_law_wide"] spChOf) : Callee P w K mg base 2 "_law_changes_by" ["_law_cells", "_law_high", "_law_wide"] (spChsBy K) := by
  refine D.ok (k := 1) sc_law_changes_by (fun vs H Q E h => ?_) (fun f cdv A outer s H vs Q E hr h => ?_)
  · obtain ⟨_, _, _, _, rfl, _⟩ := h
    rfl
  · obtain ⟨a, ns, m, n, rfl, ha, hz, hm, hn, k⟩ := h
    refine ⟨_, (pss_one (ps_ret (pe_comp (N := ["_law_cells", "_law_high", "_law_wide", "_law_k"]) (cap := [0, 1, 2]) (k := 1) (CompScope.mk' (defScope s_law_changes_by) ["_law_cells", "_law_high", "_law_wide"] rfl rfl (by decide +kernel)) rfl (pi_range1 rfl T.range (pa_cons (pe_callB call_len_seq rfl T.len bt_len (pa_cons (pv 0) pa_nil)) pa_nil)) (fun _ _ _ _ => (pg_name (i := 3) (show (["_law_cells", "_law_high", "_law_wide", "_law_k"] : List Str).Nodup by decide +kernel) rfl (Or.inl rfl))) (fun _ _ _ _ => (pe_callC C_law_change_of (hr.mono (by decide)) rfl (pa_cons (pe_ix (ix_listK (K := K) rfl) (pv 0) (pv 3) (fun _ _ => rfl)) (pa_cons (pv 3) (pa_cons (pv 1) (pa_cons (pv 2) pa_nil))))))))), ?_⟩
    refine ⟨_, rfl, a, _, rfl, .inl ha, _, rfl, by (first | lia | omega), by rw [List.length_map]; (first | lia | omega), ?_⟩
    rw [List.length_map]
    refine comp_it (J := Itr 0 _) (n := ns.length) (fun i ys H2 => ∃ (ts : List Addr) (cs : List Ch), ys = ts.map V.ref ∧ Same H H2 ∧ Paired (IsCh H2) ts cs ∧ (∀ c ∈ cs, c.ok m n ∧ c.tiny) ∧ cs.length = i) (Nat.le_trans hz (by decide)) ⟨[], [], rfl, Same.refl H, .nil, (fun _ h => nomatch h), rfl⟩ (fun i ys H2 ⟨ts, cs, e, _, hp, _, e2⟩ => by rw [e, List.length_map, Paired.length hp, e2])
      (fun i ys H2 hi _ => by show i < Int.toNat _; simpa using hi) (fun ys H2 _ => by show Int.toNat _ ≤ ns.length; simp) ?_ ?_
    · rintro i x ys H2 H3 hi ⟨ts, cs, rfl, sm, hp, hok, hlen⟩ ⟨rfl, hx0⟩
      obtain rfl := z0 hx0
      refine ⟨rfl, _, rfl, _, rfl, a, _, _, _, rfl, rfl, sm.seq ha, atI_nat (iget (getD_some rfl hi)), _, rfl, _, rfl, _, rfl, _, i, m, n, rfl, hm, hn, fun p c H4 s4 hc hco hct => ?_⟩
      refine ⟨ts ++ [p], cs ++ [c], by rw [List.map_append]; rfl, sm.trans s4, psnoc (pimp hp fun _ _ e => s4 _ _ e) hc, fun d hd => ?_, by rw [List.length_append, hlen]; rfl⟩
      rcases List.mem_append.mp hd with z | z
      · exact hok d z
      · have : d = c := by simpa using z
        rw [this]; exact ⟨hco, hct⟩
    · rintro ys H2 ⟨ts, cs, rfl, sm, hp, hok, hlen⟩ p hpn
      exact k p ts cs _ (sm.laid hpn) ⟨upd_same, pimp hp fun _ _ e => same_upd hpn _ _ e⟩ hok hlen
end
end X1

namespace X1
open PySem L2
section
variable {P : Program} {w : World} {K : PySem.W.Frag} {mg : Str → Option Value} {base : Heap}
def Sz (h w : Nat) : Prop := (1 ≤ h ∧ h ≤ 4 ∧ 1 ≤ w ∧ w ≤ 4) ∨ (h = 6 ∧ w = 2) ∨ (h = 2 ∧ w = 6)
inductive SpSizes (K : PySem.W.Frag) (vs : List V) (H : Hp) (Q : VK) : Prop
  | mk (a : Addr) (ns : List Int) (_ : vs = [.ref a]) (_ : SqL K H a (ns.map V.int)) (_ : ns.length ≤ 63) (_ : ∀ (p : Addr) (h w : Nat) (H' : Hp), Same H H' → H' p = some (.tup [.int (h : Nat), .int (w : Nat)]) → Sz h w → Q (.ref p) H') : SpSizes K vs H Q
def spSizes (K : PySem.W.Frag) : Sp := fun vs H Q _ => SpSizes K vs H Q
set_option maxHeartbeats 4000000 in
theorem ok_law_sizes (D : DefAt K mg "_law_sizes" s_law_sizes ["_law_script"]) (T : Bt mg) (C_law_at : Callee P w K mg base 1 "_law_at" ["_law_script", "_law_k"] (spAt K)) : Callee P w K mg base 2 "_law_sizes" ["_law_script"] (spSizes K) := by
  refine D.ok (k := 1) sc_law_sizes (fun vs H Q E h => ?_) (fun f cdv A outer s H vs Q E hr h => ?_)
  · obtain ⟨_, _, rfl, _⟩ := h
    rfl
  · obtain ⟨a, ns, rfl, ha, hlen, k⟩ := h
    refine ⟨_, (pss_cons (ps_set (i := 1) sc_law_sizes.nd rfl (Or.inl rfl) (pe_op op_mod (pe_callC C_law_at (hr.mono (by decide)) rfl (pa_cons (pv 0) (pa_cons pe_int pa_nil))) pe_int))
        (pss_cons (ps_if (pt_cmpR op_gt (pe_callB call_len_seq rfl T.len bt_len (pa_cons (pv 0) pa_nil)) pe_int (nomark _)) (pss_one (ps_ret (pe_tup (pa_cons (pe_op op_add pe_int (pe_op op_mod (pe_callC C_law_at (hr.mono (by decide)) rfl (pa_cons (pv 0) (pa_cons pe_int pa_nil))) pe_int)) (pa_cons (pe_op op_add pe_int (pe_op op_mod (pe_callC C_law_at (hr.mono (by decide)) rfl (pa_cons (pv 0) (pa_cons pe_int pa_nil))) pe_int)) pa_nil))))) pss_nil)
        (pss_cons (ps_if (pt_cmpR op_gt (pv 1) pe_int (nomark _)) (pss_one (ps_ret (pe_ix ix_list (pe_lst (pa_cons (pe_tup (pa_cons pe_int (pa_cons pe_int pa_nil))) (pa_cons (pe_tup (pa_cons pe_int (pa_cons pe_int pa_nil))) pa_nil))) (pe_op op_sub (pv 1) pe_int) (fun _ _ => rfl)))) pss_nil)
        (pss_one (ps_ret (pe_tup (pa_cons (pe_op op_add pe_int (pe_op op_mod (pe_callC C_law_at (hr.mono (by decide)) rfl (pa_cons (pv 0) (pa_cons pe_int pa_nil))) pe_int)) (pa_cons (pe_op op_add pe_int (pe_op op_mod (pv 1) pe_int)) pa_nil)))))))), ?_⟩
    refine ⟨_, rfl, a, ns, 1, rfl, ha, _, _, rfl, rfl, (by show (0 : Int) < 9; decide), ?_⟩
    have w0 : 0 ≤ ns.getD 1 0 % 9 := Int.emod_nonneg _ (by decide)
    have w1 : ns.getD 1 0 % 9 < 9 := Int.emod_lt_of_pos _ (by decide)
    dsimp only
    generalize ns.getD 1 0 % 9 = way at w0 w1 ⊢
    refine ⟨_, rfl, a, _, rfl, .inl ha, _, _, rfl, rfl, _, rfl, iteN (by rw [List.length_map]; (first | lia | omega)) ?_⟩
    refine ⟨_, rfl, _, _, rfl, rfl, _, rfl, ?_⟩
    by_cases h6 : way > 6
    · refine iteP h6 ?_
      refine ⟨by show 2 ≤ sizeLine; decide, fun p1 hp1 => ⟨by show 2 ≤ sizeLine; decide, fun p2 hp2 => ⟨by show 2 ≤ sizeLine; decide, fun l hl => ?_⟩⟩⟩
      have s1 : Same H (upd H p1 (.tup [V.int 6, V.int 2])) := same_upd hp1
      have s2 := s1.laid (o := .tup [V.int 2, V.int 6]) hp2
      have s3 := s2.laid (o := .lst [V.ref p1, V.ref p2]) hl
      have q1 : (upd (upd H p1 (.tup [V.int 6, V.int 2])) p2 (.tup [V.int 2, V.int 6])) p1 = some (.tup [V.int 6, V.int 2]) := by
        have z : (upd H p1 (.tup [V.int 6, V.int 2])) p1 = some (.tup [V.int 6, V.int 2]) := upd_same
        rw [upd_ne (ne_of_none z hp2)]; exact z
      have q2 : (upd (upd H p1 (.tup [V.int 6, V.int 2])) p2 (.tup [V.int 2, V.int 6])) p2 = some (.tup [V.int 2, V.int 6]) := upd_same
      have hw : way = 7 ∨ way = 8 := by (first | lia | omega)
      rcases hw with rfl | rfl
      · refine ⟨_, rfl, _, _, rfl, rfl, l, _, _, _, rfl, rfl, SqL.of upd_same, rfl, ?_⟩
        exact k p1 6 2 _ s3 (by rw [upd_ne (ne_of_none q1 hl)]; exact q1) (.inr (.inl ⟨rfl, rfl⟩))
      · refine ⟨_, rfl, _, _, rfl, rfl, l, _, _, _, rfl, rfl, SqL.of upd_same, rfl, ?_⟩
        exact k p2 2 6 _ s3 (by rw [upd_ne (ne_of_none q2 hl)]; exact q2) (.inr (.inr ⟨rfl, rfl⟩))
    · refine iteN h6 ?_
      obtain ⟨m, em, hm4⟩ := sizeN 4 (by decide) (ns.getD 0 0)
      obtain ⟨n, en, hn4⟩ := sizeN 4 (by decide) way
      refine ⟨_, rfl, a, ns, 0, rfl, ha, _, _, rfl, rfl, (by show (0 : Int) < 4; decide), _, _, rfl, rfl, _, rfl, _, _, rfl, rfl, (by show (0 : Int) < 4; decide), _, _, rfl, rfl, by show 2 ≤ sizeLine; decide, fun p hp => ?_⟩
      have e1 : V.int (1 + ns.getD 0 0 % 4) = V.int ((m + 1 : Nat) : Int) := congrArg V.int em
      have e2 : V.int (1 + way % 4) = V.int ((n + 1 : Nat) : Int) := congrArg V.int en
      refine k p (m + 1) (n + 1) _ (same_upd hp) ?_ (.inl ⟨by (first | lia | omega), hm4, by (first | lia | omega), hn4⟩)
      rw [upd_same, ← e1, ← e2]
end
end X1

namespace X1
open PySem L2
structure Chn (row : List Int) : Prop where
  nn : ∀ i, i < row.length → 0 ≤ row.getD i 0
  le : ∀ i, i < row.length → (row.getD i 0).natAbs ≤ 10 ^ (12 * (i + 1))
  go : ∀ i j, i ≤ j → j < row.length → row.getD i 0 ∣ row.getD j 0
theorem at_step8 : ∀ k : Fin 8, ∃ v : Int, atI [V.int 1, V.int 2, V.int 1, V.int 3, V.int 4, V.int 0, V.int 5, V.int 1000000000000] ((k.val : Nat) : Int) = some (.int v) ∧ 0 ≤ v ∧ v ≤ 1000000000000
  | ⟨0, _⟩ => ⟨1, rfl, by decide, by decide⟩
  | ⟨1, _⟩ => ⟨2, rfl, by decide, by decide⟩
  | ⟨2, _⟩ => ⟨1, rfl, by decide, by decide⟩
  | ⟨3, _⟩ => ⟨3, rfl, by decide, by decide⟩
  | ⟨4, _⟩ => ⟨4, rfl, by decide, by decide⟩
  | ⟨5, _⟩ => ⟨0, rfl, by decide, by decide⟩
  | ⟨6, _⟩ => ⟨5, rfl, by decide, by decide⟩
  | ⟨7, _⟩ => ⟨1000000000000, rfl, by decide, by decide⟩
theorem at_step (x : Int) : ∃ v : Int, atI [V.int 1, V.int 2, V.int 1, V.int 3, V.int 4, V.int 0, V.int 5, V.int 1000000000000] (x % 8) = some (.int v) ∧ 0 ≤ v ∧ v ≤ 1000000000000 := by
  obtain ⟨k, hk⟩ := Int.eq_ofNat_of_zero_le (Int.emod_nonneg x (by decide : (8 : Int) ≠ 0))
  have h2 : x % 8 < 8 := Int.emod_lt_of_pos _ (by decide)
  rw [hk] at h2 ⊢
  exact at_step8 ⟨k, Int.ofNat_lt.mp h2⟩
theorem getD_snoc {row : List Int} {v : Int} {i : Nat} : (row ++ [v]).getD i 0 = if i < row.length then row.getD i 0 else if i = row.length then v else 0 := by
  rw [List.getD_eq_getElem?_getD, List.getD_eq_getElem?_getD]
  by_cases h : i < row.length
  · rw [if_pos h, List.getElem?_append_left h]
  · rw [if_neg h, List.getElem?_append_right (by (first | lia | omega))]
    by_cases e : i = row.length
    · rw [if_pos e, e, Nat.sub_self]; rfl
    · rw [if_neg e, List.getElem?_eq_none (by simp; (first | lia | omega))]; rfl
theorem Chn.snoc {row : List Int} {last f : Int} (h : Chn row) (hl : ∀ i, i < row.length → row.getD i 0 ∣ last) (h0 : 0 ≤ last) (h1 : last.natAbs ≤ 10 ^ (12 * row.length)) (f0 : 0 ≤ f) (f1 : f ≤ 1000000000000) : Chn (row ++ [last * f]) := by
  have hf : f.natAbs ≤ 10 ^ 12 := by (first | lia | omega)
  refine ⟨fun i hi => ?_, fun i hi => ?_, fun i j hij hj => ?_⟩
  · rw [getD_snoc]
    split
    · exact h.nn i (by assumption)
    · split
      · exact Int.mul_nonneg h0 f0
      · exact Int.le_refl _
  · rw [getD_snoc]
    split
    · exact h.le i (by assumption)
    · split
      · rename_i e
        rw [e, Int.natAbs_mul, Nat.mul_add, Nat.pow_add]
        exact Nat.mul_le_mul h1 hf
      · simp
  · rw [List.length_append] at hj
    have hj : j < row.length + 1 := hj
    rw [getD_snoc, getD_snoc]
    by_cases e : j < row.length
    · rw [if_pos e, if_pos (by (first | lia | omega))]; exact h.go i j hij e
    · have ej : j = row.length := by (first | lia | omega)
      rw [if_neg e, if_pos ej]
      by_cases e2 : i < row.length
      · rw [if_pos e2]; exact Int.dvd_trans (hl i e2) (Int.dvd_mul_right _ _)
      · rw [if_neg e2, if_pos (by (first | lia | omega))]; exact Int.dvd_refl _
section
variable {P : Program} {w : World} {K : PySem.W.Frag} {mg : Str → Option Value} {base : Heap}
inductive SpRowBy (K : PySem.W.Frag) (vs : List V) (H : Hp) (Q : VK) : Prop
  | mk (a : Addr) (ns : List Int) (first many : Nat) (_ : vs = [.ref a, .int first, .int many]) (_ : SqL K H a (ns.map V.int)) (_ : many ≤ 4) (_ : ∀ (p : Addr) (row : List Int) (H' : Hp), Same H H' → H p = none → H' p = some (.lst (row.map V.int)) → row.length = many → Chn row → Q (.ref p) H') : SpRowBy K vs H Q
def spRowBy (K : PySem.W.Frag) : Sp := fun vs H Q _ => SpRowBy K vs H Q
set_option maxHeartbeats 4000000 in
theorem ok_law_row_by (D : DefAt K mg "_law_row_by" s_law_row_by ["_law_script", "_law_first", "_law_many"]) (T : Bt mg) (C_law_at : Callee P w K mg base 1 "_law_at" ["_law_script", "_law_k"] (spAt K)) : Callee P w K mg base 2 "_law_row_by" ["_law_script", "_law_first", "_law_many"] (spRowBy K) := by
  refine D.ok (k := 1) sc_law_row_by (fun vs H Q E h => ?_) (fun f cdv A outer s H vs Q E hr h => ?_)
  · obtain ⟨_, _, _, _, rfl, _⟩ := h
    rfl
  · obtain ⟨a, ns, first, many, rfl, ha, hm, k⟩ := h
    refine ⟨_, (pss_cons (ps_set (i := 3) sc_law_row_by.nd rfl (Or.inl rfl) (pe_lst (pa_cons pe_int (pa_cons pe_int (pa_cons pe_int (pa_cons pe_int (pa_cons pe_int (pa_cons pe_int (pa_cons pe_int (pa_cons pe_int pa_nil))))))))))
        (pss_cons (ps_set (i := 4) sc_law_row_by.nd rfl (Or.inl rfl) (pe_lst pa_nil))
        (pss_cons (ps_set (i := 5) sc_law_row_by.nd rfl (Or.inl rfl) pe_int)
        (pss_cons (ps_for PassesOwn.never rfl (pi_range1 rfl T.range (pa_cons (pv 2) pa_nil)) (pg_name (i := 6) sc_law_row_by.nd rfl (Or.inl rfl)) (pss_cons (ps_set (i := 7) sc_law_row_by.nd rfl (Or.inl rfl) (pe_ix ix_list (pv 3) (pe_op op_mod (pe_op op_add (pe_callC C_law_at (hr.mono (by decide)) rfl (pa_cons (pv 0) (pa_cons (pe_op op_add (pv 1) (pv 6)) pa_nil))) (pv 6)) pe_int) (fun _ _ => rfl)))
        (pss_consX (ps_if (pt_cmpR op_gt (pv 5) (pe_op op_pow pe_int pe_int) (nomark _)) (pss_one (ps_set (i := 7) sc_law_row_by.nd rfl (Or.inl rfl) (pe_op op_mod (pv 7) pe_int))) pss_nil)
        (pss_cons (ps_set (i := 5) sc_law_row_by.nd rfl (Or.inl rfl) (pe_op op_mul (pv 5) (pv 7)))
        (pss_one (ps_expr (pe_bm PySem.F.plainAttrs_list PySem.F.slot_list_append PySem.F.type_list_append mt_append (pv 4) (pa_cons (pv 5) pa_nil))))))))
        (pss_one (ps_ret (pv 4))))))), ?_⟩
    refine ⟨by show 8 ≤ sizeLine; decide, fun sp hsp => ?_⟩
    refine ⟨Nat.zero_le _, fun l hl => ?_⟩
    have s1 : Same H (upd H sp (.lst [V.int 1, V.int 2, V.int 1, V.int 3, V.int 4, V.int 0, V.int 5, V.int 1000000000000])) := same_upd hsp
    have hl0 : H l = none := s1.free hl
    have s2 := s1.laid (o := .lst []) hl
    have hsl : (upd H sp (.lst [V.int 1, V.int 2, V.int 1, V.int 3, V.int 4, V.int 0, V.int 5, V.int 1000000000000])) sp = some (.lst [V.int 1, V.int 2, V.int 1, V.int 3, V.int 4, V.int 0, V.int 5, V.int 1000000000000]) := upd_same
    have hne : sp ≠ l := ne_of_none hsl hl
    refine ⟨_, rfl, _, rfl, by (first | lia | omega), by (first | lia | omega), for_range0 (fun i σ H2 => ∃ (row : List Int) (last : Int) (v6 v7 : Option V), σ = [some (.ref a), some (.int first), some (.int many), some (.ref sp), some (.ref l), some (.int last), v6, v7] ∧ Same H H2 ∧ H2 sp = some (.lst [V.int 1, V.int 2, V.int 1, V.int 3, V.int 4, V.int 0, V.int 5, V.int 1000000000000]) ∧ H2 l = some (.lst (row.map V.int)) ∧ row.length = i ∧ Chn row ∧ (∀ i, i < row.length → row.getD i 0 ∣ last) ∧ 0 ≤ last ∧ last.natAbs ≤ 10 ^ (12 * row.length))
      ⟨[], 1, none, none, rfl, s2, by rw [upd_ne hne]; exact hsl, upd_same, rfl, ⟨(fun i h => absurd h (Nat.not_lt_zero _)), (fun i h => absurd h (Nat.not_lt_zero _)), (fun i j _ h => absurd h (Nat.not_lt_zero _))⟩, (fun i h => absurd h (Nat.not_lt_zero _)), by decide, by decide⟩ ?_ ?_⟩
    · rintro i σ H2 hi ⟨row, last, v6, v7, rfl, sm, hs2, hl2, hlen, hch, hdv, h0, hle⟩
      have hi' : i < many := by simpa using hi
      obtain ⟨v, hv, v0, v1⟩ := at_step (ns.getD (first + i) 0 + (i : Int))
      refine ⟨_, rfl, _, rfl, _, rfl, _, rfl, _, _, rfl, rfl, a, ns, first + i, by push_cast; rfl, sm.seq ha, _, rfl, _, _, rfl, rfl, _, _, rfl, rfl, (by show (0 : Int) < 8; decide), sp, _, _, _, rfl, rfl, SqL.of hs2, hv, ?_⟩
      have hsm : last ≤ 10 ^ 60 := by
        have e : 10 ^ (12 * row.length) ≤ 10 ^ 60 := Nat.pow_le_pow_right (by decide) (by (first | lia | omega))
        have : last.natAbs ≤ 10 ^ 60 := Nat.le_trans hle e
        (first | lia | omega)
      refine ⟨fun σ' H' => σ' = [some (.ref a), some (.int first), some (.int many), some (.ref sp), some (.ref l), some (.int last), some (.int (i : Nat)), some (.int v)] ∧ H' = H2, ?_, ?_⟩
      · refine ⟨_, rfl, _, _, rfl, rfl, ⟨by decide, by decide, by decide⟩, _, _, rfl, rfl, _, rfl, iteN (Int.not_lt.mpr hsm) ?_⟩
        exact ⟨rfl, rfl⟩
      rintro σ' H' ⟨rfl, rfl⟩
      refine ⟨_, rfl, _, rfl, _, _, rfl, rfl, .inr ⟨by (first | lia | omega), by (first | lia | omega)⟩, ?_⟩
      have hzl : (row.map V.int).length < sizeLine := by rw [List.length_map, hlen]; exact Nat.lt_of_lt_of_le (by (first | lia | omega) : i < 2000) (by decide)
      refine ⟨_, rfl, .inl ⟨rfl, _, SqL.of hl2⟩, _, rfl, l, _, _, rfl, rfl, hl2, hzl, ?_⟩
      have hc := hch.snoc hdv h0 hle v0 v1
      refine ⟨row ++ [last * v], last * v, _, _, rfl, fun b o q => ?_, ?_, by rw [upd_same, List.map_append]; rfl, by rw [List.length_append, hlen]; rfl, hc, fun j hj => ?_, Int.mul_nonneg h0 v0, ?_⟩
      · rw [upd_ne (ne_of_none q hl0)]; exact sm _ _ q
      · rw [upd_ne hne]; exact hs2
      · have := hc.go j row.length (by rw [List.length_append] at hj; have : j < row.length + 1 := hj; (first | lia | omega)) (by rw [List.length_append]; exact Nat.lt_succ_self _)
        rwa [getD_snoc (i := row.length), if_neg (Nat.lt_irrefl _), if_pos rfl] at this
      · rw [List.length_append]
        have := hc.le row.length (by rw [List.length_append]; exact Nat.lt_succ_self _)
        rwa [getD_snoc, if_neg (Nat.lt_irrefl _), if_pos rfl] at this
    · rintro σ H2 ⟨row, last, v6, v7, rfl, sm, hs2, hl2, hlen, hch, _⟩
      have e : ((many : Nat) : Int).toNat = many := by simp
      rw [e] at hlen
      exact ⟨_, rfl, k l row H2 sm hl0 hl2 hlen hch⟩
def dgE (row : List Int) : E1.Tab := fun x y => if x = y then row.getD x 0 else 0
inductive SpLaid (vs : List V) (H : Hp) (Q : VK) : Prop
  | mk (r : Addr) (row : List Int) (m n : Nat) (_ : vs = [.ref r, .int m, .int n]) (_ : H r = some (.lst (row.map V.int))) (_ : row.length = min m n) (_ : m ≤ 1000) (_ : n ≤ 1000) (_ : ∀ (p : Addr) (qs : List Addr) (T : Tb) (H' : Hp), Same H H' → TabAt H' p qs T → (∀ b ∈ p :: qs, H b = none) → Rect m n T → ent T = dgE row → Q (.ref p) H') : SpLaid vs H Q
def spLaid : Sp := fun vs H Q _ => SpLaid vs H Q
theorem rep_zero (n : Nat) : (List.replicate n [V.int 0]).flatten = (List.replicate n (0 : Int)).map V.int := by
  induction n with
  | zero => rfl
  | succ n ih => rw [List.replicate_succ, List.flatten_cons, ih]; rfl
set_option maxHeartbeats 4000000 in
theorem ok_law_laid (D : DefAt K mg "_law_laid" s_law_laid ["_law_row", "_law_high", "_law_wide"]) (T : Bt mg) : Callee P w K mg base 1 "_law_laid" ["_law_row", "_law_high", "_law_wide"] spLaid := by
  refine D.ok (k := 0) sc_law_laid (fun vs H Q E h => ?_) (fun f cdv A outer s H vs Q E hr h => ?_)
  · obtain ⟨_, _, _, _, rfl, _⟩ := h
    rfl
  · obtain ⟨r, row, m, n, rfl, hrow, hlen, hm, hn, k⟩ := h
    refine ⟨_, (pss_cons (ps_set (i := 3) sc_law_laid.nd rfl (Or.inl rfl) (pe_lst pa_nil))
        (pss_cons (ps_for PassesOwn.never rfl (pi_range1 rfl T.range (pa_cons (pv 1) pa_nil)) (pg_name (i := 4) sc_law_laid.nd rfl (Or.inl rfl)) (pss_cons (ps_expr (pe_bm PySem.F.plainAttrs_list PySem.F.slot_list_append PySem.F.type_list_append mt_append (pv 3) (pa_cons (pe_op op_rep (pe_lst (pa_cons pe_int pa_nil)) (pv 2)) pa_nil)))
        (pss_one (ps_if (pt_cmpR op_lt (pv 4) (pe_callB call_len_seq rfl T.len bt_len (pa_cons (pv 0) pa_nil)) (nomark _)) (pss_one (ps_asg (pe_ix ix_list (pv 0) (pv 4) (fun _ _ => rfl)) (pg_sub (pe_ix ix_list (pv 3) (pv 4) (fun _ _ => rfl)) (pv 4) set_list))) pss_nil))))
        (pss_one (ps_ret (pv 3))))), ?_⟩
    refine ⟨Nat.zero_le _, fun l hl => ?_⟩
    have s1 : Same H (upd H l (.lst [])) := same_upd hl
    refine ⟨_, rfl, _, rfl, by (first | lia | omega), by (first | lia | omega), for_range0 (fun i σ H2 => ∃ (qs : List Addr) (Tt : Tb) (v4 : Option V), σ = [some (.ref r), some (.int m), some (.int n), some (.ref l), v4] ∧ Fill H H2 l qs Tt ∧ Rect i n Tt ∧ (∀ b ∈ qs, H b = none) ∧ ∀ x, x < i → ∀ y, ent Tt x y = dgE row x y) ⟨[], [], none, rfl, ⟨s1, ⟨⟨upd_same, .nil⟩, by simp⟩, hl⟩, ⟨rfl, (fun _ h => nomatch h)⟩, (fun _ h => nomatch h), fun x hx => absurd hx (Nat.not_lt_zero _)⟩ ?_ ?_⟩
    · rintro i σ H2 hi ⟨qs, Tt, v4, rfl, md, hrt, hnew, hent⟩
      have hi' : i < m := by simpa using hi
      have hzl : (qs.map V.ref).length < sizeLine := by rw [List.length_map, md.tab.len hrt]; exact Nat.lt_of_lt_of_le (by (first | lia | omega) : i < 2000) (by decide)
      refine ⟨_, rfl, .inl ⟨rfl, _, SqL.of md.tab.tab.1⟩, by show 1 ≤ sizeLine; decide, fun q0 hq0 => ⟨_, rfl, q0, _, _, rfl, rfl, upd_same, by (first | lia | omega), by (first | lia | omega), by simp; exact Nat.le_trans hn (by decide), fun q1 hq1 => ?_⟩⟩
      have sA : Same H2 (upd H2 q0 (.lst [V.int 0])) := same_upd hq0
      have hn1 : H2 q1 = none := sA.free hq1
      have sB : Same H2 (upd (upd H2 q0 (.lst [V.int 0])) q1 (.lst (List.replicate ((n : Nat) : Int).toNat [V.int 0]).flatten)) := sA.laid hq1
      have hq1' : IsRow (upd (upd H2 q0 (.lst [V.int 0])) q1 (.lst (List.replicate ((n : Nat) : Int).toNat [V.int 0]).flatten)) q1 (List.replicate n (0 : Int)) := by
        show upd _ q1 _ q1 = _
        rw [upd_same, Int.toNat_natCast, rep_zero]
      generalize upd (upd H2 q0 (.lst [V.int 0])) q1 (.lst (List.replicate ((n : Nat) : Int).toNat [V.int 0]).flatten) = H3 at sB hq1' ⊢
      refine ⟨l, _, _, rfl, rfl, sB _ _ md.tab.tab.1, hzl, ?_⟩
      have md2 := md.more sB hq1' hn1
      have hrt2 : Rect (i + 1) n (Tt ++ [List.replicate n (0 : Int)]) := hrt.snoc (by simp)
      have hnew2 : ∀ b ∈ qs ++ [q1], H b = none := fun b hb => by
        rcases List.mem_append.mp hb with z | z
        · exact hnew b z
        · have : b = q1 := by simpa using z
          rw [this]; exact md.same.free hn1
      have hent2 : ∀ x y, ent (Tt ++ [List.replicate n (0 : Int)]) x y = if x < i then ent Tt x y else 0 := fun x y => by
        unfold ent
        rw [List.getD_eq_getElem?_getD (l := Tt ++ [List.replicate n (0 : Int)]), List.getD_eq_getElem?_getD (l := Tt)]
        by_cases hx : x < i
        · rw [if_pos hx, List.getElem?_append_left (by rw [hrt.1]; exact hx)]
        · rw [if_neg hx, List.getElem?_append_right (by rw [hrt.1]; (first | lia | omega)), hrt.1]
          by_cases e : x = i
          · rw [e, Nat.sub_self]
            show (List.replicate n (0 : Int)).getD y 0 = 0
            rw [List.getD_eq_getElem?_getD, List.getElem?_replicate]
            split <;> rfl
          · rw [List.getElem?_eq_none (by simp; (first | lia | omega))]; rfl
      have hl2 : (upd H3 l (.lst (qs.map V.ref ++ [.ref q1]))) r = some (.lst (row.map V.int)) := md2.same _ _ hrow
      have htl := md2.tab.tab.1
      generalize upd H3 l (.lst (qs.map V.ref ++ [.ref q1])) = H4 at md2 hl2 htl ⊢
      refine ⟨_, rfl, _, rfl, r, _, rfl, .inl (SqL.of hl2), _, _, rfl, rfl, _, rfl, ?_⟩
      rw [List.length_map]
      by_cases hir : i < row.length
      · refine iteP (by (first | lia | omega)) ?_
        obtain ⟨rr, er, _, hrr, hlr⟩ := md2.tab.at hrt2 (Nat.lt_succ_self i)
        have hin : i < n := by (first | lia | omega)
        refine ⟨_, rfl, _, rfl, r, _, _, _, rfl, rfl, SqL.of hl2, atI_nat (iget (getD_some rfl hir)), _, rfl, _, rfl, l, _, _, _, rfl, rfl, SqL.of htl, atI_nat (rget er), _, rfl, rr, _, _, i, rfl, rfl, hrr, ixN_nat (by rw [List.length_map, hlr]; exact hin), ?_⟩
        have hrrn : H rr = none := hnew2 rr (List.mem_of_getElem? er)
        refine ⟨qs ++ [q1], setE (Tt ++ [List.replicate n (0 : Int)]) i i (row.getD i 0), _, rfl, ⟨fun b o q => ?_, md2.tab.cellE er, md2.new⟩, hrt2.setE (Nat.lt_succ_self i), hnew2, fun x hx y => ?_⟩
        · rw [upd_ne (ne_of_none q hrrn)]; exact md2.same _ _ q
        · rw [ent_setE hrt2 (Nat.lt_succ_self i) hin, hent2]
          unfold dgE
          by_cases e : x = i
          · subst e
            by_cases e2 : y = x
            · subst e2; rw [if_pos ⟨rfl, rfl⟩, if_pos rfl]
            · rw [if_neg (fun z => e2 z.2), if_neg (Nat.lt_irrefl _), if_neg (fun z => e2 z.symm)]
          · rw [if_neg (fun z => e z.1), if_pos (by (first | lia | omega))]
            exact hent x (by (first | lia | omega)) y
      · refine iteN (by (first | lia | omega)) ?_
        refine ⟨qs ++ [q1], _, _, rfl, md2, hrt2, hnew2, fun x hx y => ?_⟩
        rw [hent2]
        by_cases e : x < i
        · rw [if_pos e]; exact hent x e y
        · rw [if_neg e]
          unfold dgE
          split
          · have : row.length ≤ x := by (first | lia | omega)
            simp [this]
          · rfl
    · rintro σ H2 ⟨qs, Tt, v4, rfl, md, hrt, hnew, hent⟩
      have e : ((m : Nat) : Int).toNat = m := by simp
      rw [e] at hrt hent
      refine ⟨_, rfl, k l qs Tt H2 md.same md.tab (fun b hb => ?_) hrt ?_⟩
      · rcases List.mem_cons.mp hb with z | z
        · rw [z]; exact hl
        · exact hnew b z
      · funext x y
        by_cases hx : x < m
        · exact hent x hx y
        · rw [ent_out_row hrt (by (first | lia | omega))]
          unfold dgE
          split
          · have : row.length ≤ x := by (first | lia | omega)
            simp [this]
          · rfl
end
end X1

namespace X1
open PySem L2
def ofCh : Ch → Bool × E1.RC
  | .add s i j q => (s, .add i j q)
  | .swap s i j => (s, .swap i j)
  | .turn s i => (s, .turn i)
theorem toCh_ofCh (c : Ch) : toCh (ofCh c) = c := by cases c <;> rfl
theorem ofCh_ok {m n : Nat} {c : Ch} (h : c.ok m n) : E1.ok2 m n (ofCh c) := by
  cases c with
  | add s i j q => cases s <;> exact h
  | swap s i j => cases s <;> exact h
  | turn s i => cases s <;> exact h
theorem map_ofCh (cs : List Ch) : (cs.map ofCh).map toCh = cs := by
  rw [List.map_map]
  have : (toCh ∘ ofCh) = id := by funext c; exact toCh_ofCh c
  rw [this, List.map_id]
theorem le3 (c : Nat) : c ≤ 3 * c := by (first | lia | omega)
theorem add3 {a b : Int} {c : Nat} (ha : a.natAbs ≤ c) (hb : b.natAbs ≤ 2 * c) : (a + b).natAbs ≤ 3 * c :=
  Nat.le_trans (Int.natAbs_add_le a b) (Nat.le_trans (Nat.add_le_add ha hb) (Nat.le_of_eq (by (first | lia | omega))))
theorem tiny2 {s : Bool} {i j : Nat} {q : Int} (h : (Ch.add s i j q).tiny) : q.natAbs ≤ 2 := by
  have := h.1; have := h.2; (first | lia | omega)
theorem tiny_le {m n c : Nat} {T : Tb} {d : Ch} (hr : Rect m n T) (hok : d.ok m n) (ht : d.tiny) (h : ∀ x y, (ent T x y).natAbs ≤ c) : ∀ x y, (ent (d.app T) x y).natAbs ≤ 3 * c := fun x y => by
  have e := ent_toCh hr (ofCh_ok hok)
  rw [toCh_ofCh] at e
  rw [e]
  have l3 : ∀ x y, (ent T x y).natAbs ≤ 3 * c := fun x y => Nat.le_trans (h x y) (le3 c)
  cases d with
  | add s i j q =>
    have hm : ∀ z : Int, z.natAbs ≤ c → (q * z).natAbs ≤ 2 * c := fun z hz => by rw [Int.natAbs_mul]; exact Nat.mul_le_mul (tiny2 ht) hz
    cases s with
    | true =>
      show (E1.addR (ent T) i j q x y).natAbs ≤ _
      unfold E1.addR
      split
      · exact add3 (h i y) (hm _ (h j y))
      · exact l3 x y
    | false =>
      show (E1.addR (E1.tipT (ent T)) i j q y x).natAbs ≤ _
      unfold E1.addR E1.tipT
      split
      · exact add3 (h x i) (hm _ (h x j))
      · exact l3 x y
  | swap s i j =>
    cases s with
    | true => exact l3 (E1.sw i j x) y
    | false => exact l3 x (E1.sw i j y)
  | turn s i =>
    cases s with
    | true =>
      show (E1.turnR (ent T) i x y).natAbs ≤ _
      unfold E1.turnR
      split
      · rw [Int.natAbs_neg]; exact l3 i y
      · exact l3 x y
    | false =>
      show (E1.turnR (E1.tipT (ent T)) i y x).natAbs ≤ _
      unfold E1.turnR E1.tipT
      split
      · rw [Int.natAbs_neg]; exact l3 x i
      · exact l3 x y
theorem apps_le {m n : Nat} : ∀ (cs : List Ch) (T : Tb) (c : Nat), Rect m n T → (∀ d ∈ cs, d.ok m n ∧ d.tiny) → (∀ x y, (ent T x y).natAbs ≤ c) → ∀ x y, (ent (apps cs T) x y).natAbs ≤ 3 ^ cs.length * c
  | [], T, c, _, _, h => fun x y => by simpa [apps] using h x y
  | d :: cs, T, c, hr, hok, h => fun x y => by
    have hd := hok d List.mem_cons_self
    have := apps_le cs (d.app T) (3 * c) (Ch.app_rect hr hd.1) (fun z hz => hok z (List.mem_cons_of_mem _ hz)) (tiny_le hr hd.1 hd.2 h) x y
    have e : apps (d :: cs) T = apps cs (d.app T) := rfl
    rw [e, List.length_cons, Nat.pow_succ, Nat.mul_assoc]
    exact this
theorem tiny_fits {B : Nat} {d : Ch} (hB : 1 ≤ B) (h : d.tiny) : d.fits B := by
  cases d with
  | add s i j q =>
    show q.natAbs ≤ 2 ^ B
    have : 2 ^ 1 ≤ 2 ^ B := Nat.pow_le_pow_right (by decide) hB
    have := h.1; have := h.2
    (first | lia | omega)
  | swap => trivial
  | turn => trivial
theorem dgE_le {row : List Int} (h : Chn row) (hl : row.length ≤ 4) (x y : Nat) : (dgE row x y).natAbs ≤ 10 ^ 48 := by
  unfold dgE
  split
  · by_cases hx : x < row.length
    · exact Nat.le_trans (h.le x hx) (Nat.pow_le_pow_right (by decide) (by (first | lia | omega)))
    · have : row.length ≤ x := by (first | lia | omega)
      simp [this]
  · simp
theorem cut_int (xs : List Int) (lo hi : Option Int) : ∃ ys : List Int, cutV (xs.map V.int) lo hi = ys.map V.int ∧ ys.length ≤ HT.sIx xs.length xs.length hi - HT.sIx xs.length 0 lo := by
  refine ⟨(xs.drop (HT.sIx (xs.map V.int).length 0 lo)).take (HT.sIx (xs.map V.int).length (xs.map V.int).length hi - HT.sIx (xs.map V.int).length 0 lo), ?_, ?_⟩
  · unfold cutV; rw [List.map_take, List.map_drop]
  · rw [List.length_take, List.length_drop, List.length_map]; (first | lia | omega)
end X1

namespace X1
open PySem L2
theorem CopyAt.on {H H2 H3 : Hp} {qs : List Addr} {T : Tb} (c : CopyAt H H2 qs T) (s : Same H2 H3) : CopyAt H H3 qs T := ⟨c.same.trans s, c.rows.imp fun r hr o e => s _ _ e, c.nd, c.new⟩
def tallyL (n p : Nat) : List Int := (List.range n).map fun o => if o = p then 1 else 0
theorem tally_take {n p i : Nat} (hi : i < n) : (tallyL n p).take (i + 1) = (tallyL n p).take i ++ [if i = p then 1 else 0] := by
  have e : (tallyL n p)[i]? = some (if i = p then 1 else 0) := by
    unfold tallyL
    rw [List.getElem?_map, List.getElem?_range hi]; rfl
  rw [List.take_succ, e]; rfl
theorem tally_len (n p : Nat) : (tallyL n p).length = n := by simp [tallyL]
theorem tally_getD (n p y : Nat) : (tallyL n p).getD y 0 = if y < n ∧ y = p then 1 else 0 := by
  unfold tallyL
  rw [List.getD_eq_getElem?_getD, List.getElem?_map]
  by_cases hy : y < n
  · rw [List.getElem?_range hy]
    show (if y = p then (1 : Int) else 0) = _
    by_cases h : y = p
    · rw [if_pos h, if_pos ⟨hy, h⟩]
    · rw [if_neg h, if_neg (fun z => h z.2)]
  · rw [List.getElem?_eq_none (by simp; (first | lia | omega)), if_neg (fun z => hy z.1)]; rfl
def talB (m : Nat) (T : Tb) : Tb := (List.range m).map fun x => T.getD x [] ++ tallyL m x
theorem talB_take {m i : Nat} {T : Tb} (hi : i < m) : (talB m T).take (i + 1) = (talB m T).take i ++ [T.getD i [] ++ tallyL m i] := by
  have e : (talB m T)[i]? = some (T.getD i [] ++ tallyL m i) := by
    unfold talB
    rw [List.getElem?_map, List.getElem?_range hi]; rfl
  rw [List.take_succ, e]; rfl
theorem talB_rect {m n : Nat} {T : Tb} (h : Rect m n T) : Rect m (n + m) (talB m T) := by
  refine ⟨by simp [talB], fun r hr => ?_⟩
  obtain ⟨x, hx, rfl⟩ := List.mem_map.mp hr
  rw [List.length_append, tally_len, h.row (by simpa using hx)]
theorem ent_talB {m n : Nat} {T : Tb} (h : Rect m n T) : ent (talB m T) = E1.tal n (ent T) m := by
  funext x y
  unfold E1.tal
  by_cases hx : x < m
  · have e : (talB m T).getD x [] = T.getD x [] ++ tallyL m x := by
      unfold talB
      rw [List.getD_eq_getElem?_getD, List.getElem?_map, List.getElem?_range hx]; rfl
    have e2 : ent (talB m T) x y = (T.getD x [] ++ tallyL m x).getD y 0 := by unfold ent; rw [e]
    rw [e2]
    by_cases hy : y < n
    · rw [if_pos hy, List.getD_eq_getElem?_getD, List.getElem?_append_left (by rw [h.row hx]; exact hy), ← List.getD_eq_getElem?_getD]; rfl
    · rw [if_neg hy, List.getD_eq_getElem?_getD, List.getElem?_append_right (by rw [h.row hx]; (first | lia | omega)), ← List.getD_eq_getElem?_getD, h.row hx, tally_getD]
      by_cases hz : y = n + x
      · rw [if_pos ⟨by (first | lia | omega), by (first | lia | omega)⟩, if_pos ⟨hx, hz⟩]
      · rw [if_neg (by (first | lia | omega)), if_neg (fun z => hz z.2)]
  · rw [ent_out_row (talB_rect h) (by (first | lia | omega)), ent_out_row h (by (first | lia | omega))]
    split
    · rfl
    · rw [if_neg (fun z => hx z.1)]
theorem lessV_succ (e : E1.Tab) (st : List Nat) : ∀ (k t : Nat) (v : E1.Vc), E1.lessV e st t (k + 1) v = fun y => E1.lessV e st t k v y - (E1.lessV e st t k v (E1.sat st (t + k))).fdiv (e (t + k) (E1.sat st (t + k))) * e (t + k) y
  | 0, t, v => rfl
  | k + 1, t, v => by
    have h := lessV_succ e st k (t + 1) (fun y => v y - (v (E1.sat st t)).fdiv (e t (E1.sat st t)) * e t y)
    have e1 : t + 1 + k = t + (k + 1) := by (first | lia | omega)
    rw [e1] at h
    exact h
section
variable {P : Program} {w : World} {K : PySem.W.Frag} {mg : Str → Option Value} {base : Heap} {C : Addr}
inductive SpTally (vs : List V) (H : Hp) (Q : VK) : Prop
  | mk (n p : Nat) (_ : vs = [.int n, .int p]) (_ : n ≤ 1000) (_ : ∀ q, H q = none → Q (.ref q) (upd H q (.lst ((tallyL n p).map V.int)))) : SpTally vs H Q
def spTally : Sp := fun vs H Q _ => SpTally vs H Q
theorem ok_tally_of_one (D : DefAt K mg "tally_of_one" s_tally_of_one ["total", "place"]) (T : Bt mg) : Callee P w K mg base 1 "tally_of_one" ["total", "place"] spTally := by
  refine D.ok (k := 0) sc_tally_of_one (fun vs H Q E h => ?_) (fun f cdv A outer s H vs Q E hr h => ?_)
  · obtain ⟨_, _, rfl, _⟩ := h
    rfl
  · obtain ⟨n, p, rfl, hn, k⟩ := h
    refine ⟨_, (pss_one (ps_ret (pe_comp (N := ["place", "other"]) (cap := [1]) (k := 1) (CompScope.mk' (defScope s_tally_of_one) ["total", "place"] rfl rfl (by decide +kernel)) rfl (pi_range1 rfl T.range (pa_cons (pv 0) pa_nil)) (fun _ _ _ _ => (pg_name (i := 1) (show (["place", "other"] : List Str).Nodup by decide +kernel) rfl (Or.inl rfl))) (fun _ _ _ _ => (pe_ifExp (pt_cmpR op_eq (pv 1) (pv 0) (nomark _)) pe_int pe_int))))), ?_⟩
    refine ⟨_, rfl, _, rfl, by (first | lia | omega), by (first | lia | omega), ?_⟩
    refine comp_it (J := Itr 0 _) (n := n) (fun i ys H2 => H2 = H ∧ i ≤ n ∧ ys = ((tallyL n p).take i).map V.int) (Nat.le_trans hn (by decide)) ⟨rfl, Nat.zero_le _, by simp⟩ (fun i ys H2 ⟨_, hle, e⟩ => by rw [e, List.length_map, List.length_take, tally_len]; (first | lia | omega))
      (fun i ys H2 hi _ => by show i < Int.toNat _; simpa using hi) (fun ys H2 _ => by show Int.toNat _ ≤ n; simp) ?_ ?_
    · rintro i x ys H2 H3 hi ⟨rfl, _, rfl⟩ ⟨rfl, hx0⟩
      obtain rfl := z0 hx0
      refine ⟨rfl, _, rfl, _, rfl, rfl, _, rfl, ?_⟩
      by_cases h : i = p
      · refine iteP (by rw [h]) ⟨rfl, hi, ?_⟩
        rw [tally_take hi, if_pos h, List.map_append]; rfl
      · refine iteN (v_ne (by (first | lia | omega))) ⟨rfl, hi, ?_⟩
        rw [tally_take hi, if_neg h, List.map_append]; rfl
    · rintro ys H2 ⟨rfl, _, rfl⟩ q hq
      have e : (tallyL n p).take n = tallyL n p := List.take_of_length_le (by rw [tally_len]; exact Nat.le_refl _)
      rw [e]
      exact k q hq
inductive SpTallied (vs : List V) (H : Hp) (Q : VK) : Prop
  | mk (a : Addr) (rs : List Addr) (T : Tb) (m n : Nat) (_ : vs = [.ref a]) (_ : TabAt H a rs T) (_ : Rect m n T) (_ : m ≤ 1000) (_ : n ≤ 1000) (_ : ∀ (p : Addr) (qs : List Addr) (H' : Hp), Same H H' → TabAt H' p qs (talB m T) → (∀ b ∈ p :: qs, H b = none) → Q (.ref p) H') : SpTallied vs H Q
def spTallied : Sp := fun vs H Q _ => SpTallied vs H Q
theorem ok_tallied (D : DefAt K mg "tallied" s_tallied ["table"]) (T : Bt mg) (C_tally_of_one : Callee P w K mg base 1 "tally_of_one" ["total", "place"] spTally) : Callee P w K mg base 2 "tallied" ["table"] spTallied := by
  refine D.ok (k := 1) sc_tallied (fun vs H Q E h => ?_) (fun f cdv A outer s H vs Q E hr h => ?_)
  · obtain ⟨_, _, _, _, _, rfl, _⟩ := h
    rfl
  · obtain ⟨a, rs, Tt, m, n, rfl, ht, hr', hm, hn, k⟩ := h
    refine ⟨_, (pss_one (ps_ret (pe_comp (N := ["table", "place", "row"]) (cap := [0]) (k := 2) (CompScope.mk' (defScope s_tallied) ["table"] rfl rfl (by decide +kernel)) rfl (pi_enum rfl T.enumerate (pa_cons (pv 0) pa_nil)) (fun _ _ _ _ => (pg_tupK (K := K) (n := 2) rfl rfl (pgs_cons (pg_name (i := 1) (show (["table", "place", "row"] : List Str).Nodup by decide +kernel) rfl (Or.inl rfl)) (pgs_cons (pg_name (i := 2) (show (["table", "place", "row"] : List Str).Nodup by decide +kernel) rfl (Or.inl rfl)) pgs_nil)))) (fun _ _ _ _ => (pe_op op_cat (pv 2) (pe_callC C_tally_of_one (hr.mono (by decide)) rfl (pa_cons (pe_callB (call_len_seqK (K := K) rfl) rfl T.len bt_len (pa_cons (pv 0) pa_nil)) (pa_cons (pv 1) pa_nil)))))))), ?_⟩
    have h1 := ht.tab.1
    have hl := ht.len hr'
    refine ⟨_, rfl, a, _, rfl, SqL.of h1, ?_⟩
    refine comp_it (J := Ite K a) (n := m) (fun i ys H2 => ∃ qs, ys = qs.map V.ref ∧ qs.length = i ∧ i ≤ m ∧ CopyAt H H2 qs ((talB m Tt).take i)) (Nat.le_trans hm (by decide)) ⟨[], rfl, rfl, Nat.zero_le _, by simpa using CopyAt.start H⟩ (fun i ys H2 ⟨qs, e, e2, _⟩ => by rw [e, List.length_map, e2])
      (fun i ys H2 hi ⟨_, _, _, _, c⟩ => ⟨_, SqL.of (c.same _ _ h1), by rw [List.length_map, hl]; exact hi⟩) (fun ys H2 ⟨_, _, _, _, c⟩ => ⟨_, SqL.of (c.same _ _ h1), by rw [List.length_map, hl]; exact Nat.le_refl _⟩) ?_ ?_
    · rintro i x ys H2 H3 hi ⟨qs, rfl, hq, _, c⟩ ⟨q, u, rfl, hqn, rfl, hu⟩
      obtain ⟨r, er, rfl⟩ := mref (hu _ (SqL.of (c.same _ _ h1)))
      obtain ⟨r', er', _, hrow, hlr⟩ := ht.at hr' hi
      rw [er] at er'; cases er'
      have c1 := c.on (same_upd (o := .tup [.int (i : Nat), .ref r]) hqn)
      refine ⟨q, _, rfl, SqT.of upd_same, rfl, _, _, rfl, _, _, rfl, rfl, rfl, ?_⟩
      generalize upd H2 q (.tup [.int (i : Nat), .ref r]) = H4 at c1 ⊢
      refine ⟨_, rfl, _, rfl, a, _, rfl, .inl (SqL.of (c1.same _ _ h1)), _, rfl, ?_⟩
      rw [List.length_map, hl]
      refine ⟨m, i, rfl, hm, fun q2 hq2 => ?_⟩
      have c2 := c1.on (same_upd (o := .lst ((tallyL m i).map V.int)) hq2)
      have hq2' : (upd H4 q2 (.lst ((tallyL m i).map V.int))) q2 = some (.lst ((tallyL m i).map V.int)) := upd_same
      generalize upd H4 q2 (.lst ((tallyL m i).map V.int)) = H5 at c2 hq2' ⊢
      refine ⟨r, q2, _, _, rfl, rfl, c2.same _ _ hrow, hq2', by rw [List.length_map, List.length_map, hlr, tally_len]; exact Nat.le_trans (by (first | lia | omega) : n + m ≤ 2000) (by decide), fun p hp => ?_⟩
      refine ⟨qs ++ [p], by rw [List.map_append]; rfl, by rw [List.length_append, hq]; rfl, hi, ?_⟩
      rw [talB_take hi, ← List.map_append]
      exact c2.more hp
    · rintro ys H2 ⟨qs, rfl, hq, _, c⟩ p hp
      have e : (talB m Tt).take m = talB m Tt := List.take_of_length_le (by simp [talB])
      rw [e] at c
      obtain ⟨q1, q2, q3⟩ := c.done hp
      exact k p qs _ q1 q2 q3
def rowF (row : List Int) : E1.Vc := fun y => row.getD y 0
inductive SpLessSt (C : Addr) (vs : List V) (H : Hp) (Q : VK) : Prop
  | mk (a r : Addr) (rs : List Addr) (T : Tb) (row : List Int) (m n : Nat) (L : List E1.RC) (st : List Nat) (e' : E1.Tab) (_ : vs = [.ref a, .ref r]) (_ : TabAt H a rs T) (_ : Rect m n T) (_ : IsRow H r row) (_ : row.length = n) (_ : 0 < m) (_ : 0 < n) (_ : m ≤ 1000) (_ : n ≤ 1000) (_ : E1.Build 33554432 n m 0 [] (ent T) L st e') (_ : E1.Stairs e' st n m) (_ : L.length ≤ sizeLine) (_ : E1.Le 33554432 e') (_ : (∀ t y, t ≤ st.length → (E1.lessV e' st 0 t (rowF row) y).natAbs ≤ 2 ^ 33554432)) (_ : ∀ (p : Addr) (row' : List Int) (H' : Hp), Same H H' → IsRow H' p row' → row'.length = n → (∀ y, y < n → rowF row' y = E1.lessV e' st 0 st.length (rowF row) y) → Q (.ref p) H') : SpLessSt C vs H Q
def spLessSt (C : Addr) : Sp := fun vs H Q _ => SpLessSt C vs H Q
theorem ok_less_the_stairs (hse : base.NoSeer) (htr : P.given.tree = none) (D : DefAt K mg "less_the_stairs" s_less_the_stairs ["table", "row"]) (T : Bt mg) (X : WTxt K C) (MK_Walk : Maker P w K mg base C 2 "Walk" ["self", "table"] (spInit C)) (C_build_stairs : Callee P w K mg base 44 "build_stairs" ["walk"] (spBuild 33554432 C)) : Callee P w K mg base 45 "less_the_stairs" ["table", "row"] (spLessSt C) := by
  refine D.ok (k := 44) sc_less_the_stairs (fun vs H Q E h => ?_) (fun f cdv A outer s H vs Q E hr h => ?_)
  · obtain ⟨_, _, _, _, _, _, _, _, _, _, rfl, _⟩ := h
    rfl
  · obtain ⟨a, r, rs, Tt, row, m, n, L, st, e', rfl, ht, hr', hrow, hrl, m0, n0, m1, n1, hB, hs, hz, hle, hle2, k⟩ := h
    refine ⟨_, (pss_cons (ps_set (i := 2) sc_less_the_stairs.nd rfl (Or.inl rfl) (pe_makeC MK_Walk (hr.mono (by decide)) rfl (pa_cons (pv 0) pa_nil)))
        (pss_cons (ps_set (i := 3) sc_less_the_stairs.nd rfl (Or.inl rfl) (pv 1))
        (pss_cons (ps_for PassesOwn.never rfl (pi_enum rfl T.enumerate (pa_cons (pe_callC C_build_stairs (hr.mono (by decide)) rfl (pa_cons (pv 2) pa_nil)) pa_nil)) (pg_tup (n := 2) rfl (pgs_cons (pg_name (i := 4) sc_less_the_stairs.nd rfl (Or.inl rfl)) (pgs_cons (pg_name (i := 5) sc_less_the_stairs.nd rfl (Or.inl rfl)) pgs_nil))) (pss_cons (ps_set (i := 6) sc_less_the_stairs.nd rfl (Or.inl rfl) (pe_ix ix_list (pe_fld (pv 2) rfl) (pv 4) (fun _ _ => rfl)))
        (pss_cons (ps_set (i := 7) sc_less_the_stairs.nd rfl (Or.inr rfl) (pe_op (op_fdivB hse htr hr (by decide) rfl rfl ⟨_, rfl⟩) (pe_ix ix_list (pv 3) (pv 5) (fun _ _ => rfl)) (pe_ix ix_list (pv 6) (pv 5) (fun _ _ => rfl))))
        (pss_one (ps_setComp (i := 3) sc_less_the_stairs.nd rfl (Or.inl rfl) (N := ["times", "number", "other"]) (cap := [7]) (k := 2) (CompScope.mk' (defScope s_less_the_stairs) ["table", "row", "walk", "rest", "top", "place", "stair", "times"] rfl rfl (by decide +kernel)) rfl (pi_zip rfl T.zip (pa_cons (pv 3) (pa_cons (pv 6) pa_nil))) (fun _ _ _ _ => (pg_tupK (K := K) (n := 2) rfl rfl (pgs_cons (pg_name (i := 1) (show (["times", "number", "other"] : List Str).Nodup by decide +kernel) rfl (Or.inl rfl)) (pgs_cons (pg_name (i := 2) (show (["times", "number", "other"] : List Str).Nodup by decide +kernel) rfl (Or.inl rfl)) pgs_nil)))) (fun _ _ _ _ => (pe_op op_sub (pv 1) (pe_op (op_mulB 33554432 (by decide)) (pv 0) (pv 2)))))))))
        (pss_one (ps_ret (pv 3)))))), ?_⟩
    refine ⟨_, rfl, fun x dx hx hdx hne => ?_⟩
    have s0 : Same H (upd (upd H dx (.own x)) x (.ins C dx [])) := fun b o eb => by
      rw [upd_ne (ne_of_none eb hx), upd_ne (ne_of_none eb hdx)]; exact eb
    refine ⟨H, x, dx, a, rs, Tt, _, _, rfl, upd_same, s0, hx, ht.same s0, hr', m0, n0, m1, n1, fun H1 W1 => ⟨rfl, ?_⟩⟩
    refine ⟨_, rfl, ?_⟩
    refine ⟨_, rfl, H, x, _, e', m, n, true, [], st, L, rfl, W1, hB, by simpa using hz, fun q H2 hq W2 => ?_⟩
    have hq2 := W2.same _ _ (upd_same (H := H) (a := q) (o := .lst (stV st)))
    have hst := hs.len
    refine ⟨q, _, rfl, SqL.of hq2, for_it (J := Ite K q) (n := st.length) (fun i σ H3 => ∃ (pr : Addr) (rowi : List Int) (v4 v5 v6 v7 : Option V), σ = [some (.ref a), some (.ref r), some (.ref x), some (.ref pr), v4, v5, v6, v7] ∧ WalkAt C (upd H q (.lst (stV st))) H3 x e' m n true ([] ++ L.map (tc true)) ∧ IsRow H3 pr rowi ∧ rowi.length = n ∧ ∀ y, y < n → rowF rowi y = E1.lessV e' st 0 i (rowF row) y)
      ⟨r, row, none, none, none, none, rfl, W2, W2.same _ _ (same_upd hq _ _ hrow), hrl, fun y _ => rfl⟩ (fun i σ H3 hi ⟨_, _, _, _, _, _, _, W3, _⟩ => ⟨_, SqL.of (W3.same _ _ upd_same), by rw [stV_len]; exact hi⟩) (fun σ H3 ⟨_, _, _, _, _, _, _, W3, _⟩ => ⟨_, SqL.of (W3.same _ _ upd_same), by rw [stV_len]; exact Nat.le_refl _⟩) ?_ ?_⟩
    · rintro i y σ H3 H4 hi ⟨pr, rowi, v4, v5, v6, v7, rfl, W3, hpr, hli, hval⟩ ⟨qt, u, rfl, hqt, rfl, hu⟩
      have hu := hu _ (SqL.of (W3.same _ _ upd_same))
      rw [stV_at hi] at hu
      cases hu
      have hsat := hs.lt i hi
      have W4 := W3.on (same_upd (o := .tup [.int (i : Nat), .int (E1.sat st i : Nat)]) hqt)
      have hpr4 : IsRow (upd H3 qt (.tup [.int (i : Nat), .int (E1.sat st i : Nat)])) pr rowi := same_upd hqt _ _ hpr
      refine ⟨qt, _, rfl, SqT.of upd_same, rfl, _, _, rfl, _, _, rfl, rfl, ?_⟩
      generalize upd H3 qt (.tup [.int (i : Nat), .int (E1.sat st i : Nat)]) = H5 at W4 hpr4 ⊢
      refine W4.rowAt X (iw := 2) (i := 4) rfl rfl (by (first | lia | omega)) fun rr rowE hrr hlr her => ?_
      have eE : ∀ y, rowE.getD y 0 = e' i y := fun y => congrFun her y
      have hnz : rowE.getD (E1.sat st i) 0 ≠ 0 := by rw [eE]; exact hs.nz i hi
      refine ⟨_, rfl, _, rfl, pr, _, _, _, rfl, rfl, SqL.of hpr4, atI_nat (iget (getD_some hli hsat)), _, rfl, _, rfl, rr, _, _, _, rfl, rfl, SqL.of hrr, atI_nat (iget (getD_some hlr hsat)), _, _, rfl, rfl, hnz, ?_⟩
      have hti : (rowi.getD (E1.sat st i) 0).natAbs ≤ 2 ^ 33554432 := by
        have := hval _ hsat
        show (rowF rowi (E1.sat st i)).natAbs ≤ _
        rw [this]; exact hle2 i _ (by (first | lia | omega))
      have hq4 : ((rowi.getD (E1.sat st i) 0).fdiv (rowE.getD (E1.sat st i) 0)).natAbs ≤ 2 ^ 33554432 := Nat.le_trans (E1.fdiv_le hnz) hti
      dsimp only
      generalize hqq : (rowi.getD (E1.sat st i) 0).fdiv (rowE.getD (E1.sat st i) 0) = qv at hq4 ⊢
      refine ⟨_, rfl, _, rfl, pr, rr, _, _, rfl, SqL.of hpr4, SqL.of hrr, ?_⟩
      refine comp_it (J := Itz K pr rr) (n := n) (fun i' ys H6 => Same H5 H6 ∧ i' ≤ n ∧ ys = ((List.zipWith (fun x y => x - qv * y) rowi rowE).take i').map V.int) (Nat.le_trans n1 (by decide)) ⟨Same.refl H5, Nat.zero_le _, by simp⟩ (fun i' ys H2 ⟨_, hle, e⟩ => by rw [e, List.length_map, List.length_take, List.length_zipWith, hli, hlr]; (first | lia | omega))
        (fun i' ys H2 hlt ⟨sm, _, _⟩ => ⟨_, _, SqL.of (sm _ _ hpr4), SqL.of (sm _ _ hrr), by rw [List.length_map, hli]; exact hlt, by rw [List.length_map, hlr]; exact hlt⟩)
        (fun ys H2 ⟨sm, _, _⟩ => ⟨_, _, SqL.of (sm _ _ hpr4), SqL.of (sm _ _ hrr), .inl (by rw [List.length_map, hli]; exact Nat.le_refl _)⟩) ?_ ?_
      · rintro i' x ys H6 H7 hlt ⟨sm, _, rfl⟩ ⟨p, u, v, rfl, hp, rfl, hu, hv⟩
        have hu := hu _ (SqL.of (sm _ _ hpr4))
        have hv := hv _ (SqL.of (sm _ _ hrr))
        obtain ⟨u', eu, rfl⟩ := mint hu
        obtain ⟨v', ev, rfl⟩ := mint hv
        have ev' : v' = e' i i' := by rw [← eE, List.getD_eq_getElem?_getD, ev]; rfl
        refine ⟨p, _, rfl, SqT.of upd_same, rfl, _, _, rfl, _, _, rfl, rfl, rfl, ?_⟩
        refine ⟨_, rfl, _, rfl, _, rfl, _, _, rfl, rfl, ⟨hq4, by rw [ev']; exact hle i i'⟩, _, _, rfl, rfl, sm.laid hp, hlt, ?_⟩
        rw [take_zip (f := fun x y => x - qv * y) eu ev, List.map_append]
        rfl
      · rintro ys H6 ⟨sm, _, rfl⟩ p hp
        have e : (List.zipWith (fun x y => x - qv * y) rowi rowE).take n = List.zipWith (fun x y => x - qv * y) rowi rowE := List.take_of_length_le (by rw [List.length_zipWith, hli, hlr]; (first | lia | omega))
        rw [e]
        refine ⟨p, List.zipWith (fun x y => x - qv * y) rowi rowE, _, _, _, _, rfl, W4.on (sm.laid hp), upd_same, by rw [List.length_zipWith, hli, hlr]; (first | lia | omega), fun y hy => ?_⟩
        rw [lessV_succ, Nat.zero_add]
        dsimp only
        rw [← hval y hy, ← hval _ hsat]
        show (List.zipWith (fun x y => x - qv * y) rowi rowE).getD y 0 = rowi.getD y 0 - (rowi.getD (E1.sat st i) 0).fdiv (e' i (E1.sat st i)) * e' i y
        rw [← eE, ← eE, hqq, List.getD_eq_getElem?_getD, List.getElem?_zipWith, getD_some hli hy, getD_some hlr hy]; rfl
    · rintro σ H3 ⟨pr, rowi, v4, v5, v6, v7, rfl, W3, hpr, hli, hval⟩
      exact ⟨_, rfl, k pr rowi H3 (fun b o e => W3.same _ _ (same_upd hq _ _ e)) hpr hli hval⟩
end
end X1

namespace X1
open PySem L2
theorem cut_from {xs : List Int} {n : Nat} (h : n ≤ xs.length) : cutV (xs.map V.int) (some (n : Int)) none = (xs.drop n).map V.int := by
  unfold cutV
  rw [HT.sIx_none, HT.sIx_nat, List.length_map, Nat.min_eq_left h, ← List.map_drop, ← List.map_take]
  congr 1
  exact List.take_of_length_le (by rw [List.length_drop]; exact Nat.le_refl _)
theorem rowF_zeros (row : List Int) (m : Nat) : rowF (row ++ List.replicate m 0) = rowF row := by
  funext y
  unfold rowF
  rw [List.getD_eq_getElem?_getD, List.getD_eq_getElem?_getD]
  by_cases h : y < row.length
  · rw [List.getElem?_append_left h]
  · rw [List.getElem?_append_right (by (first | lia | omega)), List.getElem?_eq_none (l := row) (by (first | lia | omega)), List.getElem?_replicate]
    split <;> rfl
theorem rowF_out {row : List Int} {y : Nat} (h : row.length ≤ y) : rowF row y = 0 := by
  unfold rowF; simp [h]
inductive HoR (m n : Nat) (e : E1.Tab) (row : List Int) (H : Hp) : V → Prop
  | non (_ : ¬ E1.InR m e (rowF row)) : HoR m n e row H .non
  | some (p : Addr) (xs : List Int) (_ : IsRow H p xs) (_ : xs.length = m) (_ : ∀ y, y < n → rowF row y = E1.cmb (rowF xs) e m y) (_ : ∀ i, (rowF xs i).natAbs ≤ 2 ^ 6744) : HoR m n e row H (.ref p)
section
variable {P : Program} {w : World} {K : PySem.W.Frag} {mg : Str → Option Value} {base : Heap} {C : Addr}
inductive SpHowOften (vs : List V) (H : Hp) (Q : VK) : Prop
  | mk (a r : Addr) (rs : List Addr) (T : Tb) (row : List Int) (m n : Nat) (_ : vs = [.ref a, .ref r]) (_ : TabAt H a rs T) (_ : Rect m n T) (_ : IsRow H r row) (_ : row.length = n) (_ : 0 < m) (_ : 0 < n) (_ : m ≤ 6) (_ : n ≤ 6) (_ : (∀ x y, (ent T x y).natAbs ≤ 2 ^ 180)) (_ : (∀ y, (rowF row y).natAbs ≤ 2 ^ 180)) (_ : ∀ (v : V) (H' : Hp), Same H H' → HoR m n (ent T) row H' v → Q v H') : SpHowOften vs H Q
def spHowOften : Sp := fun vs H Q _ => SpHowOften vs H Q
theorem ok_how_often (D : DefAt K mg "how_often" s_how_often ["table", "row"]) (T : Bt mg) (C_refuse_no_table : Callee P w K mg base 1 "refuse_no_table" ["table"] spRefT) (C_less_the_stairs : Callee P w K mg base 45 "less_the_stairs" ["table", "row"] (spLessSt C)) (C_tallied : Callee P w K mg base 2 "tallied" ["table"] spTallied) (C_first_place : Callee P w K mg base 1 "first_place" ["row"] spFirst) : Callee P w K mg base 46 "how_often" ["table", "row"] spHowOften := by
  refine D.ok (k := 45) sc_how_often (fun vs H Q E h => ?_) (fun f cdv A outer s H vs Q E hr h => ?_)
  · obtain ⟨_, _, _, _, _, _, _, rfl, _⟩ := h
    rfl
  · obtain ⟨a, r, rs, Tt, row, m, n, rfl, ht, hr', hrow, hrl, m0, n0, m6, n6, hb, hbr, k⟩ := h
    refine ⟨_, (pss_cons (ps_expr (pe_callC C_refuse_no_table (hr.mono (by decide)) rfl (pa_cons (pv 0) pa_nil)))
        (pss_cons (ps_set (i := 2) sc_how_often.nd rfl (Or.inl rfl) (pe_callB call_len_seq rfl T.len bt_len (pa_cons (pe_ix ix_list (pv 0) pe_int (fun _ _ => rfl)) pa_nil)))
        (pss_cons (ps_if (pt_cmpR op_ne (pe_callB call_len_seq rfl T.len bt_len (pa_cons (pv 1) pa_nil)) (pv 2) (nomark _)) (pss_one ps_never) pss_nil)
        (pss_cons (ps_set (i := 3) sc_how_often.nd rfl (Or.inl rfl) (pe_callC C_less_the_stairs (hr.mono (by decide)) rfl (pa_cons (pe_callC C_tallied (hr.mono (by decide)) rfl (pa_cons (pv 0) pa_nil)) (pa_cons (pe_op op_cat (pv 1) (pe_op op_rep (pe_lst (pa_cons pe_int pa_nil)) (pe_callB call_len_seq rfl T.len bt_len (pa_cons (pv 0) pa_nil)))) pa_nil))))
        (pss_cons (ps_if (pt_cmpR op_lt (pe_callC C_first_place (hr.mono (by decide)) rfl (pa_cons (pv 3) pa_nil)) (pv 2) (nomark _)) (pss_one (ps_ret pe_non)) pss_nil)
        (pss_one (ps_ret (pe_comp (N := ["number"]) (cap := []) (k := 1) (CompScope.mk' (defScope s_how_often) ["table", "row", "width", "rest"] rfl rfl (by decide +kernel)) rfl (pi_list (pe_slice sl_list (pv 3) (po_some (pv 2)) po_none)) (fun _ _ _ _ => (pg_name (i := 0) (show (["number"] : List Str).Nodup by decide +kernel) rfl (Or.inl rfl))) (fun _ _ _ _ => (pe_un un_neg (pv 0))))))))))), ?_⟩
    obtain ⟨m', rfl⟩ : ∃ m', m = m' + 1 := ⟨m - 1, by (first | lia | omega)⟩
    obtain ⟨n', rfl⟩ : ∃ n', n = n' + 1 := ⟨n - 1, by (first | lia | omega)⟩
    have h1 := ht.tab.1
    have hl := ht.len hr'
    obtain ⟨r0, e0, _, hr0, hl0⟩ := ht.at hr' m0
    refine ⟨_, rfl, a, rs, Tt, m', n', rfl, ht, hr', ?_⟩
    refine ⟨_, rfl, a, _, _, _, rfl, rfl, SqL.of h1, atI_nat (j := 0) (rget e0), r0, _, rfl, .inl (SqL.of hr0), ?_⟩
    rw [List.length_map, hl0]
    refine ⟨_, rfl, r, _, rfl, .inl (SqL.of hrow), _, rfl, rfl, _, rfl, iteNS (by rw [List.length_map, hrl]) ?_⟩
    generalize hm : m' + 1 = m at *
    generalize hn : n' + 1 = n at *
    refine ⟨_, rfl, a, rs, Tt, m, n, rfl, ht, hr', by (first | lia | omega), by (first | lia | omega), fun p qs H1 s1 ht1 _ => ?_⟩
    refine ⟨_, rfl, by show 1 ≤ sizeLine; decide, fun l hl1 => ?_⟩
    have s2 : Same H1 (upd H1 l (.lst [V.int 0])) := same_upd hl1
    have hl2 : (upd H1 l (.lst [V.int 0])) l = some (.lst [V.int 0]) := upd_same
    generalize upd H1 l (.lst [V.int 0]) = H2 at s2 hl2 ⊢
    have s12 := s1.trans s2
    refine ⟨_, rfl, a, _, rfl, .inl (SqL.of (s12 _ _ h1)), ?_⟩
    rw [List.length_map, hl]
    refine ⟨l, _, _, rfl, rfl, hl2, by (first | lia | omega), by (first | lia | omega), by show 1 * ((m : Int)).toNat ≤ sizeLine; exact Nat.le_trans (by simp; (first | lia | omega) : 1 * ((m : Int)).toNat ≤ 1000) (by decide), fun z hz => ?_⟩
    rw [rep_zero, Int.toNat_natCast]
    have s3 := s12.laid (o := .lst ((List.replicate m (0 : Int)).map V.int)) hz
    have hz3 : (upd H2 z (.lst ((List.replicate m (0 : Int)).map V.int))) z = some (.lst ((List.replicate m (0 : Int)).map V.int)) := upd_same
    have s3' : Same H1 (upd H2 z (.lst ((List.replicate m (0 : Int)).map V.int))) := s2.laid hz
    generalize upd H2 z (.lst ((List.replicate m (0 : Int)).map V.int)) = H3 at s3 hz3 s3' ⊢
    refine ⟨r, z, _, _, rfl, rfl, s3 _ _ hrow, hz3, by rw [List.length_map, List.length_map, List.length_replicate, hrl]; exact Nat.le_trans (by (first | lia | omega) : n + m ≤ 1000) (by decide), fun rz hrz => ?_⟩
    rw [← List.map_append]
    have hrz4 : IsRow (upd H3 rz (.lst ((row ++ List.replicate m 0).map V.int))) rz (row ++ List.replicate m 0) := upd_same
    have s4 := s3.laid (o := .lst ((row ++ List.replicate m 0).map V.int)) hrz
    have ht4 := ht1.same (s3'.laid (o := .lst ((row ++ List.replicate m 0).map V.int)) hrz)
    generalize upd H3 rz (.lst ((row ++ List.replicate m 0).map V.int)) = H4 at hrz4 s4 ht4 ⊢
    have hrt := talB_rect hr'
    have hbt : ∀ x y, (ent (talB m Tt) x y).natAbs ≤ 2 ^ 180 := fun x y => by
      rw [ent_talB hr']
      unfold E1.tal
      split
      · exact hb x y
      · split
        · decide
        · exact Nat.zero_le _
    obtain ⟨L, st, e', hB, he, hs, hok, hlen, hle⟩ := E1.build_6 m6 (wide_ent hrt) hbt
    have hst := hs.len
    have hv := rowF_zeros row m
    have hlb : ∀ t y, t ≤ st.length → (E1.lessV e' st 0 t (rowF (row ++ List.replicate m 0)) y).natAbs ≤ 2 ^ 6744 := fun t y ht => by
      have h2 := E1.lessV_le hle t 0 (rowF (row ++ List.replicate m 0)) 180 (fun i _ hi => hs.nz i (by (first | lia | omega))) (fun y => by rw [hv]; exact hbr y) y
      refine Nat.le_trans h2 (Nat.pow_le_pow_right (by decide) ?_)
      have : t * (1093 + 1) ≤ 6 * (1093 + 1) := Nat.mul_le_mul_right _ (by (first | lia | omega))
      (first | lia | omega)
    refine ⟨p, rz, qs, _, row ++ List.replicate m 0, m, n + m, L, st, e', rfl, ht4, hrt, hrz4, by rw [List.length_append, List.length_replicate, hrl], m0, by (first | lia | omega), by (first | lia | omega), by (first | lia | omega), hB, hs, Nat.le_trans hlen (by decide), hle.mono (by decide), fun t y ht => Nat.le_trans (hlb t y ht) (Nat.pow_le_pow_right (by decide) (by decide)), fun pr row' H5 s5 hpr hl' hval => ?_⟩
    rw [hv] at hval hlb
    refine ⟨_, rfl, pr, row', rfl, hpr, fun H6 s6 => ⟨_, rfl, _, _, rfl, rfl, _, rfl, ?_⟩⟩
    have s46 := s4.trans (s5.trans s6)
    have hpr6 : IsRow H6 pr row' := s6 _ _ hpr
    have hL := hok
    rw [ent_talB hr'] at he
    by_cases hfp : E1.fp (fun y => row'.getD y 0) 0 row'.length < n
    · refine iteP (by (first | lia | omega)) ?_
      refine k .non H6 s46 (.non fun hin => ?_)
      have hz0 := E1.tally_none (st := st) hL he hs hin _ hfp
      rw [← hval _ (by (first | lia | omega))] at hz0
      have := E1.fp_nz (fun y => row'.getD y 0) row'.length 0 (by rw [hl']; (first | lia | omega))
      exact this hz0
    · refine iteN (by (first | lia | omega)) ?_
      have hzero : ∀ y, y < n → E1.lessV e' st 0 st.length (rowF row) y = 0 := fun y hy => by
        rw [← hval y (by (first | lia | omega))]
        exact E1.fp_zero (fun y => row'.getD y 0) row'.length 0 y (Nat.zero_le _) (by (first | lia | omega))
      refine ⟨_, rfl, _, rfl, _, rfl, pr, _, rfl, SqL.of hpr6, fun c hc => ?_⟩
      rw [cut_from (by (first | lia | omega))]
      have s7 := s46.laid (o := .lst ((row'.drop n).map V.int)) hc
      have hc7 : (upd H6 c (.lst ((row'.drop n).map V.int))) c = some (.lst ((row'.drop n).map V.int)) := upd_same
      generalize upd H6 c (.lst ((row'.drop n).map V.int)) = H7 at s7 hc7 ⊢
      have hdl : (row'.drop n).length = m := by rw [List.length_drop, hl']; (first | lia | omega)
      refine ⟨c, rfl, ⟨_, SqL.of hc7⟩, comp_list (K := K) (a := c) (xs := (row'.drop n).map V.int) (fun i ys H2 => H2 = H7 ∧ i ≤ m ∧ ys = (((row'.drop n).map fun x => -x).take i).map V.int) (by rw [List.length_map, hdl]; exact Nat.le_trans (by (first | lia | omega) : m ≤ 1000) (by decide)) ⟨rfl, Nat.zero_le _, by simp⟩ (fun i ys H2 ⟨_, hle, e⟩ => by rw [e, List.length_map, List.length_take, List.length_map, hdl]; (first | lia | omega)) (fun i ys H2 _ ⟨e, _, _⟩ => by rw [e]; exact SqL.of hc7) ?_ ?_⟩
      · rintro i x ys H2 hx ⟨rfl, _, rfl⟩
        obtain ⟨u, eu, rfl⟩ := mint hx
        refine ⟨rfl, _, rfl, _, rfl, rfl, ?_, ?_⟩
        · have := (List.getElem?_eq_some_iff.mp eu).1; (first | lia | omega)
        · rw [take_map (f := fun x => -x) eu, List.map_append]; rfl
      · rintro ys H2 ⟨rfl, _, rfl⟩ q hq
        have e : (((row'.drop n).map fun x => -x).take ((row'.drop n).map V.int).length) = (row'.drop n).map fun x => -x := List.take_of_length_le (by rw [List.length_map, List.length_map]; exact Nat.le_refl _)
        rw [e]
        have hx : ∀ i, i < m → rowF ((row'.drop n).map fun x => -x) i = - E1.lessV e' st 0 st.length (rowF row) (n + i) := fun i hi => by
          rw [← hval (n + i) (by (first | lia | omega))]
          unfold rowF
          rw [List.getD_eq_getElem?_getD, List.getElem?_map, List.getElem?_drop, List.getD_eq_getElem?_getD]
          have : n + i < row'.length := by (first | lia | omega)
          simp [this]
        refine k (.ref q) _ (s7.laid hq) (.some q _ upd_same (by rw [List.length_map, hdl]) (fun y hy => ?_) (fun i => ?_))
        · have h2 := E1.tally_sum (st := st) (w := n) (v := rowF row) hL he hst (fun y hy => rowF_out (by (first | lia | omega))) y hy
          rw [hzero y hy] at h2
          rw [h2, Int.zero_add]
          exact E1.cmb_congr m fun i hi => ⟨(hx i hi).symm, rfl⟩
        · by_cases hi : i < m
          · rw [hx i hi, Int.natAbs_neg]; exact hlb _ _ (Nat.le_refl _)
          · rw [rowF_out (by rw [List.length_map, hdl]; (first | lia | omega))]; exact Nat.zero_le _
end
end X1

namespace X1
open PySem L2
def isCol : Ch → Bool
  | .add s _ _ _ => !s
  | .swap s _ _ => !s
  | .turn s _ => !s
theorem chV_s (c : Ch) : ∃ s : Bool, atI (chV c) 1 = some (.str (sd s)) ∧ isCol c = !s := by
  cases c with
  | add s => exact ⟨s, rfl, rfl⟩
  | swap s => exact ⟨s, rfl, rfl⟩
  | turn s => exact ⟨s, rfl, rfl⟩
theorem cols_of (cs : List Ch) : (cs.filter isCol).map ofCh = E1.colsOf (cs.map ofCh) := by
  unfold E1.colsOf
  rw [List.filter_map]
  congr 1
  refine congrArg (fun f => List.filter f cs) ?_
  funext c
  cases c <;> rfl
theorem col_ok {m n : Nat} {c : Ch} (h : c.ok m n) (hc : isCol c = true) (k : Nat) : c.ok k n := by
  cases c with
  | add s i j q => cases s with
    | true => cases hc
    | false => exact h
  | swap s i j => cases s with
    | true => cases hc
    | false => exact h
  | turn s i => cases s with
    | true => cases hc
    | false => exact h
theorem dgE_dgF (row : List Int) : dgE row = E1.dgF (rowF row) := rfl
theorem sum_iff {m n : Nat} {row plain wl : List Int} {cs : List Ch} {Tp : Tb} (hrl : row.length = min m n) (hpl : plain.length = n) (hrp : Rect m n Tp) (hep : ent Tp = dgE row) (hok : ∀ c ∈ cs, c.ok m n)
    (hw : ∀ y, rowF wl y = ent (apps (cs.filter isCol) [plain]) 0 y) : E1.InR m (ent (apps cs Tp)) (rowF wl) ↔ ∀ j, j < n → rowF row j ∣ rowF plain j := by
  have hL0 : ∀ x ∈ cs.map ofCh, E1.ok2 m n x := fun x hx => by
    obtain ⟨c, hc, rfl⟩ := List.mem_map.mp hx
    exact ofCh_ok (hok c hc)
  have hL1 : ∀ x ∈ (cs.filter isCol).map ofCh, E1.ok2 1 n x := fun x hx => by
    obtain ⟨c, hc, rfl⟩ := List.mem_map.mp hx
    obtain ⟨h1, h2⟩ := List.mem_filter.mp hc
    exact ofCh_ok (col_ok (hok c h1) h2 1)
  have hr1 : Rect 1 n [plain] := ⟨rfl, fun r hr => by
    have : r = plain := by simpa using hr
    rw [this]; exact hpl⟩
  have e1 : ent (apps cs Tp) = E1.apps2 (cs.map ofCh) (dgE row) := by
    have := ent_apps (cs.map ofCh) hrp hL0
    rw [map_ofCh, hep] at this
    exact this
  have e2 : ent (apps (cs.filter isCol) [plain]) = E1.apps2 (E1.colsOf (cs.map ofCh)) (ent [plain]) := by
    have := ent_apps ((cs.filter isCol).map ofCh) hr1 hL1
    rw [map_ofCh, cols_of] at this
    exact this
  have e3 : rowF wl = E1.apps2 (E1.colsOf (cs.map ofCh)) (ent [plain]) 0 := funext fun y => by rw [hw, e2]
  rw [e1, e3, ← E1.inr_apps2 (cs.map ofCh) (dgE row) (ent [plain]) hL0, dgE_dgF, E1.inr_dg (fun y hy => rowF_out (by (first | lia | omega)))]
  constructor
  · exact fun h j _ => h j
  · intro h y
    by_cases hy : y < n
    · exact h y hy
    · have : ent [plain] 0 y = 0 := ent_out_col hr1 0 (by (first | lia | omega))
      rw [this]; exact Int.dvd_zero _
theorem getD_zeros {row : List Int} {n i : Nat} (h : i < n) : (row ++ List.replicate n (0 : Int))[i]? = some (rowF row i) := by
  unfold rowF
  by_cases hi : i < row.length
  · rw [List.getElem?_append_left hi]; simp [hi]
  · rw [List.getElem?_append_right (by (first | lia | omega)), List.getElem?_replicate, if_pos (by (first | lia | omega))]
    simp [Nat.le_of_not_lt hi]
section
variable {P : Program} {w : World} {K : PySem.W.Frag} {mg : Str → Option Value} {base : Heap}
inductive SpGoesD (vs : List V) (H : Hp) (Q : VK) : Prop
  | mk (x y : Int) (_ : vs = [.int x, .int y]) (_ : Q (.bl (decide (x ∣ y))) H) : SpGoesD vs H Q
def spGoesD : Sp := fun vs H Q _ => SpGoesD vs H Q
theorem ok_law_goes (D : DefAt K mg "_law_goes" s_law_goes ["_law_one", "_law_other"]) (T : Bt mg) : Callee P w K mg base 1 "_law_goes" ["_law_one", "_law_other"] spGoesD := by
  refine D.ok (k := 0) sc_law_goes (fun vs H Q E h => ?_) (fun f cdv A outer s H vs Q E hr h => ?_)
  · obtain ⟨_, _, rfl, _⟩ := h
    rfl
  · obtain ⟨x, y, rfl, k⟩ := h
    refine ⟨_, (pss_cons (ps_if (pt_cmpR op_eq (pv 0) pe_int (nomark _)) (pss_one (ps_ret (pe_cmpR op_eq (pv 1) pe_int (nomark _)))) pss_nil)
        (pss_one (ps_ret (pe_cmpR op_eq (pe_op op_modN (pv 1) (pv 0)) pe_int (nomark _))))), ?_⟩
    refine ⟨_, rfl, rfl, _, rfl, ?_⟩
    by_cases h0 : x = 0
    · refine iteP (by rw [h0]) ⟨_, rfl, rfl, ?_⟩
      have e : decide (V.int y = V.int 0) = decide (x ∣ y) := decide_eq_decide.mpr (by rw [h0, Int.zero_dvd]; exact ⟨fun z => V.int.inj z, fun z => by rw [z]⟩)
      rw [e]; exact k
    · refine iteN (v_ne h0) ⟨_, rfl, _, rfl, _, _, rfl, rfl, h0, rfl, ?_⟩
      have e : decide (V.int (y.fmod x) = V.int 0) = decide (x ∣ y) := decide_eq_decide.mpr ⟨fun z => Int.dvd_of_fmod_eq_zero (V.int.inj z), fun z => by rw [Int.fmod_eq_zero_of_dvd z]⟩
      rw [e]; exact k
inductive SpPlain (K : PySem.W.Frag) (vs : List V) (H : Hp) (Q : VK) : Prop
  | mk (a rw : Addr) (ns row : List Int) (n : Nat) (_ : vs = [.ref a, .ref rw, .int n]) (_ : SqL K H a (ns.map V.int)) (_ : IsRow H rw row) (_ : row.length ≤ n) (_ : 0 < n) (_ : n ≤ 6) (_ : (∀ i, (rowF row i).natAbs ≤ 10 ^ 48)) (_ : ∀ (p : Addr) (plain : List Int) (H' : Hp), Same H H' → H p = none → IsRow H' p plain → plain.length = n → (∀ x ∈ plain, x.natAbs ≤ 4 * 10 ^ 48) → Q (.ref p) H') : SpPlain K vs H Q
def spPlain (K : PySem.W.Frag) : Sp := fun vs H Q _ => SpPlain K vs H Q
set_option maxHeartbeats 4000000 in
theorem ok_law_plain_row (D : DefAt K mg "_law_plain_row" s_law_plain_row ["_law_script", "_law_row", "_law_wide"]) (T : Bt mg) (C_law_at : Callee P w K mg base 1 "_law_at" ["_law_script", "_law_k"] (spAt K)) : Callee P w K mg base 2 "_law_plain_row" ["_law_script", "_law_row", "_law_wide"] (spPlain K) := by
  refine D.ok (k := 1) sc_law_plain_row (fun vs H Q E h => ?_) (fun f cdv A outer s H vs Q E hr h => ?_)
  · obtain ⟨_, _, _, _, _, rfl, _⟩ := h
    rfl
  · obtain ⟨a, rw', ns, row, n, rfl, ha, hrow, hln, n0, n6, hb, k⟩ := h
    refine ⟨_, (pss_cons (ps_set (i := 3) sc_law_plain_row.nd rfl (Or.inl rfl) (pe_lst pa_nil))
        (pss_cons (ps_for PassesOwn.never rfl (pi_range1 rfl T.range (pa_cons (pv 2) pa_nil)) (pg_name (i := 4) sc_law_plain_row.nd rfl (Or.inl rfl)) (pss_cons (ps_set (i := 5) sc_law_plain_row.nd rfl (Or.inl rfl) pe_int)
        (pss_cons (ps_if (pt_cmpR op_lt (pv 4) (pe_callB call_len_seq rfl T.len bt_len (pa_cons (pv 1) pa_nil)) (nomark _)) (pss_one (ps_set (i := 5) sc_law_plain_row.nd rfl (Or.inl rfl) (pe_op op_mul (pe_op op_sub (pe_op op_mod (pe_op op_add (pe_callC C_law_at (hr.mono (by decide)) rfl (pa_cons (pv 0) (pa_cons (pe_op op_add pe_int (pv 4)) pa_nil))) (pv 4)) pe_int) pe_int) (pe_ix ix_list (pv 1) (pv 4) (fun _ _ => rfl))))) pss_nil)
        (pss_one (ps_expr (pe_bm PySem.F.plainAttrs_list PySem.F.slot_list_append PySem.F.type_list_append mt_append (pv 3) (pa_cons (pv 5) pa_nil)))))))
        (pss_cons (ps_if (pt_cmpR op_eq (pe_op op_mod (pe_callC C_law_at (hr.mono (by decide)) rfl (pa_cons (pv 0) (pa_cons pe_int pa_nil))) pe_int) pe_int (nomark _)) (pss_cons (ps_set (i := 6) sc_law_plain_row.nd rfl (Or.inl rfl) (pe_op op_mod (pe_callC C_law_at (hr.mono (by decide)) rfl (pa_cons (pv 0) (pa_cons pe_int pa_nil))) (pv 2)))
        (pss_one (ps_asg (pe_op op_add (pe_op op_add (pe_ix ix_list (pv 3) (pv 6) (fun _ _ => rfl)) pe_int) (pe_op op_mod (pe_callC C_law_at (hr.mono (by decide)) rfl (pa_cons (pv 0) (pa_cons pe_int pa_nil))) pe_int)) (pg_sub (pv 3) (pv 6) set_list)))) pss_nil)
        (pss_one (ps_ret (pv 3)))))), ?_⟩
    refine ⟨Nat.zero_le _, fun l hl => ?_⟩
    have s1 : Same H (upd H l (.lst [])) := same_upd hl
    have hl1 : (upd H l (.lst [])) l = some (.lst (([] : List Int).map V.int)) := upd_same
    generalize upd H l (.lst []) = H1 at s1 hl1 ⊢
    refine ⟨_, rfl, _, rfl, by (first | lia | omega), by (first | lia | omega), for_range0 (fun i σ H2 => ∃ (plain : List Int) (v4 v5 v6 : Option V), σ = [some (.ref a), some (.ref rw'), some (.int n), some (.ref l), v4, v5, v6] ∧ Same H H2 ∧ H2 l = some (.lst (plain.map V.int)) ∧ plain.length = i ∧ ∀ x ∈ plain, x.natAbs ≤ 3 * 10 ^ 48)
      ⟨[], none, none, none, rfl, s1, hl1, rfl, fun x hx => absurd hx (by simp)⟩ ?_ ?_⟩
    · rintro i σ H2 hi ⟨plain, v4, v5, v6, rfl, s2, hl2, hpl, hpb⟩
      have hi' : i < n := by simpa using hi
      have hrow2 := s2 _ _ hrow
      have fin : ∀ x : Int, x.natAbs ≤ 3 * 10 ^ 48 → Same H (upd H2 l (.lst (plain.map V.int ++ [.int x]))) ∧ (upd H2 l (.lst (plain.map V.int ++ [.int x]))) l = some (.lst ((plain ++ [x]).map V.int)) ∧ (plain ++ [x]).length = i + 1 ∧ ∀ y ∈ plain ++ [x], y.natAbs ≤ 3 * 10 ^ 48 := fun x hx => by
        refine ⟨fun b o e => ?_, ?_, ?_, fun y hy => ?_⟩
        · have hbl : b ≠ l := fun z => by rw [z, hl] at e; cases e
          rw [upd_ne hbl]; exact s2 _ _ e
        · rw [upd_same, List.map_append]; rfl
        · rw [List.length_append, hpl]; rfl
        · rcases List.mem_append.mp hy with z | z
          · exact hpb y z
          · have : y = x := by simpa using z
            rw [this]; exact hx
      refine ⟨_, rfl, _, rfl, rw', _, rfl, .inl (SqL.of hrow2), _, _, rfl, rfl, _, rfl, ?_⟩
      rw [List.length_map]
      by_cases hir : i < row.length
      · refine iteP (by (first | lia | omega)) ?_
        refine ⟨_, rfl, _, rfl, _, _, rfl, rfl, ?_⟩
        dsimp only
        have e6 : ((6 : Int) + (i : Int)) = ((6 + i : Nat) : Int) := by (first | lia | omega)
        rw [e6]
        refine ⟨a, ns, 6 + i, rfl, s2.seq ha, _, rfl, _, _, rfl, rfl, _, _, rfl, rfl, (by show (0 : Int) < 7; decide), _, _, rfl, rfl, ?_⟩
        dsimp only
        have w0 := Int.emod_nonneg (ns.getD (6 + i) 0 + (i : Int)) (show (7 : Int) ≠ 0 by decide)
        have w1 := Int.emod_lt_of_pos (ns.getD (6 + i) 0 + (i : Int)) (show (0 : Int) < 7 by decide)
        generalize (ns.getD (6 + i) 0 + (i : Int)) % 7 = g at w0 w1 ⊢
        refine ⟨_, rfl, _, rfl, rw', _, _, _, rfl, rfl, SqL.of hrow2, atI_nat (iget (getD_some rfl hir)), _, _, rfl, rfl, .inl ⟨by (first | lia | omega), by (first | lia | omega)⟩, ?_⟩
        have hx : ((g - 3) * row.getD i 0).natAbs ≤ 3 * 10 ^ 48 := by
          rw [Int.natAbs_mul]
          exact Nat.mul_le_mul (by (first | lia | omega)) (hb i)
        obtain ⟨f1, f2, f3, f4⟩ := fin _ hx
        exact ⟨_, rfl, .inl ⟨rfl, _, SqL.of hl2⟩, _, rfl, l, _, _, rfl, rfl, hl2, by rw [List.length_map, hpl]; exact Nat.lt_of_lt_of_le (by (first | lia | omega) : i < 1000) (by decide), _, _, _, _, rfl, f1, f2, f3, f4⟩
      · refine iteN (by (first | lia | omega)) ?_
        obtain ⟨f1, f2, f3, f4⟩ := fin 0 (Nat.zero_le _)
        exact ⟨_, rfl, .inl ⟨rfl, _, SqL.of hl2⟩, _, rfl, l, _, _, rfl, rfl, hl2, by rw [List.length_map, hpl]; exact Nat.lt_of_lt_of_le (by (first | lia | omega) : i < 1000) (by decide), _, _, _, _, rfl, f1, f2, f3, f4⟩
    · rintro σ H2 ⟨plain, v4, v5, v6, rfl, s2, hl2, hpl, hpb⟩
      have hpl : plain.length = n := by simpa using hpl
      have ha2 := s2.seq ha
      refine ⟨_, rfl, a, ns, 10, rfl, ha2, _, _, rfl, rfl, (by show (0 : Int) < 2; decide), rfl, _, rfl, ?_⟩
      have out : ∀ H3, Same H H3 → IsRow H3 l plain → Q (.ref l) H3 := fun H3 s3 h3 => k l plain H3 s3 hl h3 hpl fun x hx => Nat.le_trans (hpb x hx) (by decide)
      by_cases h1 : ns.getD 10 0 % 2 = 1
      · refine iteP (by dsimp only; rw [h1]) ?_
        have p0 := Int.emod_nonneg (ns.getD 11 0) (show (n : Int) ≠ 0 by (first | lia | omega))
        have p1 := Int.emod_lt_of_pos (ns.getD 11 0) (show (0 : Int) < (n : Int) by (first | lia | omega))
        obtain ⟨pl, epl⟩ := Int.eq_ofNat_of_zero_le p0
        have hplt : pl < n := by (first | lia | omega)
        refine ⟨_, rfl, a, ns, 11, rfl, ha2, _, rfl, _, _, rfl, rfl, (by show (0 : Int) < (n : Int); (first | lia | omega)), ?_⟩
        dsimp only
        rw [epl]
        have q0 := Int.emod_nonneg (ns.getD 12 0) (show (3 : Int) ≠ 0 by decide)
        have q1 := Int.emod_lt_of_pos (ns.getD 12 0) (show (0 : Int) < 3 by decide)
        refine ⟨_, rfl, _, rfl, l, _, _, _, rfl, rfl, SqL.of hl2, atI_nat (iget (getD_some hpl hplt)), _, _, rfl, rfl, _, rfl, a, ns, 12, rfl, ha2, _, _, rfl, rfl, (by show (0 : Int) < 3; decide), _, _, rfl, rfl, ?_⟩
        refine ⟨_, rfl, _, rfl, l, _, _, pl, rfl, rfl, hl2, ixN_nat (by rw [List.length_map, hpl]; exact hplt), ?_⟩
        refine ⟨_, rfl, k l (plain.set pl (plain.getD pl 0 + 1 + ns.getD 12 0 % 3)) _ (fun b o e => ?_) hl ?_ (by rw [List.length_set, hpl]) fun x hx => ?_⟩
        · have hbl : b ≠ l := fun z => by rw [z, hl] at e; cases e
          rw [upd_ne hbl]; exact s2 _ _ e
        · show upd _ _ _ _ = _
          rw [upd_same, List.map_set]
        · rcases List.mem_or_eq_of_mem_set hx with z | z
          · exact Nat.le_trans (hpb x z) (by decide)
          · rw [z]
            have h2 : (plain.getD pl 0).natAbs ≤ 3 * 10 ^ 48 := hpb _ (List.mem_of_getElem? (getD_some hpl hplt))
            (first | lia | omega)
      · refine iteN (v_ne h1) ⟨_, rfl, out H2 s2 hl2⟩
def spLaw (K : PySem.W.Frag) : Sp := fun vs H Q _ => ∃ (a : Addr) (ns : List Int), vs = [.ref a] ∧ SqL K H a (ns.map V.int) ∧ ns.length ≤ 63 ∧ ∀ H', Q (.bl true) H'
set_option maxHeartbeats 4000000 in
theorem ok_law (D : DefAt K mg "law" s_law ["_law_script"]) (T : Bt mg) (C_law_sizes : Callee P w K mg base 2 "_law_sizes" ["_law_script"] (spSizes K)) (C_law_row_by : Callee P w K mg base 2 "_law_row_by" ["_law_script", "_law_first", "_law_many"] (spRowBy K)) (C_law_laid : Callee P w K mg base 1 "_law_laid" ["_law_row", "_law_high", "_law_wide"] spLaid) (C_law_changes_by : Callee P w K mg base 2 "_law_changes_by" ["_law_cells", "_law_high", "_law_wide"] (spChsBy K)) (C_law_walked : Callee P w K mg base 3 "_law_walked" ["_law_table", "_law_changes"] (spWalked 33554432)) (C_law_plain_row : Callee P w K mg base 2 "_law_plain_row" ["_law_script", "_law_row", "_law_wide"] (spPlain K)) (C_law_goes : Callee P w K mg base 1 "_law_goes" ["_law_one", "_law_other"] spGoesD) (C_law_copy : Callee P w K mg base 1 "_law_copy" ["_law_table"] spCopy) (C_how_often : Callee P w K mg base 46 "how_often" ["table", "row"] spHowOften) (C_law_is_table : Callee P w K mg base 2 "_law_is_table" ["_law_found", "_law_high", "_law_wide"] spIsT) (C_law_numbers : Callee P w K mg base 2 "_law_numbers" ["_law_found", "_law_due"] spNums) (C_law_whole : Callee P w K mg base 1 "_law_whole" ["_law_found"] spWhole) : Callee P w K mg base 47 "law" ["_law_script"] (spLaw K) := by
  refine D.ok (k := 46) sc_law (fun vs H Q E h => ?_) (fun f cdv A outer s H vs Q E hr h => ?_)
  · obtain ⟨_, _, rfl, _⟩ := h
    rfl
  · obtain ⟨a0, ns, rfl, ha0, hlen, k⟩ := h
    refine ⟨_, (pss_cons (ps_set (i := 0) sc_law.nd rfl (Or.inl rfl) (pe_slice sl_list (pv 0) po_none (po_some pe_int)))
        (pss_cons (ps_asg (pe_callC C_law_sizes (hr.mono (by decide)) rfl (pa_cons (pv 0) pa_nil)) (pg_tup (n := 2) rfl (pgs_cons (pg_name (i := 1) sc_law.nd rfl (Or.inl rfl)) (pgs_cons (pg_name (i := 2) sc_law.nd rfl (Or.inl rfl)) pgs_nil))))
        (pss_cons (ps_set (i := 3) sc_law.nd rfl (Or.inl rfl) (pe_callC C_law_row_by (hr.mono (by decide)) rfl (pa_cons (pv 0) (pa_cons pe_int (pa_cons (pe_callB (call_min2 rfl) rfl T.min bt_min (pa_cons (pv 1) (pa_cons (pv 2) pa_nil))) pa_nil)))))
        (pss_cons (ps_set (i := 4) sc_law.nd rfl (Or.inl rfl) (pe_callC C_law_changes_by (hr.mono (by decide)) rfl (pa_cons (pe_slice sl_list (pv 0) (po_some pe_int) (po_some pe_int)) (pa_cons (pv 1) (pa_cons (pv 2) pa_nil)))))
        (pss_cons (ps_set (i := 5) sc_law.nd rfl (Or.inr rfl) (pe_callC C_law_walked (hr.mono (by decide)) rfl (pa_cons (pe_callC C_law_laid (hr.mono (by decide)) rfl (pa_cons (pv 3) (pa_cons (pv 1) (pa_cons (pv 2) pa_nil)))) (pa_cons (pv 4) pa_nil))))
        (pss_cons (ps_set (i := 6) sc_law.nd rfl (Or.inl rfl) (pe_callC C_law_plain_row (hr.mono (by decide)) rfl (pa_cons (pv 0) (pa_cons (pv 3) (pa_cons (pv 2) pa_nil)))))
        (pss_cons (ps_set (i := 7) sc_law.nd rfl (Or.inl rfl) pe_bl)
        (pss_cons (ps_for PassesOwn.never rfl (pi_range1 rfl T.range (pa_cons (pv 2) pa_nil)) (pg_name (i := 8) sc_law.nd rfl (Or.inr rfl)) (pss_one (ps_if (pt_not (pt_val (pe_callC C_law_goes (hr.mono (by decide)) rfl (pa_cons (pe_ix ix_list (pe_op op_cat (pv 3) (pe_op op_rep (pe_lst (pa_cons pe_int pa_nil)) (pv 2))) (pv 8) (fun _ _ => rfl)) (pa_cons (pe_ix ix_list (pv 6) (pv 8) (fun _ _ => rfl)) pa_nil))))) (pss_one (ps_set (i := 7) sc_law.nd rfl (Or.inl rfl) pe_bl)) pss_nil)))
        (pss_cons (ps_setCompT (i := 9) sc_law.nd rfl (Or.inl rfl) (N := ["_law_change"]) (cap := []) (k := 1) (CompScope.mk' (defScope s_law) ["_law_script", "_law_high", "_law_wide", "_law_row", "_law_changes", "_law_table", "_law_plain", "_law_sum_it", "_law_k", "_law_across", "_law_wanted", "_law_handed", "_law_given", "_law_found", "_law_made"] rfl rfl (by decide +kernel)) rfl (pi_list (pv 4)) (fun _ _ _ _ => (pg_name (i := 0) (show (["_law_change"] : List Str).Nodup by decide +kernel) rfl (Or.inl rfl))) (fun _ _ _ _ => (pt_cmpR op_eq (pe_ix (ix_tupK (K := K) rfl) (pv 0) pe_int (fun _ _ => rfl)) pe_str (nomark _))) (fun _ _ _ _ => (pv 0)))
        (pss_cons (ps_set (i := 10) sc_law.nd rfl (Or.inl rfl) (pe_ix ix_list (pe_callC C_law_walked (hr.mono (by decide)) rfl (pa_cons (pe_lst (pa_cons (pv 6) pa_nil)) (pa_cons (pv 9) pa_nil))) pe_int (fun _ _ => rfl)))
        (pss_cons (ps_set (i := 11) sc_law.nd rfl (Or.inl rfl) (pe_callC C_law_copy (hr.mono (by decide)) rfl (pa_cons (pv 5) pa_nil)))
        (pss_cons (ps_set (i := 12) sc_law.nd rfl (Or.inl rfl) (pe_callTy call_list_of rfl T.list bt_list (pa_cons (pv 10) pa_nil)))
        (pss_cons (ps_set (i := 13) sc_law.nd rfl (Or.inr rfl) (pe_callC C_how_often (hr.mono (by decide)) rfl (pa_cons (pv 11) (pa_cons (pv 12) pa_nil))))
        (pss_cons (ps_if (PW.pt (pw_or (pt_not (pt_val (pe_callC C_law_is_table (hr.mono (by decide)) rfl (pa_cons (pv 11) (pa_cons (pv 1) (pa_cons (pv 2) pa_nil)))))) (pw_or1 (pt_cmpR (op_neT hr.units) (pv 11) (pv 5) (nomark _))))) (pss_one (ps_ret pe_bl)) pss_nil)
        (pss_cons (ps_if (pt_not (pt_val (pe_callC C_law_numbers (hr.mono (by decide)) rfl (pa_cons (pv 12) (pa_cons (pv 10) pa_nil))))) (pss_one (ps_ret pe_bl)) pss_nil)
        (pss_cons (ps_if (pt_not (pt_val (pv 7))) (pss_one (ps_ret (pe_cmpR op_isN (pv 13) pe_non (nomark _)))) pss_nil)
        (pss_cons (ps_if (PW.pt (pw_or (pt_not (pt_val (pe_callB call_isi rfl T.isinstance bt_isinstance (pa_cons (pv 13) (pa_cons (pe_bltn (v := .ty "list") rfl T.list bt_list rfl) pa_nil))))) (pw_or1 (pt_cmpR op_ne (pe_callB call_len_seq rfl T.len bt_len (pa_cons (pv 13) pa_nil)) (pv 1) (nomark _))))) (pss_one (ps_ret pe_bl)) pss_nil)
        (pss_cons (ps_set (i := 14) sc_law.nd rfl (Or.inr rfl) (pe_op op_rep (pe_lst (pa_cons pe_int pa_nil)) (pv 2)))
        (pss_cons (ps_for PassesOwn.never rfl (pi_range1 rfl T.range (pa_cons (pv 1) pa_nil)) (pg_name (i := 8) sc_law.nd rfl (Or.inr rfl)) (pss_cons (ps_if (pt_not (pt_val (pe_callC C_law_whole (hr.mono (by decide)) rfl (pa_cons (pe_ix ix_list (pv 13) (pv 8) (fun _ _ => rfl)) pa_nil)))) (pss_one (ps_ret pe_bl)) pss_nil)
        (pss_one (ps_set (i := 14) sc_law.nd rfl (Or.inr rfl) (pe_comp (N := ["_law_made", "_law_found", "_law_k", "_law_table", "_law_j"]) (cap := [14, 13, 8, 5]) (k := 1) (CompScope.mk' (defScope s_law) ["_law_script", "_law_high", "_law_wide", "_law_row", "_law_changes", "_law_table", "_law_plain", "_law_sum_it", "_law_k", "_law_across", "_law_wanted", "_law_handed", "_law_given", "_law_found", "_law_made"] rfl rfl (by decide +kernel)) rfl (pi_range1 rfl T.range (pa_cons (pv 2) pa_nil)) (fun _ _ _ _ => (pg_name (i := 4) (show (["_law_made", "_law_found", "_law_k", "_law_table", "_law_j"] : List Str).Nodup by decide +kernel) rfl (Or.inl rfl))) (fun _ _ _ _ => (pe_op op_add (pe_ix (ix_listK (K := K) rfl) (pv 0) (pv 4) (fun _ _ => rfl)) (pe_op (op_mulB 33554432 (by decide)) (pe_ix (ix_listK (K := K) rfl) (pv 1) (pv 2) (fun _ _ => rfl)) (pe_ix (ix_listK (K := K) rfl) (pe_ix (ix_listK (K := K) rfl) (pv 3) (pv 2) (fun _ _ => rfl)) (pv 4) (fun _ _ => rfl))))))))))
        (pss_one (ps_ret (pe_cmpR (op_eqR hr.units) (pv 14) (pv 10) (nomark _))))))))))))))))))))))), ?_⟩
    refine ⟨_, rfl, _, rfl, a0, _, rfl, ha0, fun a hpa => ?_⟩
    have ecut : cutV (ns.map V.int) none (some 500) = ns.map V.int := cut_all (by rw [List.length_map]; (first | lia | omega))
    rw [ecut]
    have ha : SqL K (upd H a (.lst (ns.map V.int))) a (ns.map V.int) := SqL.of upd_same
    generalize upd H a (.lst (ns.map V.int)) = H0 at ha ⊢
    refine ⟨_, rfl, a, ns, rfl, ha, hlen, fun pz m n H1 s1 hpz hsz => ?_⟩
    have ha1 := s1.seq ha
    have hmn : 0 < m ∧ 0 < n ∧ m ≤ 6 ∧ n ≤ 6 ∧ min m n ≤ 4 := by unfold Sz at hsz; (first | lia | omega)
    obtain ⟨m0, n0, m6, n6, hmin⟩ := hmn
    refine ⟨pz, _, rfl, SqT.of hpz, rfl, _, _, rfl, _, _, rfl, rfl, ?_⟩
    have emin : (if ((n : Nat) : Int) < ((m : Nat) : Int) then ((n : Nat) : Int) else ((m : Nat) : Int)) = ((min m n : Nat) : Int) := by
      split <;> (first | lia | omega)
    refine ⟨_, rfl, _, rfl, _, rfl, _, _, rfl, ?_⟩
    rw [emin]
    refine ⟨a, ns, 2, min m n, rfl, ha1, hmin, fun rw' row H2 s2 _ hrow hrl hch => ?_⟩
    have hl4 : row.length ≤ 4 := by (first | lia | omega)
    have ha2 := s2.seq ha1
    refine ⟨_, rfl, _, rfl, _, rfl, a, _, rfl, ha2, fun pc hpc => ?_⟩
    obtain ⟨ms, ems, hms⟩ := cut_int ns (some 13) (some 23)
    have hms10 : ms.length ≤ 10 := by
      have h1 := HT.sIx_nat ns.length ns.length 23
      have h2 := HT.sIx_nat ns.length 0 13
      rw [show ((23 : Nat) : Int) = (23 : Int) from rfl] at h1
      rw [show ((13 : Nat) : Int) = (13 : Int) from rfl] at h2
      rw [h1, h2] at hms
      (first | lia | omega)
    rw [ems]
    have s3 : Same H2 (upd H2 pc (.lst (ms.map V.int))) := same_upd hpc
    refine ⟨_, rfl, _, rfl, pc, ms, m, n, rfl, SqL.of upd_same, by (first | lia | omega), m0, n0, fun cl ts cs H3 s3' hcs hok hcl => ?_⟩
    have s3 := s3.trans s3'
    have ha3 := s3.seq ha2
    have hrow3 := s3 _ _ hrow
    refine ⟨_, rfl, _, rfl, _, rfl, rw', row, m, n, rfl, hrow3, hrl, by (first | lia | omega), by (first | lia | omega), fun pl qs Tp H4 s4 htp _ hrp hep => ?_⟩
    have hin : ∀ x y, (ent Tp x y).natAbs ≤ 10 ^ 48 := fun x y => by rw [hep]; exact dgE_le hch hl4 x y
    have small : ∀ j, j ≤ 10 → 3 ^ j * (4 * 10 ^ 48) ≤ 2 ^ 180 := by decide
    have hb180 : ∀ i x y, (ent (apps (cs.take i) Tp) x y).natAbs ≤ 2 ^ 180 := fun i x y => by
      have h1 := apps_le (cs.take i) Tp (10 ^ 48) hrp (fun d hd => hok d (List.mem_of_mem_take hd)) hin x y
      have h2 := small (cs.take i).length (by rw [List.length_take]; (first | lia | omega))
      (first | lia | omega)
    refine ⟨_, rfl, pl, cl, qs, ts, Tp, m, n, cs, rfl, htp, hrp, m0, by (first | lia | omega), by (first | lia | omega), hcs.same s4, fun c hc => ⟨(hok c hc).1, tiny_fits (by decide) (hok c hc).2⟩, fun i x y => Nat.le_trans (hb180 i x y) (Nat.pow_le_pow_right (by decide) (by decide)), fun tb rs H5 s5 htb => ?_⟩
    have hrt : Rect m n (apps cs Tp) := apps_rect hrp fun c hc => (hok c hc).1
    have s45 := s4.trans s5
    have ha5 := s45.seq ha3
    have hrow5 := s45 _ _ hrow3
    have hcs5 := hcs.same s45
    have hBt : ∀ x y, (ent (apps cs Tp) x y).natAbs ≤ 2 ^ 180 := fun x y => by
      have := hb180 cs.length x y
      rw [List.take_length] at this
      exact this
    have hrb : ∀ i, (rowF row i).natAbs ≤ 10 ^ 48 := fun i => by
      have := dgE_le hch hl4 i i
      unfold dgE at this
      rw [if_pos rfl] at this
      exact this
    refine ⟨_, rfl, _, rfl, _, rfl, a, rw', ns, row, n, rfl, ha5, hrow5, by (first | lia | omega), n0, n6, hrb, fun pp plain H6 s6 _ hpp hpl hpb => ?_⟩
    have hrow6 := s6 _ _ hrow5
    have hcs6 := hcs5.same s6
    have htb6 := htb.same s6
    refine ⟨_, rfl, _, rfl, by (first | lia | omega), by (first | lia | omega), for_range0 (fun i σ H7 => ∃ (b : Bool) (v8 : Option V), σ = [some (.ref a), some (.int m), some (.int n), some (.ref rw'), some (.ref cl), some (.ref tb), some (.ref pp), some (.bl b), v8, none, none, none, none, none, none] ∧ Same H6 H7 ∧ (b = true ↔ ∀ j, j < i → rowF row j ∣ rowF plain j))
      ⟨true, none, rfl, Same.refl _, ⟨fun _ j hj => absurd hj (Nat.not_lt_zero _), fun _ => rfl⟩⟩ ?_ ?_⟩
    · rintro i σ H7 hi ⟨b, v8, rfl, s7, hb⟩
      have hi' : i < n := by simpa using hi
      refine ⟨_, rfl, by show 1 ≤ sizeLine; decide, fun l hl1 => ?_⟩
      have s8 := s7.laid (o := .lst [V.int 0]) hl1
      have hl2 : (upd H7 l (.lst [V.int 0])) l = some (.lst [V.int 0]) := upd_same
      generalize upd H7 l (.lst [V.int 0]) = H8 at s8 hl2 ⊢
      refine ⟨_, rfl, l, _, _, rfl, rfl, hl2, by (first | lia | omega), by (first | lia | omega), by show 1 * ((n : Int)).toNat ≤ sizeLine; exact Nat.le_trans (by simp; (first | lia | omega) : 1 * ((n : Int)).toNat ≤ 1000) (by decide), fun z hz => ?_⟩
      rw [rep_zero, Int.toNat_natCast]
      have s9 := s8.laid (o := .lst ((List.replicate n (0 : Int)).map V.int)) hz
      have hz3 : (upd H8 z (.lst ((List.replicate n (0 : Int)).map V.int))) z = some (.lst ((List.replicate n (0 : Int)).map V.int)) := upd_same
      generalize upd H8 z (.lst ((List.replicate n (0 : Int)).map V.int)) = H9 at s9 hz3 ⊢
      refine ⟨rw', z, _, _, rfl, rfl, s9 _ _ hrow6, hz3, by rw [List.length_map, List.length_map, List.length_replicate]; exact Nat.le_trans (by (first | lia | omega) : row.length + n ≤ 1000) (by decide), fun rz hrz => ?_⟩
      rw [← List.map_append]
      have s10 := s9.laid (o := .lst ((row ++ List.replicate n 0).map V.int)) hrz
      refine ⟨_, rfl, rz, _, _, _, rfl, rfl, SqL.of upd_same, atI_nat (iget (getD_zeros hi')), ?_⟩
      generalize upd H9 rz (.lst ((row ++ List.replicate n 0).map V.int)) = H10 at s10 ⊢
      refine ⟨_, rfl, _, rfl, pp, _, _, _, rfl, rfl, SqL.of (s10 _ _ hpp), atI_nat (iget (getD_some hpl hi')), _, _, rfl, _, rfl, ?_⟩
      by_cases hg : rowF row i ∣ plain.getD i 0
      · refine iteNS hg ⟨b, _, rfl, s10, hb.trans ⟨fun h j hj => ?_, fun h j hj => h j (by (first | lia | omega))⟩⟩
        by_cases hj2 : j = i
        · rw [hj2]; exact hg
        · exact h j (by (first | lia | omega))
      · exact iteNN hg ⟨false, _, rfl, s10, ⟨(fun h => by cases h), (fun h => absurd (h i (by (first | lia | omega))) hg)⟩⟩
    rintro σ H7 ⟨b, v8, rfl, s7, hb⟩
    have hb : b = true ↔ ∀ j, j < n → rowF row j ∣ rowF plain j := by
      have e : ((n : Nat) : Int).toNat = n := by simp
      rw [e] at hb
      exact hb
    have hcs7 := hcs6.same s7
    have htb7 := htb6.same s7
    have hpp7 : IsRow H7 pp plain := s7 _ _ hpp
    have hcl' := Paired.length hcs7.2
    refine ⟨_, rfl, cl, rfl, ⟨_, SqL.of hcs7.1⟩, ?_⟩
    refine comp_itT (J := Itl K cl) (n := ts.length) (fun i ys H8 => H8 = H7 ∧ ∃ us, ys = us.map V.ref ∧ us.length ≤ i ∧ Paired (IsCh H7) us ((cs.take i).filter isCol)) (by rw [hcl']; exact Nat.le_trans (by (first | lia | omega) : cs.length ≤ 1000) (by decide)) ⟨rfl, [], rfl, Nat.le_refl _, by simpa using Paired.nil⟩ (fun i ys H8 ⟨_, us, e, h, _⟩ => by rw [e, List.length_map]; exact h)
      (fun i ys H8 hi ⟨e, _⟩ => ⟨ts.map V.ref, _, by rw [e]; exact SqL.of hcs7.1, by rw [List.getElem?_eq_getElem (by rw [List.length_map]; exact hi)]⟩) (fun ys H8 ⟨e, _⟩ => ⟨ts.map V.ref, by rw [e]; exact SqL.of hcs7.1, by rw [List.length_map]; exact Nat.le_refl _⟩) ?_ ?_
    · rintro i x ys H8 H9 hi ⟨rfl, us, rfl, hul, hup⟩ ⟨rfl, hx⟩
      obtain ⟨t, et, rfl⟩ := mref (hx _ (SqL.of hcs7.1))
      obtain ⟨c, ec, hc⟩ := pget hcs7.2 et
      obtain ⟨sb, e1, e2⟩ := chV_s c
      refine ⟨rfl, _, rfl, t, _, _, _, rfl, rfl, SqT.of hc, e1, rfl, _, rfl, ?_⟩
      rw [sd_col, ← e2]
      have etk : cs.take (i + 1) = cs.take i ++ [c] := by rw [List.take_succ, ec]; rfl
      cases hcol : isCol c with
      | true =>
        refine iteT ⟨_, rfl, rfl, us ++ [t], by rw [List.map_append]; rfl, by rw [List.length_append]; simpa using hul, ?_⟩
        rw [etk, List.filter_append]
        have : [c].filter isCol = [c] := by simp [hcol]
        rw [this]
        exact psnoc hup hc
      | false =>
        refine iteF ⟨rfl, us, rfl, by (first | lia | omega), ?_⟩
        rw [etk, List.filter_append]
        have : [c].filter isCol = [] := by simp [hcol]
        rw [this, List.append_nil]
        exact hup
    rintro ys H8' ⟨e8, us, rfl, hul, hup⟩ ac hac
    rw [e8] at hac ⊢
    rw [hcl', List.take_length] at hup
    have s8 : Same H7 (upd H7 ac (.lst (us.map V.ref))) := same_upd hac
    have hac8 : IsChs (upd H7 ac (.lst (us.map V.ref))) ac us (cs.filter isCol) := ⟨upd_same, pimp hup fun t c z => s8 _ _ z⟩
    generalize upd H7 ac (.lst (us.map V.ref)) = H8 at s8 hac8 ⊢
    refine ⟨_, rfl, by show 1 ≤ sizeLine; decide, fun l1 hl1 => ?_⟩
    have s9 := s8.laid (o := .lst [V.ref pp]) hl1
    have hpl1 : pp ≠ l1 := ne_of_none (s8 _ _ hpp7) hl1
    have ht1 : TabAt (upd H8 l1 (.lst [V.ref pp])) l1 [pp] [plain] := ⟨⟨upd_same, .cons (s9 _ _ hpp7) .nil⟩, by simpa using Ne.symm hpl1⟩
    have hac9 := hac8.same (same_upd (o := .lst [V.ref pp]) hl1)
    generalize upd H8 l1 (.lst [V.ref pp]) = H9 at s9 ht1 hac9 ⊢
    have hr1 : Rect 1 n [plain] := ⟨rfl, fun r hr => by
      have : r = plain := by simpa using hr
      rw [this]; exact hpl⟩
    have hcok : ∀ c ∈ cs.filter isCol, c.ok 1 n ∧ c.tiny := fun c hc => by
      obtain ⟨h1, h2⟩ := List.mem_filter.mp hc
      exact ⟨col_ok (hok c h1).1 h2 1, (hok c h1).2⟩
    have hin1 : ∀ x y, (ent [plain] x y).natAbs ≤ 4 * 10 ^ 48 := fun x y => by
      have hbg : Big (4 * 10 ^ 48) [plain] := fun r hr z hz => by
        have : r = plain := by simpa using hr
        rw [this] at hz; exact hpb z hz
      exact hbg.ent x y
    have hfl : (cs.filter isCol).length ≤ 10 := Nat.le_trans (List.length_filter_le _ _) (by (first | lia | omega))
    have hw180 : ∀ i x y, (ent (apps ((cs.filter isCol).take i) [plain]) x y).natAbs ≤ 2 ^ 180 := fun i x y => by
      have h1 := apps_le ((cs.filter isCol).take i) [plain] (4 * 10 ^ 48) hr1 (fun d hd => hcok d (List.mem_of_mem_take hd)) hin1 x y
      exact Nat.le_trans h1 (small _ (by rw [List.length_take]; (first | lia | omega)))
    refine ⟨_, rfl, l1, ac, [pp], us, [plain], 1, n, cs.filter isCol, rfl, ht1, hr1, by decide, by decide, by (first | lia | omega), hac9, fun c hc => ⟨(hcok c hc).1, tiny_fits (by decide) (hcok c hc).2⟩, fun i x y => Nat.le_trans (hw180 i x y) (Nat.pow_le_pow_right (by decide) (by decide)), fun wb ws H10 s10 htw => ?_⟩
    have hrw : Rect 1 n (apps (cs.filter isCol) [plain]) := apps_rect hr1 fun c hc => (hcok c hc).1
    obtain ⟨wr, ewr, _, hwr, hlw⟩ := htw.at hrw (show 0 < 1 by decide)
    refine ⟨wb, _, _, _, rfl, rfl, SqL.of htw.tab.1, atI_nat (j := 0) (rget ewr), ?_⟩
    have hwf : ∀ y, rowF ((apps (cs.filter isCol) [plain]).getD 0 []) y = ent (apps (cs.filter isCol) [plain]) 0 y := fun _ => rfl
    generalize (apps (cs.filter isCol) [plain]).getD 0 [] = wl at hwr hlw hwf
    have hwb : ∀ y, (rowF wl y).natAbs ≤ 2 ^ 180 := fun y => by
      have := hw180 (cs.filter isCol).length 0 y
      rw [List.take_length] at this
      rw [hwf]; exact this
    have hiff := sum_iff hrl hpl hrp hep (fun c hc => (hok c hc).1) hwf
    have htb10 := htb7.same (s9.trans s10)
    refine ⟨_, rfl, tb, rs, _, rfl, htb10, by rw [hrt.1]; (first | lia | omega), fun hd hq H11 s11 hth _ => ?_⟩
    refine ⟨_, rfl, wr, _, rfl, .inl (SqL.of (s11 _ _ hwr)), fun gl hgl => ?_⟩
    have s12 := s11.laid (o := .lst (wl.map V.int)) hgl
    have hgl12 : IsRow (upd H11 gl (.lst (wl.map V.int))) gl wl := upd_same
    have hth12 := hth.same (same_upd (o := .lst (wl.map V.int)) hgl)
    generalize upd H11 gl (.lst (wl.map V.int)) = H12 at s12 hgl12 hth12 ⊢
    refine ⟨_, rfl, _, rfl, hd, gl, hq, _, wl, m, n, rfl, hth12, hrt, hgl12, hlw, m0, n0, m6, n6, hBt, hwb, fun v H13 s13 hres => ?_⟩
    have s1013 := s12.trans s13
    have htb13 := htb10.same s1013
    have hwr13 : IsRow H13 wr wl := s1013 _ _ hwr
    refine ⟨_, rfl, _, rfl, _, rfl, hd, hq, _, m, n, rfl, hth12.same s13, hrt, _, rfl, iteF ?_⟩
    refine ⟨_, rfl, _, rfl, hd, tb, hq, rs, _, _, rfl, rfl, (hth12.same s13).tab, htb13.tab, _, rfl, iteB0 (by simp) ?_⟩
    refine ⟨_, rfl, _, rfl, gl, wr, wl, rfl, s13 _ _ hgl12, hwr13, by (first | lia | omega), _, rfl, iteF ?_⟩
    refine ⟨_, rfl, _, rfl, ?_⟩
    cases hres with
    | non hno =>
      have hb0 : b = false := by
        cases b with
        | false => rfl
        | true => exact absurd (hiff.mpr (hb.mp rfl)) hno
      subst hb0
      exact iteT ⟨_, rfl, rfl, k _⟩
    | some p xs hp hpx hsum hxb =>
      have hb1 : b = true := hb.mpr (hiff.mp ⟨rowF xs, fun y => by
        by_cases hy : y < n
        · exact hsum y hy
        · rw [rowF_out (by (first | lia | omega))]
          symm
          have : E1.cmb (rowF xs) (ent (apps cs Tp)) m y = E1.cmb (rowF xs) (fun _ _ => 0) m y := E1.cmb_congr m fun i _ => ⟨rfl, ent_out_col hrt i (by (first | lia | omega))⟩
          rw [this]
          have z : ∀ k, E1.cmb (rowF xs) (fun _ _ => 0) k y = 0 := fun k => by
            induction k with
            | zero => rfl
            | succ k ih => simp only [E1.cmb, ih]; simp
          exact z m⟩)
      subst hb1
      refine iteF ?_
      refine ⟨_, rfl, _, _, _, rfl, .lst hp, by simp, _, rfl, iteB0 (by decide) ⟨_, rfl, p, _, rfl, .inl (SqL.of hp), _, rfl, rfl, _, rfl, iteNS (by rw [List.length_map, hpx]) ?_⟩⟩
      refine ⟨by show 1 ≤ sizeLine; decide, fun l hl1 => ?_⟩
      have s14 : Same H13 (upd H13 l (.lst [V.int 0])) := same_upd hl1
      have hl2 : (upd H13 l (.lst [V.int 0])) l = some (.lst [V.int 0]) := upd_same
      generalize upd H13 l (.lst [V.int 0]) = H14 at s14 hl2 ⊢
      refine ⟨_, rfl, l, _, _, rfl, rfl, hl2, by (first | lia | omega), by (first | lia | omega), by show 1 * ((n : Int)).toNat ≤ sizeLine; exact Nat.le_trans (by simp; (first | lia | omega) : 1 * ((n : Int)).toNat ≤ 1000) (by decide), fun mp hmp => ?_⟩
      rw [rep_zero, Int.toNat_natCast]
      have s15 := s14.laid (o := .lst ((List.replicate n (0 : Int)).map V.int)) hmp
      have hmp15 : (upd H14 mp (.lst ((List.replicate n (0 : Int)).map V.int))) mp = some (.lst ((List.replicate n (0 : Int)).map V.int)) := upd_same
      generalize upd H14 mp (.lst ((List.replicate n (0 : Int)).map V.int)) = H15 at s15 hmp15 ⊢
      let sumL : Nat → List Int := fun i => (List.range n).map fun y => E1.cmb (rowF xs) (ent (apps cs Tp)) i y
      have hs0 : List.replicate n (0 : Int) = sumL 0 := by
        show _ = (List.range n).map fun y => (0 : Int)
        refine List.ext_getElem? fun i => ?_
        rw [List.getElem?_map, List.getElem?_replicate]
        by_cases hi : i < n
        · rw [if_pos hi, List.getElem?_range hi]; rfl
        · rw [if_neg hi, List.getElem?_eq_none (by simp; (first | lia | omega))]; rfl
      rw [hs0] at hmp15
      refine ⟨_, rfl, _, rfl, by (first | lia | omega), by (first | lia | omega), for_range0 (fun i σ H16 => ∃ (mp : Addr) (v8 : Option V), σ = [some (.ref a), some (.int m), some (.int n), some (.ref rw'), some (.ref cl), some (.ref tb), some (.ref pp), some (.bl true), v8, some (.ref ac), some (.ref wr), some (.ref hd), some (.ref gl), some (.ref p), some (.ref mp)] ∧ Same H13 H16 ∧ IsRow H16 mp (sumL i))
        ⟨mp, v8, rfl, s15, hmp15⟩ ?_ ?_⟩
      · rintro i σ H16 hi ⟨mp, v8, rfl, s16, hmp16⟩
        have hi' : i < m := by simpa using hi
        have hxi : xs[i]? = some (xs.getD i 0) := getD_some hpx hi'
        have hp16 : IsRow H16 p xs := s16 _ _ hp
        have htb16 := htb13.same s16
        obtain ⟨rk, erk, _, hrk, hlk⟩ := htb16.at hrt hi'
        refine ⟨_, rfl, _, rfl, p, _, _, _, rfl, rfl, SqL.of hp16, atI_nat (iget hxi), _, rfl, _, rfl, iteF ?_⟩
        refine ⟨_, rfl, _, rfl, by (first | lia | omega), by (first | lia | omega), ?_⟩
        refine comp_it (J := Itr 0 _) (n := n) (fun j ys H17 => H17 = H16 ∧ j ≤ n ∧ ys = ((sumL (i + 1)).take j).map V.int) (Nat.le_trans (by (first | lia | omega) : n ≤ 1000) (by decide)) ⟨rfl, Nat.zero_le _, by simp⟩ (fun j ys H2 ⟨_, hle, e⟩ => by rw [e, List.length_map, List.length_take, List.length_map, List.length_range]; (first | lia | omega))
          (fun j ys H2 hj _ => by show j < Int.toNat _; simpa using hj) (fun ys H2 _ => by show Int.toNat _ ≤ n; simp) ?_ ?_
        · rintro j x ys H17 H18 hj ⟨rfl, _, rfl⟩ ⟨rfl, rfl⟩
          rw [Int.zero_add]
          have em : (sumL i)[j]? = some (E1.cmb (rowF xs) (ent (apps cs Tp)) i j) := by
            show ((List.range n).map _)[j]? = _
            rw [List.getElem?_map, List.getElem?_range hj]; rfl
          have em1 : (sumL (i + 1))[j]? = some (E1.cmb (rowF xs) (ent (apps cs Tp)) i j + xs.getD i 0 * ((apps cs Tp).getD i []).getD j 0) := by
            show ((List.range n).map _)[j]? = _
            rw [List.getElem?_map, List.getElem?_range hj]; rfl
          have b1 : (xs.getD i 0).natAbs ≤ 2 ^ 33554432 := Nat.le_trans (hxb i) (Nat.pow_le_pow_right (by decide) (by decide))
          have b2 : (((apps cs Tp).getD i []).getD j 0).natAbs ≤ 2 ^ 33554432 := Nat.le_trans (hBt i j) (Nat.pow_le_pow_right (by decide) (by decide))
          refine ⟨rfl, _, rfl, _, rfl, mp, _, _, _, rfl, rfl, SqL.of hmp16, atI_nat (iget em), _, rfl, _, rfl, p, _, _, _, rfl, rfl, SqL.of hp16, atI_nat (iget hxi), _, rfl, _, rfl, tb, _, _, _, rfl, rfl, SqL.of htb16.tab.1, atI_nat (rget erk), _, rfl, rk, _, _, _, rfl, rfl, SqL.of hrk, atI_nat (iget (getD_some hlk hj)), _, _, rfl, rfl, ⟨b1, b2⟩, _, _, rfl, rfl, rfl, hj, ?_⟩
          rw [List.take_succ, em1, List.map_append]; rfl
        · rintro ys H17 ⟨rfl, _, rfl⟩ q hq
          have e : (sumL (i + 1)).take n = sumL (i + 1) := List.take_of_length_le (by show ((List.range n).map _).length ≤ n; simp)
          rw [e]
          exact ⟨q, _, rfl, s16.laid hq, upd_same⟩
      · rintro σ H16 ⟨mp, v8, rfl, s16, hmp16⟩
        have em : ((m : Nat) : Int).toNat = m := by simp
        rw [em] at hmp16
        have efin : sumL m = wl := by
          refine List.ext_getElem? fun y => ?_
          show ((List.range n).map _)[y]? = _
          rw [List.getElem?_map]
          by_cases hy : y < n
          · rw [List.getElem?_range hy, getD_some hlw hy]
            show some (E1.cmb (rowF xs) (ent (apps cs Tp)) m y) = _
            rw [← hsum y hy]; rfl
          · rw [List.getElem?_eq_none (by simp; (first | lia | omega)), List.getElem?_eq_none (by (first | lia | omega))]; rfl
        refine ⟨_, rfl, _, rfl, mp, wr, _, wl, rfl, rfl, hmp16, s16 _ _ hwr13, ?_⟩
        rw [decide_eq_true efin]
        exact k _
end
end X1

namespace X1
open PySem L2 PyProof.Rows
abbrev kE (P : Params) (k : String) (t : Nat) (v : Value) : DictEntry := ⟨PyData.keyHash P (Str.ofString k), .str (Str.ofString k) t, v⟩
def KF : Params → PySem.W.Frag := fun P => [(nat_lit 3, (⟨(.type "dict"), none, .dict #[kE P "__name__" 165 (.str (Str.ofString "law_crosstable_k05_whole_sums_of_rows") 456), kE P "__doc__" 166 .none, kE P "__package__" 167 .none, kE P "__loader__" 168 (.builtin "__main__.__loader__#opaque"), kE P "__spec__" 169 .none, kE P "__annotations__" 170 (.ref 6), kE P "__builtins__" 171 (.ref 4), kE P "__file__" 173 (.str (Str.ofString "/claim/cut.py") 172), kE P "__cached__" 174 .none, kE P "_wall" 193 (.ref 21), kE P "first_place" 204 (.ref 28), kE P "build_stairs" 214 (.ref 35), kE P "take_in" 225 (.ref 42), kE P "lessen_row" 236 (.ref 49), kE P "lift" 247 (.ref 56), kE P "TableError" 267 (.ref 66), kE P "BadTable" 283 (.ref 79), kE P "BadRow" 299 (.ref 91), kE P "refuse_no_table" 310 (.ref 100), kE P "copied" 316 (.ref 105), kE P "change_by_row" 322 (.ref 110), kE P "swap_parts" 332 (.ref 117), kE P "Walk" 429 (.ref 183), kE P "how_often" 437 (.ref 192), kE P "tallied" 443 (.ref 197), kE P "tally_of_one" 449 (.ref 202), kE P "less_the_stairs" 455 (.ref 207), kE P "_law_whole" 464 (.ref 214), kE P "_law_at" 472 (.ref 221), kE P "_law_sizes" 480 (.ref 228), kE P "_law_is_table" 491 (.ref 235), kE P "_law_copy" 497 (.ref 240), kE P "_law_spot" 506 (.ref 247), kE P "_law_walk" 520 (.ref 254), kE P "_law_walked" 530 (.ref 261), kE P "_law_change_of" 545 (.ref 268), kE P "_law_changes_by" 551 (.ref 273), kE P "_law_row_by" 565 (.ref 280), kE P "_law_laid" 576 (.ref 287), kE P "_law_goes" 584 (.ref 294), kE P "_law_numbers" 593 (.ref 301), kE P "_law_plain_row" 606 (.ref 308), kE P "law" 612 (.ref 313)] 43, #[]⟩ : Obj)),
  (nat_lit 27, (⟨(.type "code"), none, .fields #[(.str (Str.ofString "first_place") 196), (.str (Str.ofString "first_place") 197), (.str (Str.ofString "/claim/cut.py") 198), (.int (5) 0), (.int (1) 0), (.int (0) 0), (.int (0) 0), (.int (3) 0), (.ref 22), (.bool true), (.int (181) 0), (.ref 23), .none, (.ref 24), (.ref 25), (.ref 26), (.int (202) 0), (.int (5) 0), (.str (Str.ofString "/claim/cut.py") 203)], #[]⟩ : Obj)),
  (nat_lit 28, (⟨(.type "function"), none, .func (PySem.W.fnOf (Str.ofString "first_place") (Str.ofString "first_place") (defArgs s_first_place) (defBody s_first_place) (defScope s_first_place) .none .none .none (.str (Str.ofString "crosstable.stairs") 194) none (.ref 27) .none), #[]⟩ : Obj)),
  (nat_lit 34, (⟨(.type "code"), none, .fields #[(.str (Str.ofString "build_stairs") 205), (.str (Str.ofString "build_stairs") 206), (.str (Str.ofString "/claim/cut.py") 207), (.int (10) 0), (.int (1) 0), (.int (0) 0), (.int (0) 0), (.int (3) 0), (.ref 29), (.bool true), (.int (181) 0), (.ref 30), .none, (.ref 31), (.ref 32), (.ref 33), (.int (212) 0), (.int (10) 0), (.str (Str.ofString "/claim/cut.py") 213)], #[]⟩ : Obj)),
  (nat_lit 35, (⟨(.type "function"), none, .func (PySem.W.fnOf (Str.ofString "build_stairs") (Str.ofString "build_stairs") (defArgs s_build_stairs) (defBody s_build_stairs) (defScope s_build_stairs) .none .none .none (.str (Str.ofString "crosstable.stairs") 194) none (.ref 34) .none), #[]⟩ : Obj)),
  (nat_lit 41, (⟨(.type "code"), none, .fields #[(.str (Str.ofString "take_in") 215), (.str (Str.ofString "take_in") 216), (.str (Str.ofString "/claim/cut.py") 217), (.int (17) 0), (.int (3) 0), (.int (0) 0), (.int (0) 0), (.int (3) 0), (.ref 36), (.bool true), (.int (181) 0), (.ref 37), .none, (.ref 38), (.ref 39), (.ref 40), (.int (223) 0), (.int (17) 0), (.str (Str.ofString "/claim/cut.py") 224)], #[]⟩ : Obj)),
  (nat_lit 42, (⟨(.type "function"), none, .func (PySem.W.fnOf (Str.ofString "take_in") (Str.ofString "take_in") (defArgs s_take_in) (defBody s_take_in) (defScope s_take_in) .none .none .none (.str (Str.ofString "crosstable.stairs") 194) none (.ref 41) .none), #[]⟩ : Obj)),
  (nat_lit 48, (⟨(.type "code"), none, .fields #[(.str (Str.ofString "lessen_row") 226), (.str (Str.ofString "lessen_row") 227), (.str (Str.ofString "/claim/cut.py") 228), (.int (29) 0), (.int (4) 0), (.int (0) 0), (.int (0) 0), (.int (3) 0), (.ref 43), (.bool true), (.int (181) 0), (.ref 44), .none, (.ref 45), (.ref 46), (.ref 47), (.int (234) 0), (.int (29) 0), (.str (Str.ofString "/claim/cut.py") 235)], #[]⟩ : Obj)),
  (nat_lit 49, (⟨(.type "function"), none, .func (PySem.W.fnOf (Str.ofString "lessen_row") (Str.ofString "lessen_row") (defArgs s_lessen_row) (defBody s_lessen_row) (defScope s_lessen_row) .none .none .none (.str (Str.ofString "crosstable.stairs") 194) none (.ref 48) .none), #[]⟩ : Obj)),
  (nat_lit 55, (⟨(.type "code"), none, .fields #[(.str (Str.ofString "lift") 237), (.str (Str.ofString "lift") 238), (.str (Str.ofString "/claim/cut.py") 239), (.int (32) 0), (.int (4) 0), (.int (0) 0), (.int (0) 0), (.int (3) 0), (.ref 50), (.bool true), (.int (181) 0), (.ref 51), .none, (.ref 52), (.ref 53), (.ref 54), (.int (245) 0), (.int (32) 0), (.str (Str.ofString "/claim/cut.py") 246)], #[]⟩ : Obj)),
  (nat_lit 56, (⟨(.type "function"), none, .func (PySem.W.fnOf (Str.ofString "lift") (Str.ofString "lift") (defArgs s_lift) (defBody s_lift) (defScope s_lift) .none .none .none (.str (Str.ofString "crosstable.stairs") 194) none (.ref 55) .none), #[]⟩ : Obj)),
  (nat_lit 99, (⟨(.type "code"), none, .fields #[(.str (Str.ofString "refuse_no_table") 302), (.str (Str.ofString "refuse_no_table") 303), (.str (Str.ofString "/claim/cut.py") 304), (.int (44) 0), (.int (1) 0), (.int (0) 0), (.int (0) 0), (.int (3) 0), (.ref 94), (.bool true), (.int (181) 0), (.ref 95), .none, (.ref 96), (.ref 97), (.ref 98), (.int (308) 0), (.int (44) 0), (.str (Str.ofString "/claim/cut.py") 309)], #[]⟩ : Obj)),
  (nat_lit 100, (⟨(.type "function"), none, .func (PySem.W.fnOf (Str.ofString "refuse_no_table") (Str.ofString "refuse_no_table") (defArgs s_refuse_no_table) (defBody s_refuse_no_table) (defScope s_refuse_no_table) .none .none .none (.str (Str.ofString "crosstable.tables") 300) none (.ref 99) .none), #[]⟩ : Obj)),
  (nat_lit 104, (⟨(.type "code"), none, .fields #[(.str (Str.ofString "copied") 311), (.str (Str.ofString "copied") 312), (.str (Str.ofString "/claim/cut.py") 313), (.int (53) 0), (.int (1) 0), (.int (0) 0), (.int (0) 0), (.int (3) 0), (.ref 101), (.bool true), (.int (181) 0), (.ref 102), .none, .none, .none, (.ref 103), (.int (314) 0), (.int (53) 0), (.str (Str.ofString "/claim/cut.py") 315)], #[]⟩ : Obj)),
  (nat_lit 105, (⟨(.type "function"), none, .func (PySem.W.fnOf (Str.ofString "copied") (Str.ofString "copied") (defArgs s_copied) (defBody s_copied) (defScope s_copied) .none .none .none (.str (Str.ofString "crosstable.tables") 300) none (.ref 104) .none), #[]⟩ : Obj)),
  (nat_lit 109, (⟨(.type "code"), none, .fields #[(.str (Str.ofString "change_by_row") 317), (.str (Str.ofString "change_by_row") 318), (.str (Str.ofString "/claim/cut.py") 319), (.int (55) 0), (.int (2) 0), (.int (0) 0), (.int (0) 0), (.int (3) 0), (.ref 106), (.bool true), (.int (181) 0), (.ref 107), .none, .none, .none, (.ref 108), (.int (320) 0), (.int (55) 0), (.str (Str.ofString "/claim/cut.py") 321)], #[]⟩ : Obj)),
  (nat_lit 110, (⟨(.type "function"), none, .func (PySem.W.fnOf (Str.ofString "change_by_row") (Str.ofString "change_by_row") (defArgs s_change_by_row) (defBody s_change_by_row) (defScope s_change_by_row) .none .none .none (.str (Str.ofString "crosstable.tables") 300) none (.ref 109) .none), #[]⟩ : Obj)),
  (nat_lit 116, (⟨(.type "code"), none, .fields #[(.str (Str.ofString "swap_parts") 323), (.str (Str.ofString "swap_parts") 324), (.str (Str.ofString "/claim/cut.py") 325), (.int (64) 0), (.int (3) 0), (.int (0) 0), (.int (0) 0), (.int (3) 0), (.ref 111), (.bool true), (.int (181) 0), (.ref 112), .none, (.ref 113), (.ref 114), (.ref 115), (.int (330) 0), (.int (64) 0), (.str (Str.ofString "/claim/cut.py") 331)], #[]⟩ : Obj)),
  (nat_lit 117, (⟨(.type "function"), none, .func (PySem.W.fnOf (Str.ofString "swap_parts") (Str.ofString "swap_parts") (defArgs s_swap_parts) (defBody s_swap_parts) (defScope s_swap_parts) .none .none .none (.str (Str.ofString "crosstable.tables") 300) none (.ref 116) .none), #[]⟩ : Obj)),
  (nat_lit 130, (⟨(.type "code"), none, .fields #[(.str (Str.ofString "__init__") 347), (.str (Str.ofString "Walk.__init__") 348), (.str (Str.ofString "/claim/cut.py") 349), (.int (71) 0), (.int (2) 0), (.int (0) 0), (.int (0) 0), (.int (3) 0), (.ref 125), (.bool true), (.int (181) 0), (.ref 126), .none, (.ref 127), (.ref 128), (.ref 129), (.int (352) 0), (.int (71) 0), (.str (Str.ofString "/claim/cut.py") 353)], #[]⟩ : Obj)),
  (nat_lit 131, (⟨(.type "function"), none, .func (PySem.W.fnOf (Str.ofString "__init__") (Str.ofString "Walk.__init__") (defArgs s_Walk___init__) (defBody s_Walk___init__) (defScope s_Walk___init__) .none .none .none (.str (Str.ofString "crosstable.walk") 333) none (.ref 130) .none), #[]⟩ : Obj)),
  (nat_lit 144, (⟨(.type "code"), none, .fields #[(.str (Str.ofString "make") 362), (.str (Str.ofString "Walk.make") 363), (.str (Str.ofString "/claim/cut.py") 364), (.int (79) 0), (.int (2) 0), (.int (0) 0), (.int (0) 0), (.int (3) 0), (.ref 139), (.bool true), (.int (181) 0), (.ref 140), .none, (.ref 141), (.ref 142), (.ref 143), (.int (367) 0), (.int (79) 0), (.str (Str.ofString "/claim/cut.py") 368)], #[]⟩ : Obj)),
  (nat_lit 145, (⟨(.type "function"), none, .func (PySem.W.fnOf (Str.ofString "make") (Str.ofString "Walk.make") (defArgs s_Walk_make) (defBody s_Walk_make) (defScope s_Walk_make) .none .none .none (.str (Str.ofString "crosstable.walk") 333) none (.ref 144) .none), #[]⟩ : Obj)),
  (nat_lit 151, (⟨(.type "code"), none, .fields #[(.str (Str.ofString "add_times") 370), (.str (Str.ofString "Walk.add_times") 371), (.str (Str.ofString "/claim/cut.py") 372), (.int (83) 0), (.int (4) 0), (.int (0) 0), (.int (0) 0), (.int (3) 0), (.ref 146), (.bool true), (.int (181) 0), (.ref 147), .none, (.ref 148), (.ref 149), (.ref 150), (.int (377) 0), (.int (83) 0), (.str (Str.ofString "/claim/cut.py") 378)], #[]⟩ : Obj)),
  (nat_lit 152, (⟨(.type "function"), none, .func (PySem.W.fnOf (Str.ofString "add_times") (Str.ofString "Walk.add_times") (defArgs s_Walk_add_times) (defBody s_Walk_add_times) (defScope s_Walk_add_times) .none .none .none (.str (Str.ofString "crosstable.walk") 333) none (.ref 151) .none), #[]⟩ : Obj)),
  (nat_lit 158, (⟨(.type "code"), none, .fields #[(.str (Str.ofString "swap_rows") 380), (.str (Str.ofString "Walk.swap_rows") 381), (.str (Str.ofString "/claim/cut.py") 382), (.int (87) 0), (.int (3) 0), (.int (0) 0), (.int (0) 0), (.int (3) 0), (.ref 153), (.bool true), (.int (181) 0), (.ref 154), .none, (.ref 155), (.ref 156), (.ref 157), (.int (386) 0), (.int (87) 0), (.str (Str.ofString "/claim/cut.py") 387)], #[]⟩ : Obj)),
  (nat_lit 159, (⟨(.type "function"), none, .func (PySem.W.fnOf (Str.ofString "swap_rows") (Str.ofString "Walk.swap_rows") (defArgs s_Walk_swap_rows) (defBody s_Walk_swap_rows) (defScope s_Walk_swap_rows) .none .none .none (.str (Str.ofString "crosstable.walk") 333) none (.ref 158) .none), #[]⟩ : Obj)),
  (nat_lit 172, (⟨(.type "code"), none, .fields #[(.str (Str.ofString "lessen") 397), (.str (Str.ofString "Walk.lessen") 398), (.str (Str.ofString "/claim/cut.py") 399), (.int (94) 0), (.int (4) 0), (.int (0) 0), (.int (0) 0), (.int (3) 0), (.ref 167), (.bool true), (.int (181) 0), (.ref 168), .none, (.ref 169), (.ref 170), (.ref 171), (.int (406) 0), (.int (94) 0), (.str (Str.ofString "/claim/cut.py") 407)], #[]⟩ : Obj)),
  (nat_lit 173, (⟨(.type "function"), none, .func (PySem.W.fnOf (Str.ofString "lessen") (Str.ofString "Walk.lessen") (defArgs s_Walk_lessen) (defBody s_Walk_lessen) (defScope s_Walk_lessen) .none .none .none (.str (Str.ofString "crosstable.walk") 333) none (.ref 172) .none), #[]⟩ : Obj)),
  (nat_lit 179, (⟨(.type "code"), none, .fields #[(.str (Str.ofString "meet") 409), (.str (Str.ofString "Walk.meet") 410), (.str (Str.ofString "/claim/cut.py") 411), (.int (99) 0), (.int (4) 0), (.int (0) 0), (.int (0) 0), (.int (3) 0), (.ref 174), (.bool true), (.int (181) 0), (.ref 175), .none, (.ref 176), (.ref 177), (.ref 178), (.int (416) 0), (.int (99) 0), (.str (Str.ofString "/claim/cut.py") 417)], #[]⟩ : Obj)),
  (nat_lit 180, (⟨(.type "function"), none, .func (PySem.W.fnOf (Str.ofString "meet") (Str.ofString "Walk.meet") (defArgs s_Walk_meet) (defBody s_Walk_meet) (defScope s_Walk_meet) .none .none .none (.str (Str.ofString "crosstable.walk") 333) none (.ref 179) .none), #[]⟩ : Obj)),
  (nat_lit 182, (⟨(.type "dict"), none, .dict #[kE P "__module__" 342 (.str (Str.ofString "crosstable.walk") 333), kE P "__firstlineno__" 346 (.int (69) 345), kE P "__init__" 354 (.ref 131), kE P "tip_over" 361 (.ref 138), kE P "make" 369 (.ref 145), kE P "add_times" 379 (.ref 152), kE P "swap_rows" 388 (.ref 159), kE P "turn_row" 396 (.ref 166), kE P "lessen" 408 (.ref 173), kE P "meet" 418 (.ref 180), kE P "__static_attributes__" 422 (.ref 181), kE P "__dict__" 424 (.ref 184), kE P "__weakref__" 426 (.ref 185), kE P "__doc__" 427 .none] 4, #[]⟩ : Obj)),
  (nat_lit 183, ({ cls := PySem.Value.type "type",   data :=     PySem.Data.cls       { name := PySem.Str.ofString "Walk", bases := [PySem.Value.type "object"],         mro := [PySem.Value.ref 183, PySem.Value.type "object"], ns := 182, qualname := PySem.Str.ofString "Walk" },   slots :=     #[Option.none, Option.none, Option.some (PySem.Value.str (PySem.Str.ofString "Walk") 335),       Option.some (PySem.Value.str (PySem.Str.ofString "Walk") 343), Option.some (PySem.Value.builtin "object.__new__"),       Option.some (PySem.Value.bool Bool.true)] } : Obj)),
  (nat_lit 191, (⟨(.type "code"), none, .fields #[(.str (Str.ofString "how_often") 432), (.str (Str.ofString "how_often") 433), (.str (Str.ofString "/claim/cut.py") 434), (.int (107) 0), (.int (2) 0), (.int (0) 0), (.int (0) 0), (.int (3) 0), (.ref 188), (.bool true), (.int (181) 0), (.ref 189), .none, .none, .none, (.ref 190), (.int (435) 0), (.int (107) 0), (.str (Str.ofString "/claim/cut.py") 436)], #[]⟩ : Obj)),
  (nat_lit 192, (⟨(.type "function"), none, .func (PySem.W.fnOf (Str.ofString "how_often") (Str.ofString "how_often") (defArgs s_how_often) (defBody s_how_often) (defScope s_how_often) .none .none .none (.str (Str.ofString "crosstable.sums") 430) none (.ref 191) .none), #[]⟩ : Obj)),
  (nat_lit 196, (⟨(.type "code"), none, .fields #[(.str (Str.ofString "tallied") 438), (.str (Str.ofString "tallied") 439), (.str (Str.ofString "/claim/cut.py") 440), (.int (116) 0), (.int (1) 0), (.int (0) 0), (.int (0) 0), (.int (3) 0), (.ref 193), (.bool true), (.int (181) 0), (.ref 194), .none, .none, .none, (.ref 195), (.int (441) 0), (.int (116) 0), (.str (Str.ofString "/claim/cut.py") 442)], #[]⟩ : Obj)),
  (nat_lit 197, (⟨(.type "function"), none, .func (PySem.W.fnOf (Str.ofString "tallied") (Str.ofString "tallied") (defArgs s_tallied) (defBody s_tallied) (defScope s_tallied) .none .none .none (.str (Str.ofString "crosstable.sums") 430) none (.ref 196) .none), #[]⟩ : Obj)),
  (nat_lit 201, (⟨(.type "code"), none, .fields #[(.str (Str.ofString "tally_of_one") 444), (.str (Str.ofString "tally_of_one") 445), (.str (Str.ofString "/claim/cut.py") 446), (.int (118) 0), (.int (2) 0), (.int (0) 0), (.int (0) 0), (.int (3) 0), (.ref 198), (.bool true), (.int (181) 0), (.ref 199), .none, .none, .none, (.ref 200), (.int (447) 0), (.int (118) 0), (.str (Str.ofString "/claim/cut.py") 448)], #[]⟩ : Obj)),
  (nat_lit 202, (⟨(.type "function"), none, .func (PySem.W.fnOf (Str.ofString "tally_of_one") (Str.ofString "tally_of_one") (defArgs s_tally_of_one) (defBody s_tally_of_one) (defScope s_tally_of_one) .none .none .none (.str (Str.ofString "crosstable.sums") 430) none (.ref 201) .none), #[]⟩ : Obj)),
  (nat_lit 206, (⟨(.type "code"), none, .fields #[(.str (Str.ofString "less_the_stairs") 450), (.str (Str.ofString "less_the_stairs") 451), (.str (Str.ofString "/claim/cut.py") 452), (.int (120) 0), (.int (2) 0), (.int (0) 0), (.int (0) 0), (.int (3) 0), (.ref 203), (.bool true), (.int (181) 0), (.ref 204), .none, .none, .none, (.ref 205), (.int (453) 0), (.int (120) 0), (.str (Str.ofString "/claim/cut.py") 454)], #[]⟩ : Obj)),
  (nat_lit 207, (⟨(.type "function"), none, .func (PySem.W.fnOf (Str.ofString "less_the_stairs") (Str.ofString "less_the_stairs") (defArgs s_less_the_stairs) (defBody s_less_the_stairs) (defScope s_less_the_stairs) .none .none .none (.str (Str.ofString "crosstable.sums") 430) none (.ref 206) .none), #[]⟩ : Obj)),
  (nat_lit 213, (⟨(.type "code"), none, .fields #[(.str (Str.ofString "_law_whole") 458), (.str (Str.ofString "_law_whole") 459), (.str (Str.ofString "/claim/cut.py") 460), (.int (129) 0), (.int (1) 0), (.int (0) 0), (.int (0) 0), (.int (3) 0), (.ref 208), (.bool true), (.int (181) 0), (.ref 209), .none, (.ref 210), (.ref 211), (.ref 212), (.int (462) 0), (.int (129) 0), (.str (Str.ofString "/claim/cut.py") 463)], #[]⟩ : Obj)),
  (nat_lit 214, (⟨(.type "function"), none, .func (PySem.W.fnOf (Str.ofString "_law_whole") (Str.ofString "_law_whole") (defArgs s_law_whole) (defBody s_law_whole) (defScope s_law_whole) .none .none .none (.str (Str.ofString "law_crosstable_k05_whole_sums_of_rows") 456) none (.ref 213) .none), #[]⟩ : Obj)),
  (nat_lit 220, (⟨(.type "code"), none, .fields #[(.str (Str.ofString "_law_at") 465), (.str (Str.ofString "_law_at") 466), (.str (Str.ofString "/claim/cut.py") 467), (.int (131) 0), (.int (2) 0), (.int (0) 0), (.int (0) 0), (.int (3) 0), (.ref 215), (.bool true), (.int (181) 0), (.ref 216), .none, (.ref 217), (.ref 218), (.ref 219), (.int (470) 0), (.int (131) 0), (.str (Str.ofString "/claim/cut.py") 471)], #[]⟩ : Obj)),
  (nat_lit 221, (⟨(.type "function"), none, .func (PySem.W.fnOf (Str.ofString "_law_at") (Str.ofString "_law_at") (defArgs s_law_at) (defBody s_law_at) (defScope s_law_at) .none .none .none (.str (Str.ofString "law_crosstable_k05_whole_sums_of_rows") 456) none (.ref 220) .none), #[]⟩ : Obj)),
  (nat_lit 227, (⟨(.type "code"), none, .fields #[(.str (Str.ofString "_law_sizes") 473), (.str (Str.ofString "_law_sizes") 474), (.str (Str.ofString "/claim/cut.py") 475), (.int (135) 0), (.int (1) 0), (.int (0) 0), (.int (0) 0), (.int (3) 0), (.ref 222), (.bool true), (.int (181) 0), (.ref 223), .none, (.ref 224), (.ref 225), (.ref 226), (.int (478) 0), (.int (135) 0), (.str (Str.ofString "/claim/cut.py") 479)], #[]⟩ : Obj)),
  (nat_lit 228, (⟨(.type "function"), none, .func (PySem.W.fnOf (Str.ofString "_law_sizes") (Str.ofString "_law_sizes") (defArgs s_law_sizes) (defBody s_law_sizes) (defScope s_law_sizes) .none .none .none (.str (Str.ofString "law_crosstable_k05_whole_sums_of_rows") 456) none (.ref 227) .none), #[]⟩ : Obj)),
  (nat_lit 234, (⟨(.type "code"), none, .fields #[(.str (Str.ofString "_law_is_table") 481), (.str (Str.ofString "_law_is_table") 482), (.str (Str.ofString "/claim/cut.py") 483), (.int (142) 0), (.int (3) 0), (.int (0) 0), (.int (0) 0), (.int (3) 0), (.ref 229), (.bool true), (.int (181) 0), (.ref 230), .none, (.ref 231), (.ref 232), (.ref 233), (.int (489) 0), (.int (142) 0), (.str (Str.ofString "/claim/cut.py") 490)], #[]⟩ : Obj)),
  (nat_lit 235, (⟨(.type "function"), none, .func (PySem.W.fnOf (Str.ofString "_law_is_table") (Str.ofString "_law_is_table") (defArgs s_law_is_table) (defBody s_law_is_table) (defScope s_law_is_table) .none .none .none (.str (Str.ofString "law_crosstable_k05_whole_sums_of_rows") 456) none (.ref 234) .none), #[]⟩ : Obj)),
  (nat_lit 239, (⟨(.type "code"), none, .fields #[(.str (Str.ofString "_law_copy") 492), (.str (Str.ofString "_law_copy") 493), (.str (Str.ofString "/claim/cut.py") 494), (.int (152) 0), (.int (1) 0), (.int (0) 0), (.int (0) 0), (.int (3) 0), (.ref 236), (.bool true), (.int (181) 0), (.ref 237), .none, .none, .none, (.ref 238), (.int (495) 0), (.int (152) 0), (.str (Str.ofString "/claim/cut.py") 496)], #[]⟩ : Obj)),
  (nat_lit 240, (⟨(.type "function"), none, .func (PySem.W.fnOf (Str.ofString "_law_copy") (Str.ofString "_law_copy") (defArgs s_law_copy) (defBody s_law_copy) (defScope s_law_copy) .none .none .none (.str (Str.ofString "law_crosstable_k05_whole_sums_of_rows") 456) none (.ref 239) .none), #[]⟩ : Obj)),
  (nat_lit 246, (⟨(.type "code"), none, .fields #[(.str (Str.ofString "_law_spot") 498), (.str (Str.ofString "_law_spot") 499), (.str (Str.ofString "/claim/cut.py") 500), (.int (154) 0), (.int (3) 0), (.int (0) 0), (.int (0) 0), (.int (3) 0), (.ref 241), (.bool true), (.int (181) 0), (.ref 242), .none, (.ref 243), (.ref 244), (.ref 245), (.int (504) 0), (.int (154) 0), (.str (Str.ofString "/claim/cut.py") 505)], #[]⟩ : Obj)),
  (nat_lit 247, (⟨(.type "function"), none, .func (PySem.W.fnOf (Str.ofString "_law_spot") (Str.ofString "_law_spot") (defArgs s_law_spot) (defBody s_law_spot) (defScope s_law_spot) .none .none .none (.str (Str.ofString "law_crosstable_k05_whole_sums_of_rows") 456) none (.ref 246) .none), #[]⟩ : Obj)),
  (nat_lit 253, (⟨(.type "code"), none, .fields #[(.str (Str.ofString "_law_walk") 507), (.str (Str.ofString "_law_walk") 508), (.str (Str.ofString "/claim/cut.py") 509), (.int (158) 0), (.int (2) 0), (.int (0) 0), (.int (0) 0), (.int (3) 0), (.ref 248), (.bool true), (.int (181) 0), (.ref 249), .none, (.ref 250), (.ref 251), (.ref 252), (.int (518) 0), (.int (158) 0), (.str (Str.ofString "/claim/cut.py") 519)], #[]⟩ : Obj)),
  (nat_lit 254, (⟨(.type "function"), none, .func (PySem.W.fnOf (Str.ofString "_law_walk") (Str.ofString "_law_walk") (defArgs s_law_walk) (defBody s_law_walk) (defScope s_law_walk) .none .none .none (.str (Str.ofString "law_crosstable_k05_whole_sums_of_rows") 456) none (.ref 253) .none), #[]⟩ : Obj)),
  (nat_lit 260, (⟨(.type "code"), none, .fields #[(.str (Str.ofString "_law_walked") 521), (.str (Str.ofString "_law_walked") 522), (.str (Str.ofString "/claim/cut.py") 523), (.int (173) 0), (.int (2) 0), (.int (0) 0), (.int (0) 0), (.int (3) 0), (.ref 255), (.bool true), (.int (181) 0), (.ref 256), .none, (.ref 257), (.ref 258), (.ref 259), (.int (528) 0), (.int (173) 0), (.str (Str.ofString "/claim/cut.py") 529)], #[]⟩ : Obj)),
  (nat_lit 261, (⟨(.type "function"), none, .func (PySem.W.fnOf (Str.ofString "_law_walked") (Str.ofString "_law_walked") (defArgs s_law_walked) (defBody s_law_walked) (defScope s_law_walked) .none .none .none (.str (Str.ofString "law_crosstable_k05_whole_sums_of_rows") 456) none (.ref 260) .none), #[]⟩ : Obj)),
  (nat_lit 267, (⟨(.type "code"), none, .fields #[(.str (Str.ofString "_law_change_of") 531), (.str (Str.ofString "_law_change_of") 532), (.str (Str.ofString "/claim/cut.py") 533), (.int (178) 0), (.int (4) 0), (.int (0) 0), (.int (0) 0), (.int (3) 0), (.ref 262), (.bool true), (.int (181) 0), (.ref 263), .none, (.ref 264), (.ref 265), (.ref 266), (.int (543) 0), (.int (178) 0), (.str (Str.ofString "/claim/cut.py") 544)], #[]⟩ : Obj)),
  (nat_lit 268, (⟨(.type "function"), none, .func (PySem.W.fnOf (Str.ofString "_law_change_of") (Str.ofString "_law_change_of") (defArgs s_law_change_of) (defBody s_law_change_of) (defScope s_law_change_of) .none .none .none (.str (Str.ofString "law_crosstable_k05_whole_sums_of_rows") 456) none (.ref 267) .none), #[]⟩ : Obj)),
  (nat_lit 272, (⟨(.type "code"), none, .fields #[(.str (Str.ofString "_law_changes_by") 546), (.str (Str.ofString "_law_changes_by") 547), (.str (Str.ofString "/claim/cut.py") 548), (.int (189) 0), (.int (3) 0), (.int (0) 0), (.int (0) 0), (.int (3) 0), (.ref 269), (.bool true), (.int (181) 0), (.ref 270), .none, .none, .none, (.ref 271), (.int (549) 0), (.int (189) 0), (.str (Str.ofString "/claim/cut.py") 550)], #[]⟩ : Obj)),
  (nat_lit 273, (⟨(.type "function"), none, .func (PySem.W.fnOf (Str.ofString "_law_changes_by") (Str.ofString "_law_changes_by") (defArgs s_law_changes_by) (defBody s_law_changes_by) (defScope s_law_changes_by) .none .none .none (.str (Str.ofString "law_crosstable_k05_whole_sums_of_rows") 456) none (.ref 272) .none), #[]⟩ : Obj)),
  (nat_lit 279, (⟨(.type "code"), none, .fields #[(.str (Str.ofString "_law_row_by") 552), (.str (Str.ofString "_law_row_by") 553), (.str (Str.ofString "/claim/cut.py") 554), (.int (191) 0), (.int (3) 0), (.int (0) 0), (.int (0) 0), (.int (3) 0), (.ref 274), (.bool true), (.int (181) 0), (.ref 275), .none, (.ref 276), (.ref 277), (.ref 278), (.int (563) 0), (.int (191) 0), (.str (Str.ofString "/claim/cut.py") 564)], #[]⟩ : Obj)),
  (nat_lit 280, (⟨(.type "function"), none, .func (PySem.W.fnOf (Str.ofString "_law_row_by") (Str.ofString "_law_row_by") (defArgs s_law_row_by) (defBody s_law_row_by) (defScope s_law_row_by) .none .none .none (.str (Str.ofString "law_crosstable_k05_whole_sums_of_rows") 456) none (.ref 279) .none), #[]⟩ : Obj)),
  (nat_lit 286, (⟨(.type "code"), none, .fields #[(.str (Str.ofString "_law_laid") 566), (.str (Str.ofString "_law_laid") 567), (.str (Str.ofString "/claim/cut.py") 568), (.int (202) 0), (.int (3) 0), (.int (0) 0), (.int (0) 0), (.int (3) 0), (.ref 281), (.bool true), (.int (181) 0), (.ref 282), .none, (.ref 283), (.ref 284), (.ref 285), (.int (574) 0), (.int (202) 0), (.str (Str.ofString "/claim/cut.py") 575)], #[]⟩ : Obj)),
  (nat_lit 287, (⟨(.type "function"), none, .func (PySem.W.fnOf (Str.ofString "_law_laid") (Str.ofString "_law_laid") (defArgs s_law_laid) (defBody s_law_laid) (defScope s_law_laid) .none .none .none (.str (Str.ofString "law_crosstable_k05_whole_sums_of_rows") 456) none (.ref 286) .none), #[]⟩ : Obj)),
  (nat_lit 293, (⟨(.type "code"), none, .fields #[(.str (Str.ofString "_law_goes") 577), (.str (Str.ofString "_law_goes") 578), (.str (Str.ofString "/claim/cut.py") 579), (.int (209) 0), (.int (2) 0), (.int (0) 0), (.int (0) 0), (.int (3) 0), (.ref 288), (.bool true), (.int (181) 0), (.ref 289), .none, (.ref 290), (.ref 291), (.ref 292), (.int (582) 0), (.int (209) 0), (.str (Str.ofString "/claim/cut.py") 583)], #[]⟩ : Obj)),
  (nat_lit 294, (⟨(.type "function"), none, .func (PySem.W.fnOf (Str.ofString "_law_goes") (Str.ofString "_law_goes") (defArgs s_law_goes) (defBody s_law_goes) (defScope s_law_goes) .none .none .none (.str (Str.ofString "law_crosstable_k05_whole_sums_of_rows") 456) none (.ref 293) .none), #[]⟩ : Obj)),
  (nat_lit 300, (⟨(.type "code"), none, .fields #[(.str (Str.ofString "_law_numbers") 585), (.str (Str.ofString "_law_numbers") 586), (.str (Str.ofString "/claim/cut.py") 587), (.int (213) 0), (.int (2) 0), (.int (0) 0), (.int (0) 0), (.int (3) 0), (.ref 295), (.bool true), (.int (181) 0), (.ref 296), .none, (.ref 297), (.ref 298), (.ref 299), (.int (591) 0), (.int (213) 0), (.str (Str.ofString "/claim/cut.py") 592)], #[]⟩ : Obj)),
  (nat_lit 301, (⟨(.type "function"), none, .func (PySem.W.fnOf (Str.ofString "_law_numbers") (Str.ofString "_law_numbers") (defArgs s_law_numbers) (defBody s_law_numbers) (defScope s_law_numbers) .none .none .none (.str (Str.ofString "law_crosstable_k05_whole_sums_of_rows") 456) none (.ref 300) .none), #[]⟩ : Obj)),
  (nat_lit 307, (⟨(.type "code"), none, .fields #[(.str (Str.ofString "_law_plain_row") 594), (.str (Str.ofString "_law_plain_row") 595), (.str (Str.ofString "/claim/cut.py") 596), (.int (220) 0), (.int (3) 0), (.int (0) 0), (.int (0) 0), (.int (3) 0), (.ref 302), (.bool true), (.int (181) 0), (.ref 303), .none, (.ref 304), (.ref 305), (.ref 306), (.int (604) 0), (.int (220) 0), (.str (Str.ofString "/claim/cut.py") 605)], #[]⟩ : Obj)),
  (nat_lit 308, (⟨(.type "function"), none, .func (PySem.W.fnOf (Str.ofString "_law_plain_row") (Str.ofString "_law_plain_row") (defArgs s_law_plain_row) (defBody s_law_plain_row) (defScope s_law_plain_row) .none .none .none (.str (Str.ofString "law_crosstable_k05_whole_sums_of_rows") 456) none (.ref 307) .none), #[]⟩ : Obj)),
  (nat_lit 312, (⟨(.type "code"), none, .fields #[(.str (Str.ofString "law") 607), (.str (Str.ofString "law") 608), (.str (Str.ofString "/claim/cut.py") 609), (.int (231) 0), (.int (1) 0), (.int (0) 0), (.int (0) 0), (.int (3) 0), (.ref 309), (.bool true), (.int (181) 0), (.ref 310), .none, .none, .none, (.ref 311), (.int (610) 0), (.int (231) 0), (.str (Str.ofString "/claim/cut.py") 611)], #[]⟩ : Obj)),
  (nat_lit 313, (⟨(.type "function"), none, .func (PySem.W.fnOf (Str.ofString "law") (Str.ofString "law") (defArgs s_law) (defBody s_law) (defScope s_law) .none .none .none (.str (Str.ofString "law_crosstable_k05_whole_sums_of_rows") 456) none (.ref 312) .none), #[]⟩ : Obj))]
def asF : List Addr := [3, 27, 28, 34, 35, 41, 42, 48, 49, 55, 56, 99, 100, 104, 105, 109, 110, 116, 117, 130, 131, 144, 145, 151, 152, 158, 159, 172, 173, 179, 180, 182, 183, 191, 192, 196, 197, 201, 202, 206, 207, 213, 214, 220, 221, 227, 228, 234, 235, 239, 240, 246, 247, 253, 254, 260, 261, 267, 268, 272, 273, 279, 280, 286, 287, 293, 294, 300, 301, 307, 308, 312, 313]
theorem as_ok : ∀ P, asF = (KF P).map (·.1) := fun _ => by kernel_rfl
def HK : PySem.W.Hook := PySem.W.kHook KF asF as_ok
def qv : Program := { PySem.Challenge.pw_crosstable_k05_whole_sums_of_rows with main := { PySem.Challenge.pw_crosstable_k05_whole_sums_of_rows.main with body := [top 0, top 2, top 3, top 4, top 5, top 6, top 8, top 9, top 10, top 12, top 13, top 14, top 15, top 17, top 19, top 20, top 21, top 22, top 24, top 25, top 26, top 27, top 28, top 29, top 30, top 31, top 32, top 33, top 34, top 35, top 36, top 37, top 38, top 39] } }
def XtL : Shared → Bool := fun s => PySem.W.xlAt qv [] s && PySem.W.recOk (PySem.W.RowW.records (PySem.W.OpenRow.toRowW PySem.Challenge.rw_crosstable_k05_whole_sums_of_rows.row)) s
def defPos (s : Stmt) : Pos := match s with | .FunctionDef _ _ _ _ _ _ _ _ _ p => p | _ => ⟨0, 0, 0, 0⟩
def lawRec : DefRec := ⟨"law", defArgs s_law, defBody s_law, defScope s_law, defPos s_law⟩
def NL : Nat := 4192
theorem saidL : PySem.Challenge.rw_crosstable_k05_whole_sums_of_rows.wellSaid = true := by kernel_rfl
theorem bareL : PySem.Challenge.rw_crosstable_k05_whole_sums_of_rows.row.prog.bare := ⟨rfl, rfl, rfl, rfl, rfl, by decide +kernel⟩
set_option maxHeartbeats 0 in
theorem leftL : PySem.W.LeftO PySem.Challenge.rw_crosstable_k05_whole_sums_of_rows.row.prog qv [] XtL (PySem.W.Hook.obs HK) (PySem.W.Hook.val HK) NL := fun w => by kernel_rfl
end X1

namespace X1
open PySem L2
theorem lenL1 {us : List Value} (h : us.length = 1) : ∃ x0, us = [x0] := match us, h with | [x0], _ => ⟨x0, rfl⟩
theorem lenL2 {us : List Value} (h : us.length = 2) : ∃ x0 x1, us = [x0, x1] := match us, h with | [x0, x1], _ => ⟨x0, x1, rfl⟩
theorem lenL3 {us : List Value} (h : us.length = 3) : ∃ x0 x1 x2, us = [x0, x1, x2] := match us, h with | [x0, x1, x2], _ => ⟨x0, x1, x2, rfl⟩
theorem lenL4 {us : List Value} (h : us.length = 4) : ∃ x0 x1 x2 x3, us = [x0, x1, x2, x3] := match us, h with | [x0, x1, x2, x3], _ => ⟨x0, x1, x2, x3, rfl⟩
set_option maxHeartbeats 4000000 in
theorem all_mk {l : PySem.W.OpenLaw} {w : World} {K : PySem.W.Frag} {h : Heap} {mg : Str → Option Value} {fa : Addr} (htr : l.prog.given.tree = none) (X : K.In h) (G : h.Ns mainGlobals mg) (hfa : mg "law" = some (.ref fa))
    {C : Addr}
    {f0 : Addr} {od0 an0 : Option Addr} {sl0 : Array (Option Value)} {oc0 kV0 dc0 pm0 cd0 ct0 : Value}
    {f1 : Addr} {od1 an1 : Option Addr} {sl1 : Array (Option Value)} {oc1 kV1 dc1 pm1 cd1 ct1 : Value}
    {f2 : Addr} {od2 an2 : Option Addr} {sl2 : Array (Option Value)} {oc2 kV2 dc2 pm2 cd2 ct2 : Value}
    {f3 : Addr} {od3 an3 : Option Addr} {sl3 : Array (Option Value)} {oc3 kV3 dc3 pm3 cd3 ct3 : Value}
    {f4 : Addr} {od4 an4 : Option Addr} {sl4 : Array (Option Value)} {oc4 kV4 dc4 pm4 cd4 ct4 : Value}
    {f5 : Addr} {od5 an5 : Option Addr} {sl5 : Array (Option Value)} {oc5 kV5 dc5 pm5 cd5 ct5 : Value}
    {f6 : Addr} {od6 an6 : Option Addr} {sl6 : Array (Option Value)} {oc6 kV6 dc6 pm6 cd6 ct6 : Value}
    {f7 : Addr} {od7 an7 : Option Addr} {sl7 : Array (Option Value)} {oc7 kV7 dc7 pm7 cd7 ct7 : Value}
    {f8 : Addr} {od8 an8 : Option Addr} {sl8 : Array (Option Value)} {oc8 kV8 dc8 pm8 cd8 ct8 : Value}
    {f9 : Addr} {od9 an9 : Option Addr} {sl9 : Array (Option Value)} {oc9 kV9 dc9 pm9 cd9 ct9 : Value}
    {f10 : Addr} {od10 an10 : Option Addr} {sl10 : Array (Option Value)} {oc10 kV10 dc10 pm10 cd10 ct10 : Value}
    {f11 : Addr} {od11 an11 : Option Addr} {sl11 : Array (Option Value)} {oc11 kV11 dc11 pm11 cd11 ct11 : Value}
    {f12 : Addr} {od12 an12 : Option Addr} {sl12 : Array (Option Value)} {oc12 kV12 dc12 pm12 cd12 ct12 : Value}
    {f13 : Addr} {od13 an13 : Option Addr} {sl13 : Array (Option Value)} {oc13 kV13 dc13 pm13 cd13 ct13 : Value}
    {f14 : Addr} {od14 an14 : Option Addr} {sl14 : Array (Option Value)} {oc14 kV14 dc14 pm14 cd14 ct14 : Value}
    {f15 : Addr} {od15 an15 : Option Addr} {sl15 : Array (Option Value)} {oc15 kV15 dc15 pm15 cd15 ct15 : Value}
    {f16 : Addr} {od16 an16 : Option Addr} {sl16 : Array (Option Value)} {oc16 kV16 dc16 pm16 cd16 ct16 : Value}
    {f17 : Addr} {od17 an17 : Option Addr} {sl17 : Array (Option Value)} {oc17 kV17 dc17 pm17 cd17 ct17 : Value}
    {f18 : Addr} {od18 an18 : Option Addr} {sl18 : Array (Option Value)} {oc18 kV18 dc18 pm18 cd18 ct18 : Value}
    {f19 : Addr} {od19 an19 : Option Addr} {sl19 : Array (Option Value)} {oc19 kV19 dc19 pm19 cd19 ct19 : Value}
    {f20 : Addr} {od20 an20 : Option Addr} {sl20 : Array (Option Value)} {oc20 kV20 dc20 pm20 cd20 ct20 : Value}
    {f21 : Addr} {od21 an21 : Option Addr} {sl21 : Array (Option Value)} {oc21 kV21 dc21 pm21 cd21 ct21 : Value}
    {f22 : Addr} {od22 an22 : Option Addr} {sl22 : Array (Option Value)} {oc22 kV22 dc22 pm22 cd22 ct22 : Value}
    {f23 : Addr} {od23 an23 : Option Addr} {sl23 : Array (Option Value)} {oc23 kV23 dc23 pm23 cd23 ct23 : Value}
    {f24 : Addr} {od24 an24 : Option Addr} {sl24 : Array (Option Value)} {oc24 kV24 dc24 pm24 cd24 ct24 : Value}
    {f25 : Addr} {od25 an25 : Option Addr} {sl25 : Array (Option Value)} {oc25 kV25 dc25 pm25 cd25 ct25 : Value}
    {f26 : Addr} {od26 an26 : Option Addr} {sl26 : Array (Option Value)} {oc26 kV26 dc26 pm26 cd26 ct26 : Value}
    {f27 : Addr} {od27 an27 : Option Addr} {sl27 : Array (Option Value)} {oc27 kV27 dc27 pm27 cd27 ct27 : Value}
    {f28 : Addr} {od28 an28 : Option Addr} {sl28 : Array (Option Value)} {oc28 kV28 dc28 pm28 cd28 ct28 : Value}
    {f29 : Addr} {od29 an29 : Option Addr} {sl29 : Array (Option Value)} {oc29 kV29 dc29 pm29 cd29 ct29 : Value}
    {f30 : Addr} {od30 an30 : Option Addr} {sl30 : Array (Option Value)} {oc30 kV30 dc30 pm30 cd30 ct30 : Value}
    {f31 : Addr} {od31 an31 : Option Addr} {sl31 : Array (Option Value)} {oc31 kV31 dc31 pm31 cd31 ct31 : Value}
    {f32 : Addr} {od32 an32 : Option Addr} {sl32 : Array (Option Value)} {oc32 kV32 dc32 pm32 cd32 ct32 : Value}
    {f33 : Addr} {od33 an33 : Option Addr} {sl33 : Array (Option Value)} {oc33 kV33 dc33 pm33 cd33 ct33 : Value}
    {f34 : Addr} {od34 an34 : Option Addr} {sl34 : Array (Option Value)} {oc34 kV34 dc34 pm34 cd34 ct34 : Value}
    (aC : PySem.W.nsIn K mainGlobals "Walk" = some (some (.ref C)))
    (a0 : PySem.W.nsIn K mainGlobals "swap_parts" = some (some (.ref f0)))
    (l0 : K.lookup f0 = some ⟨oc0, od0, .func (PySem.W.fnOf "swap_parts" "swap_parts" (defArgs s_swap_parts) (defBody s_swap_parts) (defScope s_swap_parts) .none kV0 dc0 pm0 an0 cd0 ct0), sl0⟩) (c0 : PySem.W.codeIn K cd0 "swap_parts" = true) (k0 : PySem.W.keepIn K (.ref f0) = true)
    (a1 : PySem.W.nsIn K mainGlobals "refuse_no_table" = some (some (.ref f1)))
    (l1 : K.lookup f1 = some ⟨oc1, od1, .func (PySem.W.fnOf "refuse_no_table" "refuse_no_table" (defArgs s_refuse_no_table) (defBody s_refuse_no_table) (defScope s_refuse_no_table) .none kV1 dc1 pm1 an1 cd1 ct1), sl1⟩) (c1 : PySem.W.codeIn K cd1 "refuse_no_table" = true) (k1 : PySem.W.keepIn K (.ref f1) = true)
    (a2 : PySem.W.nsIn K mainGlobals "copied" = some (some (.ref f2)))
    (l2 : K.lookup f2 = some ⟨oc2, od2, .func (PySem.W.fnOf "copied" "copied" (defArgs s_copied) (defBody s_copied) (defScope s_copied) .none kV2 dc2 pm2 an2 cd2 ct2), sl2⟩) (c2 : PySem.W.codeIn K cd2 "copied" = true) (k2 : PySem.W.keepIn K (.ref f2) = true)
    (a3 : PySem.W.nsIn K mainGlobals "change_by_row" = some (some (.ref f3)))
    (l3 : K.lookup f3 = some ⟨oc3, od3, .func (PySem.W.fnOf "change_by_row" "change_by_row" (defArgs s_change_by_row) (defBody s_change_by_row) (defScope s_change_by_row) .none kV3 dc3 pm3 an3 cd3 ct3), sl3⟩) (c3 : PySem.W.codeIn K cd3 "change_by_row" = true) (k3 : PySem.W.keepIn K (.ref f3) = true)
    (a4 : PySem.W.findIn K (.ref C) "__init__" = some (some (.ref f4))) (i4 : PySem.W.isFn K (.ref f4) = true)
    (l4 : K.lookup f4 = some ⟨oc4, od4, .func (PySem.W.fnOf "__init__" "Walk.__init__" (defArgs s_Walk___init__) (defBody s_Walk___init__) (defScope s_Walk___init__) .none kV4 dc4 pm4 an4 cd4 ct4), sl4⟩) (c4 : PySem.W.codeIn K cd4 "Walk.__init__" = true) (k4 : PySem.W.keepIn K (.ref f4) = true)
    (a5 : PySem.W.findIn K (.ref C) "make" = some (some (.ref f5))) (i5 : PySem.W.isFn K (.ref f5) = true)
    (l5 : K.lookup f5 = some ⟨oc5, od5, .func (PySem.W.fnOf "make" "Walk.make" (defArgs s_Walk_make) (defBody s_Walk_make) (defScope s_Walk_make) .none kV5 dc5 pm5 an5 cd5 ct5), sl5⟩) (c5 : PySem.W.codeIn K cd5 "Walk.make" = true) (k5 : PySem.W.keepIn K (.ref f5) = true)
    (a6 : PySem.W.findIn K (.ref C) "add_times" = some (some (.ref f6))) (i6 : PySem.W.isFn K (.ref f6) = true)
    (l6 : K.lookup f6 = some ⟨oc6, od6, .func (PySem.W.fnOf "add_times" "Walk.add_times" (defArgs s_Walk_add_times) (defBody s_Walk_add_times) (defScope s_Walk_add_times) .none kV6 dc6 pm6 an6 cd6 ct6), sl6⟩) (c6 : PySem.W.codeIn K cd6 "Walk.add_times" = true) (k6 : PySem.W.keepIn K (.ref f6) = true)
    (a7 : PySem.W.findIn K (.ref C) "swap_rows" = some (some (.ref f7))) (i7 : PySem.W.isFn K (.ref f7) = true)
    (l7 : K.lookup f7 = some ⟨oc7, od7, .func (PySem.W.fnOf "swap_rows" "Walk.swap_rows" (defArgs s_Walk_swap_rows) (defBody s_Walk_swap_rows) (defScope s_Walk_swap_rows) .none kV7 dc7 pm7 an7 cd7 ct7), sl7⟩) (c7 : PySem.W.codeIn K cd7 "Walk.swap_rows" = true) (k7 : PySem.W.keepIn K (.ref f7) = true)
    (a8 : PySem.W.findIn K (.ref C) "lessen" = some (some (.ref f8))) (i8 : PySem.W.isFn K (.ref f8) = true)
    (l8 : K.lookup f8 = some ⟨oc8, od8, .func (PySem.W.fnOf "lessen" "Walk.lessen" (defArgs s_Walk_lessen) (defBody s_Walk_lessen) (defScope s_Walk_lessen) .none kV8 dc8 pm8 an8 cd8 ct8), sl8⟩) (c8 : PySem.W.codeIn K cd8 "Walk.lessen" = true) (k8 : PySem.W.keepIn K (.ref f8) = true)
    (a9 : PySem.W.findIn K (.ref C) "meet" = some (some (.ref f9))) (i9 : PySem.W.isFn K (.ref f9) = true)
    (l9 : K.lookup f9 = some ⟨oc9, od9, .func (PySem.W.fnOf "meet" "Walk.meet" (defArgs s_Walk_meet) (defBody s_Walk_meet) (defScope s_Walk_meet) .none kV9 dc9 pm9 an9 cd9 ct9), sl9⟩) (c9 : PySem.W.codeIn K cd9 "Walk.meet" = true) (k9 : PySem.W.keepIn K (.ref f9) = true)
    (a10 : PySem.W.nsIn K mainGlobals "first_place" = some (some (.ref f10)))
    (l10 : K.lookup f10 = some ⟨oc10, od10, .func (PySem.W.fnOf "first_place" "first_place" (defArgs s_first_place) (defBody s_first_place) (defScope s_first_place) .none kV10 dc10 pm10 an10 cd10 ct10), sl10⟩) (c10 : PySem.W.codeIn K cd10 "first_place" = true) (k10 : PySem.W.keepIn K (.ref f10) = true)
    (a11 : PySem.W.nsIn K mainGlobals "lessen_row" = some (some (.ref f11)))
    (l11 : K.lookup f11 = some ⟨oc11, od11, .func (PySem.W.fnOf "lessen_row" "lessen_row" (defArgs s_lessen_row) (defBody s_lessen_row) (defScope s_lessen_row) .none kV11 dc11 pm11 an11 cd11 ct11), sl11⟩) (c11 : PySem.W.codeIn K cd11 "lessen_row" = true) (k11 : PySem.W.keepIn K (.ref f11) = true)
    (a12 : PySem.W.nsIn K mainGlobals "lift" = some (some (.ref f12)))
    (l12 : K.lookup f12 = some ⟨oc12, od12, .func (PySem.W.fnOf "lift" "lift" (defArgs s_lift) (defBody s_lift) (defScope s_lift) .none kV12 dc12 pm12 an12 cd12 ct12), sl12⟩) (c12 : PySem.W.codeIn K cd12 "lift" = true) (k12 : PySem.W.keepIn K (.ref f12) = true)
    (a13 : PySem.W.nsIn K mainGlobals "take_in" = some (some (.ref f13)))
    (l13 : K.lookup f13 = some ⟨oc13, od13, .func (PySem.W.fnOf "take_in" "take_in" (defArgs s_take_in) (defBody s_take_in) (defScope s_take_in) .none kV13 dc13 pm13 an13 cd13 ct13), sl13⟩) (c13 : PySem.W.codeIn K cd13 "take_in" = true) (k13 : PySem.W.keepIn K (.ref f13) = true)
    (a14 : PySem.W.nsIn K mainGlobals "build_stairs" = some (some (.ref f14)))
    (l14 : K.lookup f14 = some ⟨oc14, od14, .func (PySem.W.fnOf "build_stairs" "build_stairs" (defArgs s_build_stairs) (defBody s_build_stairs) (defScope s_build_stairs) .none kV14 dc14 pm14 an14 cd14 ct14), sl14⟩) (c14 : PySem.W.codeIn K cd14 "build_stairs" = true) (k14 : PySem.W.keepIn K (.ref f14) = true)
    (a15 : PySem.W.nsIn K mainGlobals "tally_of_one" = some (some (.ref f15)))
    (l15 : K.lookup f15 = some ⟨oc15, od15, .func (PySem.W.fnOf "tally_of_one" "tally_of_one" (defArgs s_tally_of_one) (defBody s_tally_of_one) (defScope s_tally_of_one) .none kV15 dc15 pm15 an15 cd15 ct15), sl15⟩) (c15 : PySem.W.codeIn K cd15 "tally_of_one" = true) (k15 : PySem.W.keepIn K (.ref f15) = true)
    (a16 : PySem.W.nsIn K mainGlobals "tallied" = some (some (.ref f16)))
    (l16 : K.lookup f16 = some ⟨oc16, od16, .func (PySem.W.fnOf "tallied" "tallied" (defArgs s_tallied) (defBody s_tallied) (defScope s_tallied) .none kV16 dc16 pm16 an16 cd16 ct16), sl16⟩) (c16 : PySem.W.codeIn K cd16 "tallied" = true) (k16 : PySem.W.keepIn K (.ref f16) = true)
    (a17 : PySem.W.nsIn K mainGlobals "less_the_stairs" = some (some (.ref f17)))
    (l17 : K.lookup f17 = some ⟨oc17, od17, .func (PySem.W.fnOf "less_the_stairs" "less_the_stairs" (defArgs s_less_the_stairs) (defBody s_less_the_stairs) (defScope s_less_the_stairs) .none kV17 dc17 pm17 an17 cd17 ct17), sl17⟩) (c17 : PySem.W.codeIn K cd17 "less_the_stairs" = true) (k17 : PySem.W.keepIn K (.ref f17) = true)
    (a18 : PySem.W.nsIn K mainGlobals "how_often" = some (some (.ref f18)))
    (l18 : K.lookup f18 = some ⟨oc18, od18, .func (PySem.W.fnOf "how_often" "how_often" (defArgs s_how_often) (defBody s_how_often) (defScope s_how_often) .none kV18 dc18 pm18 an18 cd18 ct18), sl18⟩) (c18 : PySem.W.codeIn K cd18 "how_often" = true) (k18 : PySem.W.keepIn K (.ref f18) = true)
    (a19 : PySem.W.nsIn K mainGlobals "_law_whole" = some (some (.ref f19)))
    (l19 : K.lookup f19 = some ⟨oc19, od19, .func (PySem.W.fnOf "_law_whole" "_law_whole" (defArgs s_law_whole) (defBody s_law_whole) (defScope s_law_whole) .none kV19 dc19 pm19 an19 cd19 ct19), sl19⟩) (c19 : PySem.W.codeIn K cd19 "_law_whole" = true) (k19 : PySem.W.keepIn K (.ref f19) = true)
    (a20 : PySem.W.nsIn K mainGlobals "_law_at" = some (some (.ref f20)))
    (l20 : K.lookup f20 = some ⟨oc20, od20, .func (PySem.W.fnOf "_law_at" "_law_at" (defArgs s_law_at) (defBody s_law_at) (defScope s_law_at) .none kV20 dc20 pm20 an20 cd20 ct20), sl20⟩) (c20 : PySem.W.codeIn K cd20 "_law_at" = true) (k20 : PySem.W.keepIn K (.ref f20) = true)
    (a21 : PySem.W.nsIn K mainGlobals "_law_copy" = some (some (.ref f21)))
    (l21 : K.lookup f21 = some ⟨oc21, od21, .func (PySem.W.fnOf "_law_copy" "_law_copy" (defArgs s_law_copy) (defBody s_law_copy) (defScope s_law_copy) .none kV21 dc21 pm21 an21 cd21 ct21), sl21⟩) (c21 : PySem.W.codeIn K cd21 "_law_copy" = true) (k21 : PySem.W.keepIn K (.ref f21) = true)
    (a22 : PySem.W.nsIn K mainGlobals "_law_is_table" = some (some (.ref f22)))
    (l22 : K.lookup f22 = some ⟨oc22, od22, .func (PySem.W.fnOf "_law_is_table" "_law_is_table" (defArgs s_law_is_table) (defBody s_law_is_table) (defScope s_law_is_table) .none kV22 dc22 pm22 an22 cd22 ct22), sl22⟩) (c22 : PySem.W.codeIn K cd22 "_law_is_table" = true) (k22 : PySem.W.keepIn K (.ref f22) = true)
    (a23 : PySem.W.nsIn K mainGlobals "_law_spot" = some (some (.ref f23)))
    (l23 : K.lookup f23 = some ⟨oc23, od23, .func (PySem.W.fnOf "_law_spot" "_law_spot" (defArgs s_law_spot) (defBody s_law_spot) (defScope s_law_spot) .none kV23 dc23 pm23 an23 cd23 ct23), sl23⟩) (c23 : PySem.W.codeIn K cd23 "_law_spot" = true) (k23 : PySem.W.keepIn K (.ref f23) = true)
    (a24 : PySem.W.nsIn K mainGlobals "_law_walk" = some (some (.ref f24)))
    (l24 : K.lookup f24 = some ⟨oc24, od24, .func (PySem.W.fnOf "_law_walk" "_law_walk" (defArgs s_law_walk) (defBody s_law_walk) (defScope s_law_walk) .none kV24 dc24 pm24 an24 cd24 ct24), sl24⟩) (c24 : PySem.W.codeIn K cd24 "_law_walk" = true) (k24 : PySem.W.keepIn K (.ref f24) = true)
    (a25 : PySem.W.nsIn K mainGlobals "_law_walked" = some (some (.ref f25)))
    (l25 : K.lookup f25 = some ⟨oc25, od25, .func (PySem.W.fnOf "_law_walked" "_law_walked" (defArgs s_law_walked) (defBody s_law_walked) (defScope s_law_walked) .none kV25 dc25 pm25 an25 cd25 ct25), sl25⟩) (c25 : PySem.W.codeIn K cd25 "_law_walked" = true) (k25 : PySem.W.keepIn K (.ref f25) = true)
    (a26 : PySem.W.nsIn K mainGlobals "_law_numbers" = some (some (.ref f26)))
    (l26 : K.lookup f26 = some ⟨oc26, od26, .func (PySem.W.fnOf "_law_numbers" "_law_numbers" (defArgs s_law_numbers) (defBody s_law_numbers) (defScope s_law_numbers) .none kV26 dc26 pm26 an26 cd26 ct26), sl26⟩) (c26 : PySem.W.codeIn K cd26 "_law_numbers" = true) (k26 : PySem.W.keepIn K (.ref f26) = true)
    (a27 : PySem.W.nsIn K mainGlobals "_law_change_of" = some (some (.ref f27)))
    (l27 : K.lookup f27 = some ⟨oc27, od27, .func (PySem.W.fnOf "_law_change_of" "_law_change_of" (defArgs s_law_change_of) (defBody s_law_change_of) (defScope s_law_change_of) .none kV27 dc27 pm27 an27 cd27 ct27), sl27⟩) (c27 : PySem.W.codeIn K cd27 "_law_change_of" = true) (k27 : PySem.W.keepIn K (.ref f27) = true)
    (a28 : PySem.W.nsIn K mainGlobals "_law_changes_by" = some (some (.ref f28)))
    (l28 : K.lookup f28 = some ⟨oc28, od28, .func (PySem.W.fnOf "_law_changes_by" "_law_changes_by" (defArgs s_law_changes_by) (defBody s_law_changes_by) (defScope s_law_changes_by) .none kV28 dc28 pm28 an28 cd28 ct28), sl28⟩) (c28 : PySem.W.codeIn K cd28 "_law_changes_by" = true) (k28 : PySem.W.keepIn K (.ref f28) = true)
    (a29 : PySem.W.nsIn K mainGlobals "_law_sizes" = some (some (.ref f29)))
    (l29 : K.lookup f29 = some ⟨oc29, od29, .func (PySem.W.fnOf "_law_sizes" "_law_sizes" (defArgs s_law_sizes) (defBody s_law_sizes) (defScope s_law_sizes) .none kV29 dc29 pm29 an29 cd29 ct29), sl29⟩) (c29 : PySem.W.codeIn K cd29 "_law_sizes" = true) (k29 : PySem.W.keepIn K (.ref f29) = true)
    (a30 : PySem.W.nsIn K mainGlobals "_law_row_by" = some (some (.ref f30)))
    (l30 : K.lookup f30 = some ⟨oc30, od30, .func (PySem.W.fnOf "_law_row_by" "_law_row_by" (defArgs s_law_row_by) (defBody s_law_row_by) (defScope s_law_row_by) .none kV30 dc30 pm30 an30 cd30 ct30), sl30⟩) (c30 : PySem.W.codeIn K cd30 "_law_row_by" = true) (k30 : PySem.W.keepIn K (.ref f30) = true)
    (a31 : PySem.W.nsIn K mainGlobals "_law_laid" = some (some (.ref f31)))
    (l31 : K.lookup f31 = some ⟨oc31, od31, .func (PySem.W.fnOf "_law_laid" "_law_laid" (defArgs s_law_laid) (defBody s_law_laid) (defScope s_law_laid) .none kV31 dc31 pm31 an31 cd31 ct31), sl31⟩) (c31 : PySem.W.codeIn K cd31 "_law_laid" = true) (k31 : PySem.W.keepIn K (.ref f31) = true)
    (a32 : PySem.W.nsIn K mainGlobals "_law_goes" = some (some (.ref f32)))
    (l32 : K.lookup f32 = some ⟨oc32, od32, .func (PySem.W.fnOf "_law_goes" "_law_goes" (defArgs s_law_goes) (defBody s_law_goes) (defScope s_law_goes) .none kV32 dc32 pm32 an32 cd32 ct32), sl32⟩) (c32 : PySem.W.codeIn K cd32 "_law_goes" = true) (k32 : PySem.W.keepIn K (.ref f32) = true)
    (a33 : PySem.W.nsIn K mainGlobals "_law_plain_row" = some (some (.ref f33)))
    (l33 : K.lookup f33 = some ⟨oc33, od33, .func (PySem.W.fnOf "_law_plain_row" "_law_plain_row" (defArgs s_law_plain_row) (defBody s_law_plain_row) (defScope s_law_plain_row) .none kV33 dc33 pm33 an33 cd33 ct33), sl33⟩) (c33 : PySem.W.codeIn K cd33 "_law_plain_row" = true) (k33 : PySem.W.keepIn K (.ref f33) = true)
    (a34 : PySem.W.nsIn K mainGlobals "law" = some (some (.ref f34)))
    (l34 : K.lookup f34 = some ⟨oc34, od34, .func (PySem.W.fnOf "law" "law" (defArgs s_law) (defBody s_law) (defScope s_law) .none kV34 dc34 pm34 an34 cd34 ct34), sl34⟩) (c34 : PySem.W.codeIn K cd34 "law" = true) (k34 : PySem.W.keepIn K (.ref f34) = true)
    (pg : PySem.W.plainGet K C Str.empty = true) (hd : PySem.W.hasDictIn K C = true) (po : PySem.W.plainOver K C = true) (sa : PySem.W.findIn K (.ref C) "__setattr__" = some (some (.builtin "object.__setattr__"))) (mk : PySem.W.makesIn K C = true) (kc : PySem.W.keepIn K (.ref C) = true)
    (nf0 : PySem.W.findIn K (.ref C) "rows" = some none)
    (nf1 : PySem.W.findIn K (.ref C) "side" = some none)
    (nf2 : PySem.W.findIn K (.ref C) "changes" = some none)
    (z0 : PySem.W.nsIn K mainGlobals "len" = some none)
    (z1 : PySem.W.nsIn K mainGlobals "list" = some none)
    (z2 : PySem.W.nsIn K mainGlobals "tuple" = some none)
    (z3 : PySem.W.nsIn K mainGlobals "int" = some none)
    (z4 : PySem.W.nsIn K mainGlobals "bool" = some none)
    (z5 : PySem.W.nsIn K mainGlobals "str" = some none)
    (z6 : PySem.W.nsIn K mainGlobals "range" = some none)
    (z7 : PySem.W.nsIn K mainGlobals "zip" = some none)
    (z8 : PySem.W.nsIn K mainGlobals "enumerate" = some none)
    (z9 : PySem.W.nsIn K mainGlobals "reversed" = some none)
    (z10 : PySem.W.nsIn K mainGlobals "isinstance" = some none)
    (z11 : PySem.W.nsIn K mainGlobals "min" = some none) :
    ∃ fd : FuncData, (∀ (s : Shared) (v : Value), BindsTo s fd ⟨[v], []⟩ [("_law_script", v)]) ∧ ∀ base : Heap, K.In base → base.Ns mainGlobals mg → base.NoSeer → FnOk l.prog w K mg base CX0 47 fa fd ["_law_script"] (spLaw K) := by
  have e := hfa.symm.trans (PySem.W.mg_of X G a34)
  cases e
  have T : Bt mg := ⟨PySem.W.mg_none_of X G z0, PySem.W.mg_none_of X G z1, PySem.W.mg_none_of X G z2, PySem.W.mg_none_of X G z3, PySem.W.mg_none_of X G z4, PySem.W.mg_none_of X G z5, PySem.W.mg_none_of X G z6, PySem.W.mg_none_of X G z7, PySem.W.mg_none_of X G z8, PySem.W.mg_none_of X G z9, PySem.W.mg_none_of X G z10, PySem.W.mg_none_of X G z11⟩
  have XT : WTxt K C := ⟨⟨pg, hd, po, sa⟩, nf0, nf1, nf2⟩
  have D_swap_parts : DefAt K mg "swap_parts" s_swap_parts ["parts", "one", "two"] := def_mk X G a0 l0 c0 k0 fun _ _ _ _ _ _ us hl => by obtain ⟨_, _, _, rfl⟩ := lenL3 hl; rfl
  have D_refuse_no_table : DefAt K mg "refuse_no_table" s_refuse_no_table ["table"] := def_mk X G a1 l1 c1 k1 fun _ _ _ _ _ _ us hl => by obtain ⟨_, rfl⟩ := lenL1 hl; rfl
  have D_copied : DefAt K mg "copied" s_copied ["table"] := def_mk X G a2 l2 c2 k2 fun _ _ _ _ _ _ us hl => by obtain ⟨_, rfl⟩ := lenL1 hl; rfl
  have D_change_by_row : DefAt K mg "change_by_row" s_change_by_row ["rows", "change"] := def_mk X G a3 l3 c3 k3 fun _ _ _ _ _ _ us hl => by obtain ⟨_, _, rfl⟩ := lenL2 hl; rfl
  have D_Walk___init__ : MkAt K mg C "Walk" "Walk.__init__" s_Walk___init__ ["self", "table"] := ⟨_, _, fun_mk l4 c4 k4, ⟨mk, a4, i4, kc⟩, PySem.W.mg_of X G aC, (fun_mk (st := s_Walk___init__) l4 c4 k4).binds (ps := ["self", "table"]) fun _ _ _ _ _ _ us hl => by obtain ⟨_, _, rfl⟩ := lenL2 hl; rfl⟩
  have D_Walk_make : MDefAt K C "make" "Walk.make" s_Walk_make ["self", "change"] := ⟨_, _, fun_mk l5 c5 k5, ⟨a5, i5, k5⟩, (fun_mk (st := s_Walk_make) l5 c5 k5).binds (ps := ["self", "change"]) fun _ _ _ _ _ _ us hl => by obtain ⟨_, _, rfl⟩ := lenL2 hl; rfl⟩
  have D_Walk_add_times : MDefAt K C "add_times" "Walk.add_times" s_Walk_add_times ["self", "one", "two", "many"] := ⟨_, _, fun_mk l6 c6 k6, ⟨a6, i6, k6⟩, (fun_mk (st := s_Walk_add_times) l6 c6 k6).binds (ps := ["self", "one", "two", "many"]) fun _ _ _ _ _ _ us hl => by obtain ⟨_, _, _, _, rfl⟩ := lenL4 hl; rfl⟩
  have D_Walk_swap_rows : MDefAt K C "swap_rows" "Walk.swap_rows" s_Walk_swap_rows ["self", "one", "two"] := ⟨_, _, fun_mk l7 c7 k7, ⟨a7, i7, k7⟩, (fun_mk (st := s_Walk_swap_rows) l7 c7 k7).binds (ps := ["self", "one", "two"]) fun _ _ _ _ _ _ us hl => by obtain ⟨_, _, _, rfl⟩ := lenL3 hl; rfl⟩
  have D_Walk_lessen : MDefAt K C "lessen" "Walk.lessen" s_Walk_lessen ["self", "one", "two", "place"] := ⟨_, _, fun_mk l8 c8 k8, ⟨a8, i8, k8⟩, (fun_mk (st := s_Walk_lessen) l8 c8 k8).binds (ps := ["self", "one", "two", "place"]) fun _ _ _ _ _ _ us hl => by obtain ⟨_, _, _, _, rfl⟩ := lenL4 hl; rfl⟩
  have D_Walk_meet : MDefAt K C "meet" "Walk.meet" s_Walk_meet ["self", "top", "low", "place"] := ⟨_, _, fun_mk l9 c9 k9, ⟨a9, i9, k9⟩, (fun_mk (st := s_Walk_meet) l9 c9 k9).binds (ps := ["self", "top", "low", "place"]) fun _ _ _ _ _ _ us hl => by obtain ⟨_, _, _, _, rfl⟩ := lenL4 hl; rfl⟩
  have D_first_place : DefAt K mg "first_place" s_first_place ["row"] := def_mk X G a10 l10 c10 k10 fun _ _ _ _ _ _ us hl => by obtain ⟨_, rfl⟩ := lenL1 hl; rfl
  have D_lessen_row : DefAt K mg "lessen_row" s_lessen_row ["walk", "steps", "row", "start"] := def_mk X G a11 l11 c11 k11 fun _ _ _ _ _ _ us hl => by obtain ⟨_, _, _, _, rfl⟩ := lenL4 hl; rfl
  have D_lift : DefAt K mg "lift" s_lift ["walk", "low", "top", "height"] := def_mk X G a12 l12 c12 k12 fun _ _ _ _ _ _ us hl => by obtain ⟨_, _, _, _, rfl⟩ := lenL4 hl; rfl
  have D_take_in : DefAt K mg "take_in" s_take_in ["walk", "steps", "low"] := def_mk X G a13 l13 c13 k13 fun _ _ _ _ _ _ us hl => by obtain ⟨_, _, _, rfl⟩ := lenL3 hl; rfl
  have D_build_stairs : DefAt K mg "build_stairs" s_build_stairs ["walk"] := def_mk X G a14 l14 c14 k14 fun _ _ _ _ _ _ us hl => by obtain ⟨_, rfl⟩ := lenL1 hl; rfl
  have D_tally_of_one : DefAt K mg "tally_of_one" s_tally_of_one ["total", "place"] := def_mk X G a15 l15 c15 k15 fun _ _ _ _ _ _ us hl => by obtain ⟨_, _, rfl⟩ := lenL2 hl; rfl
  have D_tallied : DefAt K mg "tallied" s_tallied ["table"] := def_mk X G a16 l16 c16 k16 fun _ _ _ _ _ _ us hl => by obtain ⟨_, rfl⟩ := lenL1 hl; rfl
  have D_less_the_stairs : DefAt K mg "less_the_stairs" s_less_the_stairs ["table", "row"] := def_mk X G a17 l17 c17 k17 fun _ _ _ _ _ _ us hl => by obtain ⟨_, _, rfl⟩ := lenL2 hl; rfl
  have D_how_often : DefAt K mg "how_often" s_how_often ["table", "row"] := def_mk X G a18 l18 c18 k18 fun _ _ _ _ _ _ us hl => by obtain ⟨_, _, rfl⟩ := lenL2 hl; rfl
  have D_law_whole : DefAt K mg "_law_whole" s_law_whole ["_law_found"] := def_mk X G a19 l19 c19 k19 fun _ _ _ _ _ _ us hl => by obtain ⟨_, rfl⟩ := lenL1 hl; rfl
  have D_law_at : DefAt K mg "_law_at" s_law_at ["_law_script", "_law_k"] := def_mk X G a20 l20 c20 k20 fun _ _ _ _ _ _ us hl => by obtain ⟨_, _, rfl⟩ := lenL2 hl; rfl
  have D_law_copy : DefAt K mg "_law_copy" s_law_copy ["_law_table"] := def_mk X G a21 l21 c21 k21 fun _ _ _ _ _ _ us hl => by obtain ⟨_, rfl⟩ := lenL1 hl; rfl
  have D_law_is_table : DefAt K mg "_law_is_table" s_law_is_table ["_law_found", "_law_high", "_law_wide"] := def_mk X G a22 l22 c22 k22 fun _ _ _ _ _ _ us hl => by obtain ⟨_, _, _, rfl⟩ := lenL3 hl; rfl
  have D_law_spot : DefAt K mg "_law_spot" s_law_spot ["_law_side", "_law_place", "_law_k"] := def_mk X G a23 l23 c23 k23 fun _ _ _ _ _ _ us hl => by obtain ⟨_, _, _, rfl⟩ := lenL3 hl; rfl
  have D_law_walk : DefAt K mg "_law_walk" s_law_walk ["_law_table", "_law_change"] := def_mk X G a24 l24 c24 k24 fun _ _ _ _ _ _ us hl => by obtain ⟨_, _, rfl⟩ := lenL2 hl; rfl
  have D_law_walked : DefAt K mg "_law_walked" s_law_walked ["_law_table", "_law_changes"] := def_mk X G a25 l25 c25 k25 fun _ _ _ _ _ _ us hl => by obtain ⟨_, _, rfl⟩ := lenL2 hl; rfl
  have D_law_numbers : DefAt K mg "_law_numbers" s_law_numbers ["_law_found", "_law_due"] := def_mk X G a26 l26 c26 k26 fun _ _ _ _ _ _ us hl => by obtain ⟨_, _, rfl⟩ := lenL2 hl; rfl
  have D_law_change_of : DefAt K mg "_law_change_of" s_law_change_of ["_law_cell", "_law_k", "_law_high", "_law_wide"] := def_mk X G a27 l27 c27 k27 fun _ _ _ _ _ _ us hl => by obtain ⟨_, _, _, _, rfl⟩ := lenL4 hl; rfl
  have D_law_changes_by : DefAt K mg "_law_changes_by" s_law_changes_by ["_law_cells", "_law_high", "_law_wide"] := def_mk X G a28 l28 c28 k28 fun _ _ _ _ _ _ us hl => by obtain ⟨_, _, _, rfl⟩ := lenL3 hl; rfl
  have D_law_sizes : DefAt K mg "_law_sizes" s_law_sizes ["_law_script"] := def_mk X G a29 l29 c29 k29 fun _ _ _ _ _ _ us hl => by obtain ⟨_, rfl⟩ := lenL1 hl; rfl
  have D_law_row_by : DefAt K mg "_law_row_by" s_law_row_by ["_law_script", "_law_first", "_law_many"] := def_mk X G a30 l30 c30 k30 fun _ _ _ _ _ _ us hl => by obtain ⟨_, _, _, rfl⟩ := lenL3 hl; rfl
  have D_law_laid : DefAt K mg "_law_laid" s_law_laid ["_law_row", "_law_high", "_law_wide"] := def_mk X G a31 l31 c31 k31 fun _ _ _ _ _ _ us hl => by obtain ⟨_, _, _, rfl⟩ := lenL3 hl; rfl
  have D_law_goes : DefAt K mg "_law_goes" s_law_goes ["_law_one", "_law_other"] := def_mk X G a32 l32 c32 k32 fun _ _ _ _ _ _ us hl => by obtain ⟨_, _, rfl⟩ := lenL2 hl; rfl
  have D_law_plain_row : DefAt K mg "_law_plain_row" s_law_plain_row ["_law_script", "_law_row", "_law_wide"] := def_mk X G a33 l33 c33 k33 fun _ _ _ _ _ _ us hl => by obtain ⟨_, _, _, rfl⟩ := lenL3 hl; rfl
  have D_law : DefAt K mg "law" s_law ["_law_script"] := def_mk X G a34 l34 c34 k34 fun _ _ _ _ _ _ us hl => by obtain ⟨_, rfl⟩ := lenL1 hl; rfl
  refine ⟨PySem.W.fnOf "law" "law" (defArgs s_law) (defBody s_law) (defScope s_law) .none kV34 dc34 pm34 an34 cd34 ct34, fun s v => .of_eq rfl, fun base _ _ hse => ?_⟩
  have C_swap_parts := ok_swap_parts (P := l.prog) (w := w) (base := base) D_swap_parts T
  have C_refuse_no_table := ok_refuse_no_table (P := l.prog) (w := w) (base := base) D_refuse_no_table T
  have C_copied := ok_copied (P := l.prog) (w := w) (base := base) D_copied T
  have C_change_by_row := ok_change_by_row (P := l.prog) (w := w) (base := base) (B := 33554432) (by decide) D_change_by_row T C_swap_parts
  have MK_Walk := ok_Walk_init (P := l.prog) (w := w) (base := base) D_Walk___init__ T XT C_copied
  have M_make := ok_Walk_make (P := l.prog) (w := w) (base := base) D_Walk_make T XT C_change_by_row
  have M_add_times := ok_Walk_add_times (P := l.prog) (w := w) (base := base) D_Walk_add_times T XT M_make
  have M_swap_rows := ok_Walk_swap_rows (P := l.prog) (w := w) (base := base) D_Walk_swap_rows T XT M_make
  have M_lessen := ok_Walk_lessen (P := l.prog) (w := w) (base := base) (by decide) (by decide) hse htr D_Walk_lessen T XT M_add_times
  have M_meet := ok_Walk_meet (P := l.prog) (w := w) (base := base) D_Walk_meet T XT M_lessen M_swap_rows
  have C_first_place := ok_first_place (P := l.prog) (w := w) (base := base) D_first_place T
  have C_lessen_row := ok_lessen_row (P := l.prog) (w := w) (base := base) D_lessen_row T XT M_lessen
  have C_lift := ok_lift (P := l.prog) (w := w) (base := base) D_lift T XT M_swap_rows
  have C_take_in := ok_take_in (P := l.prog) (w := w) (base := base) D_take_in T XT C_first_place M_meet C_lessen_row C_lift
  have C_build_stairs := ok_build_stairs (P := l.prog) (w := w) (base := base) D_build_stairs T XT C_take_in C_lessen_row
  have C_tally_of_one := ok_tally_of_one (P := l.prog) (w := w) (base := base) D_tally_of_one T
  have C_tallied := ok_tallied (P := l.prog) (w := w) (base := base) D_tallied T C_tally_of_one
  have C_less_the_stairs := ok_less_the_stairs (P := l.prog) (w := w) (base := base) hse htr D_less_the_stairs T XT MK_Walk C_build_stairs
  have C_how_often := ok_how_often (P := l.prog) (w := w) (base := base) D_how_often T C_refuse_no_table C_less_the_stairs C_tallied C_first_place
  have C_law_whole := ok_law_whole (P := l.prog) (w := w) (base := base) D_law_whole T
  have C_law_at := ok_law_at (P := l.prog) (w := w) (base := base) D_law_at T
  have C_law_copy := ok_law_copy (P := l.prog) (w := w) (base := base) D_law_copy T
  have C_law_is_table := ok_law_is_table (P := l.prog) (w := w) (base := base) D_law_is_table T C_law_whole
  have C_law_spot := ok_law_spot (P := l.prog) (w := w) (base := base) D_law_spot T
  have C_law_walk := ok_law_walk (P := l.prog) (w := w) (base := base) (B := 33554432) (by decide) D_law_walk T C_law_spot
  have C_law_walked := ok_law_walked (P := l.prog) (w := w) (base := base) D_law_walked T C_law_copy C_law_walk
  have C_law_numbers := ok_law_numbers (P := l.prog) (w := w) (base := base) D_law_numbers T C_law_whole
  have C_law_change_of := ok_law_change_of (P := l.prog) (w := w) (base := base) D_law_change_of T
  have C_law_changes_by := ok_law_changes_by (P := l.prog) (w := w) (base := base) D_law_changes_by T C_law_change_of
  have C_law_sizes := ok_law_sizes (P := l.prog) (w := w) (base := base) D_law_sizes T C_law_at
  have C_law_row_by := ok_law_row_by (P := l.prog) (w := w) (base := base) D_law_row_by T C_law_at
  have C_law_laid := ok_law_laid (P := l.prog) (w := w) (base := base) D_law_laid T
  have C_law_goes := ok_law_goes (P := l.prog) (w := w) (base := base) D_law_goes T
  have C_law_plain_row := ok_law_plain_row (P := l.prog) (w := w) (base := base) D_law_plain_row T C_law_at
  have C_law := ok_law (P := l.prog) (w := w) (base := base) D_law T C_law_sizes C_law_row_by C_law_laid C_law_changes_by C_law_walked C_law_plain_row C_law_goes C_law_copy C_how_often C_law_is_table C_law_numbers C_law_whole
  obtain ⟨f', fd', F', hm', _, _, oc', od', sl', lk'⟩ := C_law.ex
  rw [hfa] at hm'
  cases hm'
  rw [l34] at lk'
  cases lk'
  exact F'
theorem walk {l : PySem.W.OpenLaw} {q : Program} {loose : List Str} {XP : (Str → Option Value) → Heap → Prop} {YP : World → Heap → Prop} {d : DefRec} {K : Params → PySem.W.Frag} (hn : l.most = some 63) (hdf : d.params.defaults = []) (hin : PyProof.Rows.importsNone q = true)
    (hY : ∀ (w : World) (h : Heap), YP w h → (K w.params).In h)
    (F : ∀ (w : World) (mg : Str → Option Value) (fa : Addr) (h : Heap), (K w.params).In h → h.Ns mainGlobals mg → mg d.name = some (.ref fa) →
      ∃ fd : FuncData, (∀ (s : Shared) (u : Value), BindsTo s fd ⟨[u], []⟩ [("_law_script", u)]) ∧ ∀ base : Heap, (K w.params).In base → base.Ns mainGlobals mg → base.NoSeer → FnOk l.prog w (K w.params) mg base CX0 47 fa fd ["_law_script"] (spLaw (K w.params))) :
    PySem.W.WalkO q loose XP YP l.row.toRowW d [] (fun f vs => PySem.call f vs) :=
  L2.walk_ofS (n := 63) (k := 47) (x := "_law_script") (CX := fun _ => CX0) (sp := fun w => spLaw (K w.params)) hn (by decide) hdf ⟨rfl, by decide, by decide⟩ hin hY F (fun _ _ a ns hl _ hS => ⟨a, ns, rfl, hS, hl, fun _ => rfl⟩) fun _ _ _ _ _ z => z
end X1
open PySem PySem.W PyProof.Rows
set_option maxRecDepth 100000 in
set_option maxHeartbeats 0 in
theorem PySem.Challenge.cw_crosstable_k05_whole_sums_of_rows_holds : PySem.Challenge.rw_crosstable_k05_whole_sums_of_rows.Holds := by
  w_on
  refine holds_law X1.saidL fun said => ?_
  refine holds_open (r := PySem.Challenge.rw_crosstable_k05_whole_sums_of_rows.row) (q := X1.qv) (loose := []) (Xt := X1.XtL) (XP := XL X1.qv []) (Yf := Hook.obs X1.HK) (Ya := Hook.val X1.HK) (YP := Hook.says X1.HK) (d := X1.lawRec) (kwd := []) (N := X1.NL) X1.leftL (Hook.of X1.HK) (Hook.keeps X1.HK) (fun s e => xl_of s (Bool.and_eq_true_iff.mp e).1) XL.keeps (by kernel_rfl) (by kernel_rfl) (by kernel_rfl) (fun s e => recFacts_of (Bool.and_eq_true_iff.mp e).2) (by kernel_rfl) said (by decide +kernel) X1.bareL ?hw ?hc
  case hw => w_witness2
  refine X1.walk (l := PySem.Challenge.rw_crosstable_k05_whole_sums_of_rows) rfl (by kernel_rfl) (by decide +kernel) (fun w h Y => PySem.W.kIn_of Y) ?F
  case F =>
    intro w mg fa h KX G hmg
    refine X1.all_mk (C := 183)
      (f0 := 117) (od0 := none) (an0 := none) (sl0 := #[]) (oc0 := (.type "function")) (kV0 := .none) (dc0 := .none) (pm0 := (.str (Str.ofString "crosstable.tables") 300)) (cd0 := (.ref 116)) (ct0 := .none)
      (f1 := 100) (od1 := none) (an1 := none) (sl1 := #[]) (oc1 := (.type "function")) (kV1 := .none) (dc1 := .none) (pm1 := (.str (Str.ofString "crosstable.tables") 300)) (cd1 := (.ref 99)) (ct1 := .none)
      (f2 := 105) (od2 := none) (an2 := none) (sl2 := #[]) (oc2 := (.type "function")) (kV2 := .none) (dc2 := .none) (pm2 := (.str (Str.ofString "crosstable.tables") 300)) (cd2 := (.ref 104)) (ct2 := .none)
      (f3 := 110) (od3 := none) (an3 := none) (sl3 := #[]) (oc3 := (.type "function")) (kV3 := .none) (dc3 := .none) (pm3 := (.str (Str.ofString "crosstable.tables") 300)) (cd3 := (.ref 109)) (ct3 := .none)
      (f4 := 131) (od4 := none) (an4 := none) (sl4 := #[]) (oc4 := (.type "function")) (kV4 := .none) (dc4 := .none) (pm4 := (.str (Str.ofString "crosstable.walk") 333)) (cd4 := (.ref 130)) (ct4 := .none)
      (f5 := 145) (od5 := none) (an5 := none) (sl5 := #[]) (oc5 := (.type "function")) (kV5 := .none) (dc5 := .none) (pm5 := (.str (Str.ofString "crosstable.walk") 333)) (cd5 := (.ref 144)) (ct5 := .none)
      (f6 := 152) (od6 := none) (an6 := none) (sl6 := #[]) (oc6 := (.type "function")) (kV6 := .none) (dc6 := .none) (pm6 := (.str (Str.ofString "crosstable.walk") 333)) (cd6 := (.ref 151)) (ct6 := .none)
      (f7 := 159) (od7 := none) (an7 := none) (sl7 := #[]) (oc7 := (.type "function")) (kV7 := .none) (dc7 := .none) (pm7 := (.str (Str.ofString "crosstable.walk") 333)) (cd7 := (.ref 158)) (ct7 := .none)
      (f8 := 173) (od8 := none) (an8 := none) (sl8 := #[]) (oc8 := (.type "function")) (kV8 := .none) (dc8 := .none) (pm8 := (.str (Str.ofString "crosstable.walk") 333)) (cd8 := (.ref 172)) (ct8 := .none)
      (f9 := 180) (od9 := none) (an9 := none) (sl9 := #[]) (oc9 := (.type "function")) (kV9 := .none) (dc9 := .none) (pm9 := (.str (Str.ofString "crosstable.walk") 333)) (cd9 := (.ref 179)) (ct9 := .none)
      (f10 := 28) (od10 := none) (an10 := none) (sl10 := #[]) (oc10 := (.type "function")) (kV10 := .none) (dc10 := .none) (pm10 := (.str (Str.ofString "crosstable.stairs") 194)) (cd10 := (.ref 27)) (ct10 := .none)
      (f11 := 49) (od11 := none) (an11 := none) (sl11 := #[]) (oc11 := (.type "function")) (kV11 := .none) (dc11 := .none) (pm11 := (.str (Str.ofString "crosstable.stairs") 194)) (cd11 := (.ref 48)) (ct11 := .none)
      (f12 := 56) (od12 := none) (an12 := none) (sl12 := #[]) (oc12 := (.type "function")) (kV12 := .none) (dc12 := .none) (pm12 := (.str (Str.ofString "crosstable.stairs") 194)) (cd12 := (.ref 55)) (ct12 := .none)
      (f13 := 42) (od13 := none) (an13 := none) (sl13 := #[]) (oc13 := (.type "function")) (kV13 := .none) (dc13 := .none) (pm13 := (.str (Str.ofString "crosstable.stairs") 194)) (cd13 := (.ref 41)) (ct13 := .none)
      (f14 := 35) (od14 := none) (an14 := none) (sl14 := #[]) (oc14 := (.type "function")) (kV14 := .none) (dc14 := .none) (pm14 := (.str (Str.ofString "crosstable.stairs") 194)) (cd14 := (.ref 34)) (ct14 := .none)
      (f15 := 202) (od15 := none) (an15 := none) (sl15 := #[]) (oc15 := (.type "function")) (kV15 := .none) (dc15 := .none) (pm15 := (.str (Str.ofString "crosstable.sums") 430)) (cd15 := (.ref 201)) (ct15 := .none)
      (f16 := 197) (od16 := none) (an16 := none) (sl16 := #[]) (oc16 := (.type "function")) (kV16 := .none) (dc16 := .none) (pm16 := (.str (Str.ofString "crosstable.sums") 430)) (cd16 := (.ref 196)) (ct16 := .none)
      (f17 := 207) (od17 := none) (an17 := none) (sl17 := #[]) (oc17 := (.type "function")) (kV17 := .none) (dc17 := .none) (pm17 := (.str (Str.ofString "crosstable.sums") 430)) (cd17 := (.ref 206)) (ct17 := .none)
      (f18 := 192) (od18 := none) (an18 := none) (sl18 := #[]) (oc18 := (.type "function")) (kV18 := .none) (dc18 := .none) (pm18 := (.str (Str.ofString "crosstable.sums") 430)) (cd18 := (.ref 191)) (ct18 := .none)
      (f19 := 214) (od19 := none) (an19 := none) (sl19 := #[]) (oc19 := (.type "function")) (kV19 := .none) (dc19 := .none) (pm19 := (.str (Str.ofString "law_crosstable_k05_whole_sums_of_rows") 456)) (cd19 := (.ref 213)) (ct19 := .none)
      (f20 := 221) (od20 := none) (an20 := none) (sl20 := #[]) (oc20 := (.type "function")) (kV20 := .none) (dc20 := .none) (pm20 := (.str (Str.ofString "law_crosstable_k05_whole_sums_of_rows") 456)) (cd20 := (.ref 220)) (ct20 := .none)
      (f21 := 240) (od21 := none) (an21 := none) (sl21 := #[]) (oc21 := (.type "function")) (kV21 := .none) (dc21 := .none) (pm21 := (.str (Str.ofString "law_crosstable_k05_whole_sums_of_rows") 456)) (cd21 := (.ref 239)) (ct21 := .none)
      (f22 := 235) (od22 := none) (an22 := none) (sl22 := #[]) (oc22 := (.type "function")) (kV22 := .none) (dc22 := .none) (pm22 := (.str (Str.ofString "law_crosstable_k05_whole_sums_of_rows") 456)) (cd22 := (.ref 234)) (ct22 := .none)
      (f23 := 247) (od23 := none) (an23 := none) (sl23 := #[]) (oc23 := (.type "function")) (kV23 := .none) (dc23 := .none) (pm23 := (.str (Str.ofString "law_crosstable_k05_whole_sums_of_rows") 456)) (cd23 := (.ref 246)) (ct23 := .none)
      (f24 := 254) (od24 := none) (an24 := none) (sl24 := #[]) (oc24 := (.type "function")) (kV24 := .none) (dc24 := .none) (pm24 := (.str (Str.ofString "law_crosstable_k05_whole_sums_of_rows") 456)) (cd24 := (.ref 253)) (ct24 := .none)
      (f25 := 261) (od25 := none) (an25 := none) (sl25 := #[]) (oc25 := (.type "function")) (kV25 := .none) (dc25 := .none) (pm25 := (.str (Str.ofString "law_crosstable_k05_whole_sums_of_rows") 456)) (cd25 := (.ref 260)) (ct25 := .none)
      (f26 := 301) (od26 := none) (an26 := none) (sl26 := #[]) (oc26 := (.type "function")) (kV26 := .none) (dc26 := .none) (pm26 := (.str (Str.ofString "law_crosstable_k05_whole_sums_of_rows") 456)) (cd26 := (.ref 300)) (ct26 := .none)
      (f27 := 268) (od27 := none) (an27 := none) (sl27 := #[]) (oc27 := (.type "function")) (kV27 := .none) (dc27 := .none) (pm27 := (.str (Str.ofString "law_crosstable_k05_whole_sums_of_rows") 456)) (cd27 := (.ref 267)) (ct27 := .none)
      (f28 := 273) (od28 := none) (an28 := none) (sl28 := #[]) (oc28 := (.type "function")) (kV28 := .none) (dc28 := .none) (pm28 := (.str (Str.ofString "law_crosstable_k05_whole_sums_of_rows") 456)) (cd28 := (.ref 272)) (ct28 := .none)
      (f29 := 228) (od29 := none) (an29 := none) (sl29 := #[]) (oc29 := (.type "function")) (kV29 := .none) (dc29 := .none) (pm29 := (.str (Str.ofString "law_crosstable_k05_whole_sums_of_rows") 456)) (cd29 := (.ref 227)) (ct29 := .none)
      (f30 := 280) (od30 := none) (an30 := none) (sl30 := #[]) (oc30 := (.type "function")) (kV30 := .none) (dc30 := .none) (pm30 := (.str (Str.ofString "law_crosstable_k05_whole_sums_of_rows") 456)) (cd30 := (.ref 279)) (ct30 := .none)
      (f31 := 287) (od31 := none) (an31 := none) (sl31 := #[]) (oc31 := (.type "function")) (kV31 := .none) (dc31 := .none) (pm31 := (.str (Str.ofString "law_crosstable_k05_whole_sums_of_rows") 456)) (cd31 := (.ref 286)) (ct31 := .none)
      (f32 := 294) (od32 := none) (an32 := none) (sl32 := #[]) (oc32 := (.type "function")) (kV32 := .none) (dc32 := .none) (pm32 := (.str (Str.ofString "law_crosstable_k05_whole_sums_of_rows") 456)) (cd32 := (.ref 293)) (ct32 := .none)
      (f33 := 308) (od33 := none) (an33 := none) (sl33 := #[]) (oc33 := (.type "function")) (kV33 := .none) (dc33 := .none) (pm33 := (.str (Str.ofString "law_crosstable_k05_whole_sums_of_rows") 456)) (cd33 := (.ref 307)) (ct33 := .none)
      (f34 := 313) (od34 := none) (an34 := none) (sl34 := #[]) (oc34 := (.type "function")) (kV34 := .none) (dc34 := .none) (pm34 := (.str (Str.ofString "law_crosstable_k05_whole_sums_of_rows") 456)) (cd34 := (.ref 312)) (ct34 := .none) rfl KX G hmg (by kernel_rfl) (by kernel_rfl) (by kernel_rfl) (by kernel_rfl) (by kernel_rfl) (by kernel_rfl) (by kernel_rfl) (by kernel_rfl) (by kernel_rfl) (by kernel_rfl) (by kernel_rfl) (by kernel_rfl) (by kernel_rfl) (by kernel_rfl) (by kernel_rfl) (by kernel_rfl) (by kernel_rfl) (by kernel_rfl) (by kernel_rfl) (by kernel_rfl) (by kernel_rfl) (by kernel_rfl) (by kernel_rfl) (by kernel_rfl) (by kernel_rfl) (by kernel_rfl) (by kernel_rfl) (by kernel_rfl) (by kernel_rfl) (by kernel_rfl) (by kernel_rfl) (by kernel_rfl) (by kernel_rfl) (by kernel_rfl) (by kernel_rfl) (by kernel_rfl) (by kernel_rfl) (by kernel_rfl) (by kernel_rfl) (by kernel_rfl) (by kernel_rfl) (by kernel_rfl) (by kernel_rfl) (by kernel_rfl) (by kernel_rfl) (by kernel_rfl) (by kernel_rfl) (by kernel_rfl) (by kernel_rfl) (by kernel_rfl) (by kernel_rfl) (by kernel_rfl) (by kernel_rfl) (by kernel_rfl) (by kernel_rfl) (by kernel_rfl) (by kernel_rfl) (by kernel_rfl) (by kernel_rfl) (by kernel_rfl) (by kernel_rfl) (by kernel_rfl) (by kernel_rfl) (by kernel_rfl) (by kernel_rfl) (by kernel_rfl) (by kernel_rfl) (by kernel_rfl) (by kernel_rfl) (by kernel_rfl) (by kernel_rfl) (by kernel_rfl) (by kernel_rfl) (by kernel_rfl) (by kernel_rfl) (by kernel_rfl) (by kernel_rfl) (by kernel_rfl) (by kernel_rfl) (by kernel_rfl) (by kernel_rfl) (by kernel_rfl) (by kernel_rfl) (by kernel_rfl) (by kernel_rfl) (by kernel_rfl) (by kernel_rfl) (by kernel_rfl) (by kernel_rfl) (by kernel_rfl) (by kernel_rfl) (by kernel_rfl) (by kernel_rfl) (by kernel_rfl) (by kernel_rfl) (by kernel_rfl) (by kernel_rfl) (by kernel_rfl) (by kernel_rfl) (by kernel_rfl) (by kernel_rfl) (by kernel_rfl) (by kernel_rfl) (by kernel_rfl) (by kernel_rfl) (by kernel_rfl) (by kernel_rfl) (by kernel_rfl) (by kernel_rfl) (by kernel_rfl) (by kernel_rfl) (by kernel_rfl) (by kernel_rfl) (by kernel_rfl) (by kernel_rfl) (by kernel_rfl) (by kernel_rfl) (by kernel_rfl) (by kernel_rfl) (by kernel_rfl) (by kernel_rfl) (by kernel_rfl) (by kernel_rfl) (by kernel_rfl) (by kernel_rfl) (by kernel_rfl) (by kernel_rfl) (by kernel_rfl) (by kernel_rfl) (by kernel_rfl) (by kernel_rfl) (by kernel_rfl) (by kernel_rfl) (by kernel_rfl) (by kernel_rfl) (by kernel_rfl) (by kernel_rfl) (by kernel_rfl) (by kernel_rfl) (by kernel_rfl) (by kernel_rfl) (by kernel_rfl) (by kernel_rfl) (by kernel_rfl) (by kernel_rfl) (by kernel_rfl) (by kernel_rfl) (by kernel_rfl) (by kernel_rfl) (by kernel_rfl) (by kernel_rfl) (by kernel_rfl) (by kernel_rfl) (by kernel_rfl) (by kernel_rfl) (by kernel_rfl) (by kernel_rfl) (by kernel_rfl) (by kernel_rfl) (by kernel_rfl) (by kernel_rfl) (by kernel_rfl) (by kernel_rfl) (by kernel_rfl) (by kernel_rfl) (by kernel_rfl) (by kernel_rfl) (by kernel_rfl)

