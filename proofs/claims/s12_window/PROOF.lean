import PyProof.Rows.All
import Wide.All
import OpenK.AllK
import Wide.FinOn
import PyProof.EqAt
import PyProof.EqKinds
import PyProof.TupleCall
import KE.BitLaws
import Open.SpecLaws
import KE.OsHead
import KE.OsGo
import PySem.Challenge.RW_bitsignals_s12_window
set_option Elab.async false
set_option linter.all false
set_option maxRecDepth 100000
namespace L2
open PySem PySem.Spec PyProof.Rows

/-- a key: an int or a str -/
abbrev Key := Sum Int Str
def keyIs : Key → Value → Bool
  | .inl k, v => Value.isInt k v
  | .inr x, v => Value.isStrOf x v
def keyH (w : World) : Key → Int
  | .inl k => hashInt k
  | .inr x => hashStr w x
theorem keyIs_shape : ∀ {k : Key} {v : Value}, keyIs k v = true → (∃ i t, k = Sum.inl i ∧ v = Value.int i t) ∨ (∃ x t, k = Sum.inr x ∧ v = Value.str x t)
  | .inl i, v, h => by
    obtain ⟨t, e⟩ := Value.isInt_shape (k := i) (v := v) h
    exact .inl ⟨i, t, rfl, e⟩
  | .inr x, v, h => by
    obtain ⟨t, e⟩ := Value.isStrOf_shape (x := x) (v := v) h
    exact .inr ⟨x, t, rfl, e⟩
theorem key_ll (a b : Int) : decide ((Sum.inl a : Key) = Sum.inl b) = (a == b) := by
  by_cases e : a = b
  · subst e; simp
  · have h : ¬ (Sum.inl a : Key) = Sum.inl b := fun q => e (Sum.inl.inj q)
    rw [decide_eq_false h]
    exact (beq_eq_false_iff_ne.mpr e).symm
theorem key_rr (a b : Str) : decide ((Sum.inr a : Key) = Sum.inr b) = decide (a = b) := by
  by_cases e : a = b
  · subst e; simp
  · have h : ¬ (Sum.inr a : Key) = Sum.inr b := fun q => e (Sum.inr.inj q)
    rw [decide_eq_false h, decide_eq_false e]
theorem key_lr (a : Int) (b : Str) : decide ((Sum.inl a : Key) = Sum.inr b) = false := decide_eq_false (fun q => nomatch q)
theorem key_rl (a : Str) (b : Int) : decide ((Sum.inr a : Key) = Sum.inl b) = false := decide_eq_false (fun q => nomatch q)

def mixKind (prog : Program) (w : World) : PySem.KeyKind prog w Key where
  is := keyIs
  hash := keyH w
  inj := fun v a b ha hb => by
    rcases keyIs_shape ha with ⟨i, t, rfl, rfl⟩ | ⟨x, t, rfl, rfl⟩
    · rcases keyIs_shape hb with ⟨j, u, rfl, e⟩ | ⟨y, u, rfl, e⟩
      · injection e with e1 _; rw [e1]
      · exact nomatch e
    · rcases keyIs_shape hb with ⟨j, u, rfl, e⟩ | ⟨y, u, rfl, e⟩
      · exact nomatch e
      · injection e with e1 _; rw [e1]
  byValue := fun k v h => by
    rcases keyIs_shape h with ⟨i, t, rfl, rfl⟩ | ⟨x, t, rfl, rfl⟩ <;> rfl
  pyHash := fun hv h => by
    rcases keyIs_shape hv with ⟨i, t, rfl, rfl⟩ | ⟨x, t, rfl, rfl⟩
    · exact wpAny_pyHash_int h
    · exact wpAny_pyHash_str h
  eqBool := fun hu hv h => by
    rcases keyIs_shape hu with ⟨i, t, rfl, rfl⟩ | ⟨x, t, rfl, rfl⟩
    · rcases keyIs_shape hv with ⟨j, u, rfl, rfl⟩ | ⟨y, u, rfl, rfl⟩
      · rw [key_ll] at h; exact wpAny_eqBool_int h
      · rw [key_lr] at h; exact SeqAt.EqAt.int_str i t y u _ _ _ _ h
    · rcases keyIs_shape hv with ⟨j, u, rfl, rfl⟩ | ⟨y, u, rfl, rfl⟩
      · rw [key_rl] at h; exact SeqAt.EqAt.str_int x t j u _ _ _ _ h
      · rw [key_rr] at h; exact wpAny_eqBool_str h
  «strs» := fun k x t v h => by
    rcases keyIs_shape h with ⟨i, u, rfl, e⟩ | ⟨y, u, rfl, e⟩
    · exact nomatch e
    · injection e with e1 _
      subst e1
      cases v <;> rfl

end L2

namespace L2
open PySem PySem.Spec PyProof.Rows

/-- a value, without the heap -/
inductive V where
  | non | bl (b : Bool) | int (i : Int) | str (x : Str) | byt (b : Array UInt8) | flt (b : UInt64) | ref (a : Addr) | ty (n : String)
  deriving DecidableEq

def RelV : V → Value → Prop
  | .non, u => u = Value.none
  | .bl b, u => u = Value.bool b
  | .int i, u => ∃ t, u = Value.int i t
  | .str x, u => ∃ t, u = Value.str x t
  | .byt b, u => ∃ t, u = Value.bytes b t
  | .flt b, u => ∃ t, u = Value.float b t
  | .ref a, u => u = Value.ref a
  | .ty n, u => u = Value.type n

abbrev Vals : List V → List Value → Prop := Paired RelV
theorem Vals.length {xs : List V} {us : List Value} (r : Vals xs us) : xs.length = us.length := Paired.length r
theorem Vals.get : ∀ {xs : List V} {us : List Value} {i : Nat} {x : V}, Vals xs us → xs[i]? = some x → ∃ u, us[i]? = some u ∧ RelV x u
  | _, _, _, _, .nil, e => by simp at e
  | _, _, 0, _, .cons r _, e => by simp at e; subst e; exact ⟨_, rfl, r⟩
  | _, _, i + 1, x, .cons _ t, e => by
    obtain ⟨u, h1, h2⟩ := Vals.get (i := i) (x := x) t (by simpa using e)
    exact ⟨u, by simpa using h1, h2⟩
theorem Vals.append : ∀ {xs ys : List V} {us ws : List Value}, Vals xs us → Vals ys ws → Vals (xs ++ ys) (us ++ ws)
  | _, _, _, _, .nil, s => s
  | _, _, _, _, .cons r t, s => .cons r (Vals.append t s)
theorem Vals.drop : ∀ {xs : List V} {us : List Value} (n : Nat), Vals xs us → Vals (xs.drop n) (us.drop n)
  | _, _, 0, r => r
  | _, _, _ + 1, .nil => .nil
  | _, _, n + 1, .cons _ t => Vals.drop n t
def RelO : Option V → Option Value → Prop
  | some v, some u => RelV v u
  | none, none => True
  | _, _ => False
def KV {κ : Type} : List (κ × V) → List (κ × Value) → Prop := Paired fun (p : κ × V) (q : κ × Value) => p.1 = q.1 ∧ RelV p.2 q.2

/-- a key of a dict (00_mix): an int or a text -/
def kV : Key → V
  | .inl i => .int i
  | .inr x => .str x

/-- what stands at a tracked address -/
inductive HO where
  /-- a list -/
  | lst (xs : List V)
  /-- a tuple (never changes) -/
  | tup (xs : List V)
  /-- a dict whose keys are ints and texts; one whose keys are tuples of ints and texts (the empty one is both) -/
  | dK (kvs : List (Key × V)) | dT (kvs : List (List Key × V))
  /-- a set of ints: its members, its size -/
  | set (S : Int → Bool) (n : Nat)
  /-- an instance of the class at C, its dict at dx, its attributes -/
  | ins (C dx : Addr) (fs : List (Str × V))
  /-- the dict of the instance at x -/
  | own (x : Addr)
  /-- the dict of an exception -/
  | xd (fs : List (Str × V))
  /-- a bound method, f of x -/
  | met (f x : Addr)
  /-- a range object lo, lo + 1, .. below hi -/
  | rng (lo hi : Int)
  /-- a thing that is known to the object (the script; a dict while a loop walks it): read, never written while it is so -/
  | frz (o : Obj) (u : HO)
  /-- a code object's table -/
  | tbl (ps : Array Value)
  /-- any other thing, by what is true of its one object (a def of one's own: SetO a S n := HO.ext fun h => ..) -/
  | ext (φ : Heap → Prop)

abbrev Hp := Addr → Option HO
def upd (H : Hp) (a : Addr) (o : HO) : Hp := fun b => if b = a then some o else H b
theorem upd_same {H : Hp} {a : Addr} {o : HO} : upd H a o a = some o := by unfold upd; rw [if_pos rfl]
theorem upd_ne {H : Hp} {a b : Addr} {o : HO} (h : b ≠ a) : upd H a o b = H b := by unfold upd; rw [if_neg h]
theorem ne_of_none {H : Hp} {a b : Addr} {o : HO} (h : H a = some o) (h' : H b = none) : a ≠ b := by
  intro e; subst e; rw [h] at h'; cases h'

section
variable (P : Program) (w : World)
def ObjOk (H : Hp) (h : Heap) (a : Addr) : HO → Prop
  | .lst xs => xs.length ≤ sizeLine ∧ ∃ (its : List Value) (n : Nat), Vals xs its ∧ h.get? a = some { cls := .type "list", data := .seq its.toArray n }
  | .tup xs => xs.length ≤ sizeLine ∧ ∃ its : List Value, Vals xs its ∧ IsTup h a its.toArray
  | .dK kvs => kvs.length ≤ sizeLine ∧ (a == sysModules) = false ∧ ∃ vs, KV kvs vs ∧ h.DictOf (mixKind P w) a vs
  | .dT kvs => kvs.length ≤ sizeLine ∧ (a == sysModules) = false ∧ ∃ xs : List (List Key × Addr × Value),
      Paired (fun (p : List Key × V) (q : List Key × Addr × Value) => p.1 = q.1 ∧ H q.2.1 = some (.tup (p.1.map kV)) ∧ RelV p.2 q.2.2) kvs xs ∧
      ∃ o es ep, h.get? a = some o ∧ o.ExactDict ∧ o.data = .dict es ep ∧ es.toList = xs.map (entryOfKey (tupleKind (mixKind P w))) ∧ (xs.map (·.1)).Nodup
  | .set S n => h.SetOf (intKind P w) a S n
  | .ins C dx fs => H dx = some (.own a) ∧ fs.length ≤ 1000 ∧ dx ≠ a ∧ h.get? a = some (PySem.W.instObj C dx) ∧
      ∃ mA, h.Ns1 dx mA ∧ (∀ f, RelO (fs.lookup f) (mA f)) ∧ PySem.Within mA (fs.map (·.1))
  | .own _ => ∃ o, h.get? a = some o
  | .xd fs => ∃ mA, h.Ns1 a mA ∧ ∀ f, RelO (fs.lookup f) (mA f)
  | .rng lo hi => ∃ t u v, h.get? a = some { cls := .type "range", data := .fields #[.int lo t, .int hi u, .int 1 v] }
  | .frz o u => h.get? a = some o ∧ ObjOk H h a u
  | .tbl ps => h.get? a = some { cls := .none, data := .fields ps }
  | .met f x => h.get? a = some (PySem.W.methodObj (.ref f) (.ref x))
  | .ext φ => φ h ∧ (∃ o, h.get? a = some o) ∧ ∀ h1 h2 : Heap, φ h1 → (∀ o, h1.get? a = some o → h2.get? a = some o) → φ h2
/-- the abstract heap is held -/
def HOk (H : Hp) (h : Heap) : Prop := ∀ a o, H a = some o → ObjOk P w H h a o
end

section
variable {P : Program} {w : World} {H H' : Hp} {h h' : Heap} {a : Addr} {o : HO}
theorem ObjOk.lt (x : ObjOk P w H h a o) : a < h.objs.size := by
  cases o with
  | lst xs => obtain ⟨_, _, _, _, e⟩ := x; exact Heap.lt_size e
  | tup xs => obtain ⟨_, _, _, p⟩ := x; exact p.lt
  | dK kvs => obtain ⟨_, _, _, _, o, _, _, e, _⟩ := x; exact Heap.lt_size e
  | dT kvs => obtain ⟨_, _, _, _, o, _, _, e, _⟩ := x; exact Heap.lt_size e
  | set S n => obtain ⟨o, _, _, _, e, _⟩ := x; exact Heap.lt_size e
  | ins C dx fs => obtain ⟨_, _, _, e, _⟩ := x; exact Heap.lt_size e
  | own y => obtain ⟨_, e⟩ := x; exact Heap.lt_size e
  | xd fs => obtain ⟨_, ⟨_, _, _, e, _⟩, _⟩ := x; exact Heap.lt_size e
  | rng lo hi => obtain ⟨_, _, _, e⟩ := x; exact Heap.lt_size e
  | frz ob u => obtain ⟨e, _⟩ := x; exact Heap.lt_size e
  | tbl ps => exact Heap.lt_size (show h.get? a = some _ from x)
  | met f y => exact Heap.lt_size (show h.get? a = some _ from x)
  | ext φ => obtain ⟨_, ⟨_, e⟩, _⟩ := x; exact Heap.lt_size e
theorem Paired.mapP {α β : Type} {F G : α → β → Prop} : ∀ {l₁ : List α} {l₂ : List β}, Paired F l₁ l₂ → (∀ a b, F a b → G a b) → Paired G l₁ l₂
  | _, _, .nil, _ => .nil
  | _, _, .cons r t, f => .cons (f _ _ r) (Paired.mapP t f)
/-- what an object's description leans on: its own object, its own dict, the tuples -/
theorem ObjOk.stay (x : ObjOk P w H h a o) (k : ∀ b u, (b = a ∨ H b = some (.own a)) → h.get? b = some u → h'.get? b = some u)
    (ho : ∀ b, H b = some (.own a) → H' b = some (.own a)) (ht : ∀ b xs, H b = some (.tup xs) → H' b = some (.tup xs)) : ObjOk P w H' h' a o := by
  induction o with
  | lst xs => obtain ⟨z, its, n, r, e⟩ := x; exact ⟨z, its, n, r, k _ _ (.inl rfl) e⟩
  | tup xs => obtain ⟨z, its, r, ob, e, c⟩ := x; exact ⟨z, its, r, ob, k _ _ (.inl rfl) e, c⟩
  | dK kvs => obtain ⟨z, y, vs, r, ob, es, ep, e, c⟩ := x; exact ⟨z, y, vs, r, ob, es, ep, k _ _ (.inl rfl) e, c⟩
  | dT kvs =>
    obtain ⟨z, y, xs, r, ob, es, ep, e, c⟩ := x
    exact ⟨z, y, xs, Paired.mapP r fun p q z => ⟨z.1, ht _ _ z.2.1, z.2.2⟩, ob, es, ep, k _ _ (.inl rfl) e, c⟩
  | set S n => obtain ⟨ob, es, ep, t, e, c⟩ := x; exact ⟨ob, es, ep, t, k _ _ (.inl rfl) e, c⟩
  | ins C dx fs =>
    obtain ⟨d, z, ne, e, mA, ⟨od, es, ep, e2, c⟩, r⟩ := x
    exact ⟨ho _ d, z, ne, k _ _ (.inl rfl) e, mA, ⟨od, es, ep, k _ _ (.inr d) e2, c⟩, r⟩
  | own y => obtain ⟨ob, e⟩ := x; exact ⟨ob, k _ _ (.inl rfl) e⟩
  | xd fs => obtain ⟨mA, ⟨od, es, ep, e, c⟩, r⟩ := x; exact ⟨mA, ⟨od, es, ep, k _ _ (.inl rfl) e, c⟩, r⟩
  | rng lo hi => obtain ⟨t, u, v, e⟩ := x; exact ⟨t, u, v, k _ _ (.inl rfl) e⟩
  | frz ob u ih => obtain ⟨e, q⟩ := x; exact ⟨k _ _ (.inl rfl) e, ih q⟩
  | tbl ps =>
    have e : h.get? a = some { cls := .none, data := .fields ps } := x
    show h'.get? a = some { cls := .none, data := .fields ps }
    exact k a _ (.inl rfl) e
  | met f y =>
    have e : h.get? a = some (PySem.W.methodObj (.ref f) (.ref y)) := x
    show h'.get? a = some (PySem.W.methodObj (.ref f) (.ref y))
    exact k a _ (.inl rfl) e
  | ext φ => obtain ⟨p, ⟨o, e⟩, st⟩ := x; exact ⟨st _ _ p fun o q => k _ _ (.inl rfl) q, ⟨o, k _ _ (.inl rfl) e⟩, st⟩
theorem HOk.lt (x : HOk P w H h) (e : H a = some o) : a < h.objs.size := (x a o e).lt
theorem HOk.fresh (x : HOk P w H h) (e : h.objs.size ≤ a) : H a = none := by
  cases q : H a with
  | none => rfl
  | some u => exact absurd (Nat.lt_of_lt_of_le (x.lt q) e) (Nat.lt_irrefl _)
/-- every object of the heap is kept -/
theorem HOk.kept (x : HOk P w H h) (k : ∀ b u, h.get? b = some u → h'.get? b = some u) : HOk P w H h' := fun a o e =>
  (x a o e).stay (fun b u _ q => k b u q) (fun _ q => q) fun _ _ q => q
/-- a new object is laid and tracked -/
theorem HOk.laid (x : HOk P w H h) (k : ∀ b u, h.get? b = some u → h'.get? b = some u) (hp : h.objs.size ≤ a) (new : ObjOk P w (upd H a o) h' a o) : HOk P w (upd H a o) h' := fun b u e => by
  have hn := x.fresh hp
  by_cases hb : b = a
  · subst hb; rw [upd_same] at e; cases e; exact new
  · rw [upd_ne hb] at e
    exact (x b u e).stay (fun c v _ q => k c v q) (fun c q => by rw [upd_ne (ne_of_none q hn)]; exact q) fun c xs q => by rw [upd_ne (ne_of_none q hn)]; exact q
end

/-- what may be read as u: it is u, or a known u -/
def Rd (H : Hp) (a : Addr) (u : HO) : Prop := H a = some u ∨ ∃ o, H a = some (.frz o u)
theorem Rd.ok {P : Program} {w : World} {H : Hp} {h : Heap} {a : Addr} {u : HO} (r : Rd H a u) (x : HOk P w H h) : ObjOk P w H h a u := by
  rcases r with r | ⟨o, r⟩
  · exact x a u r
  · obtain ⟨_, q⟩ := x a _ r
    exact q
/-- what may be written -/
def Mut : Option HO → Prop
  | some (.lst _) => True
  | some (.dK _) => True
  | some (.dT _) => True
  | some (.set _ _) => True
  | some (.ins _ _ _) => True
  | some (.ext _) => True
  | _ => False
section
variable {P : Program} {w : World} {H : Hp} {h h' : Heap} {x e : Addr} {o' : HO}
/-- the object at e is changed: x itself, or the dict of the instance x -/
theorem HOk.write (ok : HOk P w H h) (mu : Mut (H x)) (he : e = x ∨ H e = some (.own x)) (k : ∀ b u, b ≠ e → h.get? b = some u → h'.get? b = some u) (heo : ∃ u, h'.get? e = some u)
    (new : ObjOk P w (upd H x o') h' x o') : HOk P w (upd H x o') h' := fun b u q => by
  have nown : ∀ c y, H c = some (.own y) → c ≠ x := fun c y r z => by subst z; rw [r] at mu; exact mu
  have ntup : ∀ c xs, H c = some (.tup xs) → c ≠ x := fun c xs r z => by subst z; rw [r] at mu; exact mu
  by_cases hb : b = x
  · subst hb; rw [upd_same] at q; cases q; exact new
  · rw [upd_ne hb] at q
    by_cases hbe : b = e
    · have q' : H b = some (.own x) := by
        rcases he with z | z
        · exact absurd (hbe.trans z) hb
        · rw [hbe]; exact z
      rw [q] at q'; cases q'
      obtain ⟨v, hv⟩ := heo
      exact ⟨v, by rw [hbe]; exact hv⟩
    · refine (ok b u q).stay (fun c v hc r => k c v ?_ r) (fun c r => by rw [upd_ne (nown c b r)]; exact r) fun c xs r => by rw [upd_ne (ntup c xs r)]; exact r
      rcases hc with rfl | hc
      · exact hbe
      · rintro rfl
        rcases he with z | z
        · exact nown c b hc z
        · rw [hc] at z; cases z; exact hb rfl
end

structure Un (fs ex : List Addr) (H H' : Hp) (h h' : Heap) : Prop where
  keep : ∀ b o, h.get? b = some o → H b = none → b ∉ fs → b ∉ ex → h'.get? b = some o
  slot : ∀ b o, h.get? b = some o → H b = none → b ∈ fs → b ∉ ex → ∃ sl, h'.get? b = some { o with slots := sl }
  free : ∀ b o, h.get? b = some o → H b = none → b ∉ ex → H' b = none
  there : ∀ b o, h.get? b = some o → b ∉ ex → ∃ o', h'.get? b = some o'
  tups : ∀ b xs, H b = some (.tup xs) → H' b = some (.tup xs)
  frzs : ∀ b o u, H b = some (.frz o u) → H' b = some (.frz o u)
  tbls : ∀ b ps, H b = some (.tbl ps) → ∃ more, H' b = some (.tbl (ps ++ more))
section
variable {fs fs' ex ex' : List Addr} {H H1 H2 : Hp} {h h1 h2 h' : Heap} {a x e : Addr} {o : HO}
theorem Un.any (u : Un fs ex H H1 h h1) {b : Addr} {ob : Obj} (q : h.get? b = some ob) (n : H b = none) (hx : b ∉ ex) : ∃ sl, h1.get? b = some { ob with slots := sl } := by
  by_cases hb : b ∈ fs
  · exact u.slot b ob q n hb hx
  · exact ⟨ob.slots, u.keep b ob q n hb hx⟩
theorem Un.trans (a : Un fs ex H H1 h h1) (b : Un fs ex H1 H2 h1 h2) : Un fs ex H H2 h h2 where
  keep := fun c ob q n hc hx => b.keep c ob (a.keep c ob q n hc hx) (a.free c ob q n hx) hc hx
  slot := fun c ob q n hc hx => by
    obtain ⟨sl, e1⟩ := a.slot c ob q n hc hx
    obtain ⟨sl', e2⟩ := b.slot c _ e1 (a.free c ob q n hx) hc hx
    exact ⟨sl', e2⟩
  free := fun c ob q n hx => by
    obtain ⟨o', e1⟩ := a.there c ob q hx
    exact b.free c o' e1 (a.free c ob q n hx) hx
  there := fun c ob q hx => by
    obtain ⟨o', e1⟩ := a.there c ob q hx
    exact b.there c o' e1 hx
  tups := fun c xs q => b.tups c xs (a.tups c xs q)
  frzs := fun c ob xs q => b.frzs c ob xs (a.frzs c ob xs q)
  tbls := fun c ps q => by
    obtain ⟨m1, e1⟩ := a.tbls c ps q
    obtain ⟨m2, e2⟩ := b.tbls c _ e1
    exact ⟨m1 ++ m2, by rw [e2, Array.append_assoc]⟩
theorem Un.kept (k : ∀ b u, h.get? b = some u → h'.get? b = some u) : Un fs ex H H h h' :=
  ⟨fun b ob q _ _ _ => k b ob q, fun b ob q _ _ _ => ⟨ob.slots, k b ob q⟩, fun _ _ _ n _ => n, fun b ob q _ => ⟨ob, k b ob q⟩, fun _ _ q => q, fun _ _ _ q => q, fun _ ps q => ⟨#[], by rw [q]; simp⟩⟩
theorem Un.refl : Un fs ex H H h h := Un.kept fun _ _ q => q
theorem Un.laid (k : ∀ b u, h.get? b = some u → h'.get? b = some u) (hp : h.objs.size ≤ a) (hn : H a = none) : Un fs ex H (upd H a o) h h' where
  keep := fun b u q _ _ _ => k b u q
  slot := fun b u q _ _ _ => ⟨u.slots, k b u q⟩
  free := fun b u q n _ => by rw [upd_ne (Nat.ne_of_lt (Nat.lt_of_lt_of_le (Heap.lt_size q) hp))]; exact n
  there := fun b u q _ => ⟨u, k b u q⟩
  tups := fun b xs q => by rw [upd_ne (ne_of_none q hn)]; exact q
  frzs := fun b u xs q => by rw [upd_ne (ne_of_none q hn)]; exact q
  tbls := fun b ps q => ⟨#[], by rw [upd_ne (ne_of_none q hn), q]; simp⟩
theorem Un.write (mu : Mut (H x)) (he : e = x ∨ H e = some (.own x)) (k : ∀ b u, b ≠ e → h.get? b = some u → h'.get? b = some u) (heo : ∃ u, h'.get? e = some u) : Un fs ex H (upd H x o) h h' := by
  have hx : ∀ b, H b = none → b ≠ x := fun b n z => by subst z; rw [n] at mu; exact mu
  have hb : ∀ b, H b = none → b ≠ e := fun b n z => by
    subst z
    rcases he with r | r
    · exact hx b n r
    · rw [n] at r; cases r
  have hm : ∀ b u, H b = some u → ¬ Mut (some u) → b ≠ x := fun b u q nm z => by subst z; rw [q] at mu; exact nm mu
  refine ⟨fun b u q n _ _ => k b u (hb b n) q, fun b u q n _ _ => ⟨u.slots, k b u (hb b n) q⟩, fun b u q n _ => by rw [upd_ne (hx b n)]; exact n, fun b u q _ => ?_,
    fun b xs q => by rw [upd_ne (hm b _ q fun z => z)]; exact q, fun b u xs q => by rw [upd_ne (hm b _ q fun z => z)]; exact q, fun b ps q => ⟨#[], by rw [upd_ne (hm b _ q fun z => z), q]; simp⟩⟩
  by_cases hbe : b = e
  · subst hbe; exact heo
  · exact ⟨u, k b u hbe q⟩
end

def trk (h : Heap) (H : Hp) : List Addr := (List.range h.objs.size).filter fun a => (H a).isSome
def hidT (h : Heap) (H : Hp) : Heap := PySem.W.hideAll h (trk h H)
theorem hidT_size (h : Heap) (H : Hp) : (hidT h H).objs.size = h.objs.size := PySem.W.hideAll_size _ _
theorem hidT_get {h : Heap} {H : Hp} {b : Addr} {o : Obj} (e : h.get? b = some o) (n : H b = none) : (hidT h H).get? b = some o :=
  PySem.W.hideAll_get _ e fun hm => by
    have q : (H b).isSome = true := (List.mem_filter.mp hm).2
    rw [n] at q; simp at q
theorem of_hidT {h : Heap} {H : Hp} {b : Addr} {o : Obj} (e : (hidT h H).get? b = some o) : h.get? b = some o ∧ H b = none := by
  have e' : h.get? b = some o := PySem.W.of_hideAll (trk h H) e
  refine ⟨e', ?_⟩
  cases q : H b with
  | none => rfl
  | some x =>
    have hm : b ∈ trk h H := List.mem_filter.mpr ⟨List.mem_range.mpr (Heap.lt_size e'), by simp [q]⟩
    have z : (hidT h H).get? b = none := PySem.W.hideAll_none (trk h H) hm
    rw [z] at e; cases e

def allNews (g h : Heap) (L : Addr) : List (Addr × Obj) := (List.range h.objs.size).filterMap fun a => if a = L ∨ (g.get? a).isSome = true then none else (h.get? a).map fun o => (a, o)
def rest (g h : Heap) (L d : Addr) : List (Addr × Obj) := (allNews g h L).filter fun p => decide (p.1 ≠ d)
end L2

namespace L2
open PySem PySem.Spec PyProof.Rows

/-- the module's facts, over the base: the heap at the law's entry without what is tracked there -/
structure Mod (K : PySem.W.Frag) (mg : Str → Option Value) (base : Heap) : Prop where
  kin : K.In base
  glob : base.Ns mainGlobals mg
  blt : ∃ mb, base.Ns builtinsNs mb ∧ ∀ x : Str, x ≠ "__name__" → mb x = bootBuiltins x
  nolimit : base.NoLimit

/-- the context: a def's body (or a comprehension's block) running. base: fixed through the whole law; s₀, H₀: the entry; outer: the frames whose slots others may change (a def's callers); stack: all frames that run;
   ex: iterators that were made ahead of the entry and are walked here (a comprehension's); fn: the names whose cells were made at the entry (a def: all; a comprehension's block: its own); calm: not within an except suite; pn: pins that every state bears; xe: what is wanted of an exception that leaves the code -/
structure Cx where
  prog : Program
  w : World
  K : PySem.W.Frag
  mg : Str → Option Value
  base : Heap
  A : Around
  N : List Str
  s_0 : Shared
  H_0 : Hp
  env : Env
  outer : List Env
  stack : List Env
  ex : List Addr
  fn : Str → Bool
  calm : Bool
  pn : List (Addr × Obj)
  xe : Value → Shared → Prop
/-- the callers' frames -/
def frs (l : List Env) : List Addr := l.filterMap (·.frame)
abbrev Cx.fs (X : Cx) : List Addr := frs X.outer

def Vis (sc : Scope) (x : Str) : Prop := sc.names.lookup x = some .local ∨ sc.names.lookup x = some .cell ∨ sc.names.lookup x = some .free
def Loc (sc : Scope) (x : Str) : Prop := sc.names.lookup x = some .local ∨ sc.names.lookup x = some .cell
def Look (env : Env) (h : Heap) (m : Str → Option Value) (x : Str) (u : Value) : Prop :=
  (env.kindOf x = some .local ∧ m x = some u) ∨ ((env.kindOf x = some .cell ∨ env.kindOf x = some .free) ∧ ∃ c, env.cells.lookup x = some c ∧ h.IsCell c (some u))

structure Cx.Ok (X : Cx) : Prop where
  mod : Mod X.K X.mg X.base
  kind : X.env.scope.kind = .function
  glob : X.env.globals = mainGlobals
  blt : X.env.builtins = builtinsNs
  above : X.s_0.heap.objs.size ≤ X.env.locals
  inj : ∀ x y c, X.env.cells.lookup x = some c → X.env.cells.lookup y = some c → x = y
  has : ∀ x, (X.env.kindOf x = some .cell ∨ X.env.kindOf x = some .free) → ∃ c, X.env.cells.lookup x = some c
  cab : ∀ x c, X.fn x = true → X.env.cells.lookup x = some c → X.s_0.heap.objs.size ≤ c
  hd : X.calm = true → X.A.handled = none
  frames : X.A.frames = some X.stack
  stk : X.stack = X.outer ∨ (X.stack = X.env :: X.outer ∧ X.env.frame = some X.env.locals)
  exf : ∀ b ∈ X.ex, b ≠ X.env.locals ∧ ∀ x c, X.env.cells.lookup x = some c → c ≠ b
  bs : ∀ b o, X.base.get? b = some o → X.s_0.heap.get? b = some o ∧ X.H_0 b = none
  bsz : X.base.objs.size ≤ X.s_0.heap.objs.size
  noex : ∀ b o, X.base.get? b = some o → b ∉ X.ex
  exfs : ∀ b ∈ X.ex, b ∉ X.fs
  funs : X.s_0.heap.FunFrames X.base X.outer
  frf : ∀ b ∈ X.fs, X.H_0 b = none

structure Inv (X : Cx) (pins : List (Addr × Obj)) (σ : List (Option V)) (H : Hp) (s : Shared) : Prop where
  ok : X.Ok
  os : s.os = X.s_0.os
  bare : AllBare s.gens
  base : Un X.fs X.ex X.H_0 H X.s_0.heap s.heap
  loc : ∃ m, s.heap.Ns X.env.locals m ∧ ∀ (i : Nat) (x : Str) (v : V), X.N[i]? = some x → σ[i]? = some (some v) → Vis X.env.scope x → ∃ u, RelV v u ∧ Look X.env s.heap m x u
  cell : ∀ x c, X.env.cells.lookup x = some c → ∃ v, s.heap.IsCell c v
  free : H X.env.locals = none
  freeC : ∀ x c, X.env.cells.lookup x = some c → H c = none
  pin : ∀ p ∈ X.pn ++ pins, s.heap.get? p.1 = some p.2 ∧ H p.1 = none ∧ p.1 ≠ X.env.locals ∧ p.1 ∉ X.fs ∧ ∀ v, p.2.data ≠ .cell v
  hok : HOk X.prog X.w H s.heap
  len : σ.length = X.N.length

section
variable {X : Cx} {pins : List (Addr × Obj)} {σ : List (Option V)} {H H' : Hp} {s : Shared} {h' : Heap}

theorem Cx.Ok.nofr (ok : X.Ok) {b : Addr} {o : Obj} (e : X.base.get? b = some o) : b ∉ X.fs := fun hb => by
  have := (ok.funs.mem hb).1
  rw [e] at this; cases this
theorem Inv.bs (I : Inv X pins σ H s) : ∀ b o, X.base.get? b = some o → s.heap.get? b = some o ∧ H b = none := fun b o e =>
  ⟨I.base.keep b o (I.ok.bs b o e).1 (I.ok.bs b o e).2 (I.ok.nofr e) (I.ok.noex b o e), I.base.free b o (I.ok.bs b o e).1 (I.ok.bs b o e).2 (I.ok.noex b o e)⟩
theorem Inv.bk (I : Inv X pins σ H s) : ∀ b o, X.base.get? b = some o → s.heap.get? b = some o := fun b o e => (I.bs b o e).1
theorem Inv.mod (I : Inv X pins σ H s) : Mod X.K X.mg X.base := I.ok.mod
theorem Inv.kIn (I : Inv X pins σ H s) : X.K.In s.heap := I.ok.mod.kin.keeps I.bk
theorem Inv.lt (I : Inv X pins σ H s) : X.env.locals < s.heap.objs.size := let ⟨_, hn, _⟩ := I.loc; hn.lt
theorem Inv.sz (I : Inv X pins σ H s) : X.s_0.heap.objs.size ≤ s.heap.objs.size := Nat.le_trans I.ok.above (Nat.le_of_lt I.lt)
theorem Inv.nofs (I : Inv X pins σ H s) {a : Addr} (h : s.heap.objs.size ≤ a) : a ∉ X.fs := fun hb => by
  obtain ⟨_, o, ho, _⟩ := I.ok.funs.mem hb
  exact absurd (Nat.lt_of_lt_of_le (Heap.lt_size ho) (Nat.le_trans I.sz h)) (Nat.lt_irrefl _)
theorem Inv.cne (I : Inv X pins σ H s) : ∀ x c, X.env.cells.lookup x = some c → c ≠ X.env.locals := fun x c e z => by
  obtain ⟨v, o, ho, hd⟩ := I.cell x c e
  obtain ⟨m, ⟨o', es, ep, ho', hd', _⟩, _⟩ := I.loc
  rw [z, ho'] at ho; cases ho; rw [hd'] at hd; cases hd
theorem Inv.funs (I : Inv X pins σ H s) : s.heap.FunFrames X.base X.outer := by
  have all : ∀ (l : List Env), (∀ b ∈ frs l, b ∈ X.fs) → X.s_0.heap.FunFrames X.base l → s.heap.FunFrames X.base l := by
    intro l
    induction l with
    | nil => intro _ _; trivial
    | cons env r ih =>
      intro hs hl
      obtain ⟨hk, ⟨L, o, hf, hn, ho, hd⟩, hr⟩ := hl
      have hL : L ∈ X.fs := hs L (by unfold frs; rw [List.filterMap_cons, hf]; exact List.mem_cons_self)
      obtain ⟨sl, e⟩ := I.base.slot L o ho (I.ok.frf L hL) hL fun z => I.ok.exfs L z hL
      exact ⟨hk, ⟨L, _, hf, hn, e, hd⟩, ih (fun b hb => hs b (by unfold frs; rw [List.filterMap_cons, hf]; exact List.mem_cons_of_mem _ hb)) hr⟩
  exact all X.outer (fun _ hb => hb) I.ok.funs

/-- the frames that run, for a call -/
theorem Inv.stack (I : Inv X pins σ H s) : s.heap.FunFrames X.base X.stack := by
  rcases I.ok.stk with e | ⟨e, hf⟩
  · rw [e]; exact I.funs
  · rw [e]
    obtain ⟨m, hn, _⟩ := I.loc
    refine .cons (by rw [I.ok.kind]; decide) hf hn ?_ I.funs
    exact Heap.get?_none_of_le (Nat.le_trans I.ok.bsz I.ok.above)
theorem Inv.stkSub (I : Inv X pins σ H s) : ∀ b ∈ frs X.stack, b ∈ X.env.locals :: X.fs := fun b hb => by
  rcases I.ok.stk with e | ⟨e, hf⟩
  · rw [e] at hb; exact List.mem_cons_of_mem _ hb
  · rw [e] at hb
    unfold frs at hb
    rw [List.filterMap_cons, hf] at hb
    exact hb
theorem Inv.stkFree (I : Inv X pins σ H s) : ∀ b ∈ frs X.stack, H b = none := fun b hb => by
  rcases List.mem_cons.mp (I.stkSub b hb) with e | hb
  · rw [e]; exact I.free
  · obtain ⟨_, o, ho, _⟩ := I.ok.funs.mem hb
    exact I.base.free b o ho (I.ok.frf b hb) fun z => I.ok.exfs b z hb

/-- THE STEP: the untracked objects but the frame and the records at ch are kept (the callers' frames up to slots), the frame's map is kept, the new abstract heap is held -/
theorem Inv.step {g' : Array GenState} {t' : Nat} {d' : Drawn} {ch : List Addr} (I : Inv X pins σ H s)
    (hch : ∀ b ∈ ch, (b ∈ X.ex ∨ X.s_0.heap.objs.size ≤ b) ∧ b ≠ X.env.locals ∧ (∀ x c, X.env.cells.lookup x = some c → c ≠ b) ∧ ∀ p ∈ X.pn ++ pins, p.1 ≠ b)
    (keep : ∀ b o, b ≠ X.env.locals → b ∉ X.fs → b ∉ ch → s.heap.get? b = some o → H b = none → h'.get? b = some o)
    (slot : ∀ b o, b ≠ X.env.locals → b ∈ X.fs → b ∉ ch → s.heap.get? b = some o → H b = none → ∃ sl, h'.get? b = some { o with slots := sl }) (free : ∀ b o, b ∉ ch → s.heap.get? b = some o → H b = none → H' b = none)
    (there : ∀ b o, b ∉ ch → s.heap.get? b = some o → ∃ o', h'.get? b = some o')
    (tups : ∀ b xs, H b = some (.tup xs) → H' b = some (.tup xs)) (frzs : ∀ b o u, H b = some (.frz o u) → H' b = some (.frz o u)) (tbls : ∀ b ps, H b = some (.tbl ps) → ∃ more, H' b = some (.tbl (ps ++ more)))
    (ns : ∀ m, s.heap.Ns X.env.locals m → h'.Ns X.env.locals m) (hok : HOk X.prog X.w H' h') (hg : AllBare g') :
    Inv X pins σ H' { s with heap := h', gens := g', drawn := d', toks := t' } := by
  have neL : ∀ b o, X.s_0.heap.get? b = some o → b ≠ X.env.locals := fun b o e => Nat.ne_of_lt (Nat.lt_of_lt_of_le (Heap.lt_size e) I.ok.above)
  have neC : ∀ b o, X.s_0.heap.get? b = some o → b ∉ X.ex → b ∉ ch := fun b o e hx hb => by
    rcases (hch b hb).1 with z | z
    · exact hx z
    · exact absurd (Nat.lt_of_lt_of_le (Heap.lt_size e) z) (Nat.lt_irrefl _)
  have cellK : ∀ x c, X.env.cells.lookup x = some c → ∀ v, s.heap.IsCell c v → h'.IsCell c v := fun x c e v ⟨o, ho, hd⟩ => by
    have nch : c ∉ ch := fun z => (hch c z).2.2.1 x c e rfl
    by_cases hc : c ∈ X.fs
    · obtain ⟨sl, q⟩ := slot c o (I.cne x c e) hc nch ho (I.freeC x c e)
      exact ⟨_, q, hd⟩
    · exact ⟨o, keep c o (I.cne x c e) hc nch ho (I.freeC x c e), hd⟩
  refine ⟨I.ok, I.os, hg, ⟨fun b o e n hb hx => ?_, fun b o e n hb hx => ?_, fun b o e n hx => ?_, fun b o e hx => ?_, fun b xs e => tups b xs (I.base.tups b xs e), fun b o xs e => frzs b o xs (I.base.frzs b o xs e), fun b ps e => ?_⟩, ?_, fun x c e => ?_, ?_, fun x c e => ?_, fun p hp => ?_, hok, I.len⟩
  · exact keep b o (neL b o e) hb (neC b o e hx) (I.base.keep b o e n hb hx) (I.base.free b o e n hx)
  · obtain ⟨sl, e1⟩ := I.base.slot b o e n hb hx
    obtain ⟨sl', e2⟩ := slot b _ (neL b o e) hb (neC b o e hx) e1 (I.base.free b o e n hx)
    exact ⟨sl', e2⟩
  · obtain ⟨o', e1⟩ := I.base.there b o e hx
    exact free b o' (neC b o e hx) e1 (I.base.free b o e n hx)
  · obtain ⟨o', e1⟩ := I.base.there b o e hx
    exact there b o' (neC b o e hx) e1
  · obtain ⟨m1, e1⟩ := I.base.tbls b ps e
    obtain ⟨m2, e2⟩ := tbls b _ e1
    exact ⟨m1 ++ m2, by rw [e2, Array.append_assoc]⟩
  · obtain ⟨m, hn, hl⟩ := I.loc
    refine ⟨m, ns m hn, fun i x v e1 e2 e3 => ?_⟩
    obtain ⟨u, r, l⟩ := hl i x v e1 e2 e3
    refine ⟨u, r, ?_⟩
    rcases l with l | ⟨k, c, e, z⟩
    · exact .inl l
    · exact .inr ⟨k, c, e, cellK x c e _ z⟩
  · obtain ⟨v, z⟩ := I.cell x c e
    exact ⟨v, cellK x c e v z⟩
  · obtain ⟨m, ⟨o, _, _, ho, _⟩, _⟩ := I.loc
    exact free _ o (fun z => (hch _ z).2.1 rfl) ho I.free
  · obtain ⟨v, o, ho, hd⟩ := I.cell x c e
    exact free c o (fun z => (hch c z).2.2.1 x c e rfl) ho (I.freeC x c e)
  · obtain ⟨e, n, ne, nf, d⟩ := I.pin p hp
    have nch : p.1 ∉ ch := fun z => (hch p.1 z).2.2.2 p hp rfl
    exact ⟨keep p.1 p.2 ne nf nch e n, free p.1 p.2 nch e n, ne, nf, d⟩
/-- .. where the frame's own object is kept too -/
theorem Inv.un {t' : Nat} (I : Inv X pins σ H s) (u : Un X.fs [] H H' s.heap h') (hok : HOk X.prog X.w H' h') : Inv X pins σ H' { s with heap := h', toks := t' } := by
  obtain ⟨m, ⟨o, es, ep, ho, r⟩, _⟩ := id I.loc
  obtain ⟨sl, hL⟩ := u.any ho I.free (by simp)
  exact I.step (g' := s.gens) (d' := s.drawn) (ch := []) (fun _ z => nomatch z) (fun b o _ hb _ e n => u.keep b o e n hb (by simp)) (fun b o _ hb _ e n => u.slot b o e n hb (by simp)) (fun b o _ e n => u.free b o e n (by simp)) (fun b o _ e => u.there b o e (by simp)) u.tups u.frzs u.tbls (fun m' hm => by
    obtain ⟨o', es', ep', ho', r'⟩ := hm
    rw [ho] at ho'; cases ho'
    exact ⟨_, es', ep', hL, r'⟩) hok I.bare
/-- behind a call (or a comprehension's block): the slots of this frame may have changed too, the records at ch may have turned -/
theorem Inv.call {g' : Array GenState} {t' : Nat} {d' : Drawn} {ch : List Addr} (I : Inv X pins σ H s) (u : Un (frs X.stack) ch H H' s.heap h') (hok : HOk X.prog X.w H' h') (hg : AllBare g')
    (hch : ∀ b ∈ ch, (b ∈ X.ex ∨ X.s_0.heap.objs.size ≤ b) ∧ b ≠ X.env.locals ∧ (∀ x c, X.env.cells.lookup x = some c → c ≠ b) ∧ ∀ p ∈ X.pn ++ pins, p.1 ≠ b) :
    Inv X pins σ H' { s with heap := h', gens := g', drawn := d', toks := t' } := by
  obtain ⟨m, ⟨o, es, ep, ho, r⟩, _⟩ := id I.loc
  obtain ⟨sl, hL⟩ := u.any ho I.free fun z => (hch _ z).2.1 rfl
  exact I.step (ch := ch) hch (fun b o hL hb hc e n => u.keep b o e n (fun z => (List.mem_cons.mp (I.stkSub b z)).elim hL hb) hc) (fun b o _ _ hc e n => u.any e n hc) (fun b o hc e n => u.free b o e n hc) (fun b o hc e => u.there b o e hc) u.tups u.frzs u.tbls (fun m' hm => by
    obtain ⟨o', es', ep', ho', r'⟩ := hm
    rw [ho] at ho'; cases ho'
    exact ⟨_, es', ep', hL, r'⟩) hok hg
/-- an untracked record of ours (an iterator) has turned -/
theorem Inv.turned {t' : Nat} {it : Addr} (I : Inv X pins σ H s) (k : ∀ b o, b ≠ it → s.heap.get? b = some o → h'.get? b = some o) (hn : H it = none) (hL : it ≠ X.env.locals)
    (h1 : it ∈ X.ex ∨ X.s_0.heap.objs.size ≤ it) (h2 : ∀ x c, X.env.cells.lookup x = some c → c ≠ it) (h3 : ∀ p ∈ X.pn ++ pins, p.1 ≠ it) : Inv X pins σ H { s with heap := h', toks := t' } := by
  have nit : ∀ b u, H b = some u → b ≠ it := fun b u e z => by rw [z, hn] at e; cases e
  refine I.step (g' := s.gens) (d' := s.drawn) (ch := [it]) (fun b hb => ?_) (fun b o _ _ hc e _ => k b o (fun z => hc (by simp [z])) e) (fun b o _ _ hc e _ => ⟨o.slots, k b o (fun z => hc (by simp [z])) e⟩) (fun _ _ _ _ n => n)
    (fun b o hc e => ⟨o, k b o (fun z => hc (by simp [z])) e⟩) (fun _ _ e => e) (fun _ _ _ e => e) (fun b ps e => ⟨#[], by rw [e]; simp⟩) (fun m hm => ?_) (fun b u e => ?_) I.bare
  · have e : b = it := by simpa using hb
    subst e
    exact ⟨h1, hL, h2, h3⟩
  · obtain ⟨o, es, ep, ho, r⟩ := hm
    exact ⟨o, es, ep, k _ o (Ne.symm hL) ho, r⟩
  · refine (I.hok b u e).stay (fun c v hc q => k c v ?_ q) (fun _ q => q) fun _ _ q => q
    rcases hc with z | z
    · rw [z]; exact nit b u e
    · exact nit c _ z
theorem Inv.tok (I : Inv X pins σ H s) (t : Nat) : Inv X pins σ H { s with toks := t } := I.un (h' := s.heap) (t' := t) Un.refl I.hok
/-- all objects kept -/
theorem Inv.kept {t' : Nat} (I : Inv X pins σ H s) (k : ∀ b u, s.heap.get? b = some u → h'.get? b = some u) : Inv X pins σ H { s with heap := h', toks := t' } := I.un (Un.kept k) (I.hok.kept k)
/-- a new object laid and tracked -/
theorem Inv.laid {a : Addr} {o : HO} {t' : Nat} (I : Inv X pins σ H s) (k : ∀ b u, s.heap.get? b = some u → h'.get? b = some u) (hp : s.heap.objs.size ≤ a) (new : ObjOk X.prog X.w (upd H a o) h' a o) :
    Inv X pins σ (upd H a o) { s with heap := h', toks := t' } := I.un (Un.laid k hp (I.hok.fresh hp)) (I.hok.laid k hp new)
/-- an object written -/
theorem Inv.write {x e : Addr} {o : HO} {t' : Nat} (I : Inv X pins σ H s) (mu : Mut (H x)) (he : e = x ∨ H e = some (.own x)) (k : ∀ b u, b ≠ e → s.heap.get? b = some u → h'.get? b = some u) (heo : ∃ u, h'.get? e = some u)
    (new : ObjOk X.prog X.w (upd H x o) h' x o) : Inv X pins σ (upd H x o) { s with heap := h', toks := t' } := I.un (Un.write mu he k heo) (I.hok.write mu he k heo new)
/-- forgetting slots, pins -/
theorem Inv.weak {σ' : List (Option V)} (I : Inv X pins σ H s) (hl : σ'.length = σ.length) (w : ∀ (i : Nat) v, σ'[i]? = some (some v) → σ[i]? = some (some v)) : Inv X pins σ' H s :=
  ⟨I.ok, I.os, I.bare, I.base, let ⟨m, hn, hl'⟩ := I.loc; ⟨m, hn, fun i x v e1 e2 e3 => hl' i x v e1 (w i v e2) e3⟩, I.cell, I.free, I.freeC, I.pin, I.hok, hl.trans I.len⟩
theorem Inv.pins_of {pins' : List (Addr × Obj)} (I : Inv X pins σ H s) (h : ∀ p ∈ pins', s.heap.get? p.1 = some p.2 ∧ H p.1 = none ∧ p.1 ≠ X.env.locals ∧ p.1 ∉ X.fs ∧ ∀ v, p.2.data ≠ .cell v) : Inv X pins' σ H s :=
  ⟨I.ok, I.os, I.bare, I.base, I.loc, I.cell, I.free, I.freeC, fun p hp => (List.mem_append.mp hp).elim (fun z => I.pin p (List.mem_append_left _ z)) (h p), I.hok, I.len⟩

theorem nodup_ix {N : List Str} (hN : N.Nodup) {i j : Nat} {x : Str} (a : N[i]? = some x) (b : N[j]? = some x) : i = j := by
  obtain ⟨h1, e1⟩ := List.getElem?_eq_some_iff.mp a
  obtain ⟨h2, e2⟩ := List.getElem?_eq_some_iff.mp b
  exact (List.getElem_inj hN).mp (e1.trans e2.symm)

/-- a name is stored; what changed -/
theorem store_ok2 {M : Model} {A : Around} {E : Value → Shared → Prop} {i : Nat} {x : Str} {v : V} {u : Value} {Q : Unit → Shared → Prop} (I : Inv X pins σ H s) (hN : X.N.Nodup) (hi : X.N[i]? = some x) (hx : Loc X.env.scope x) (r : RelV v u)
    (h : ∀ s', Inv X pins (σ.set i (some v)) H s' → (∃ a, Heap.SameBut a s.heap s'.heap ∧ (a = X.env.locals ∨ X.env.cells.lookup x = some a)) → Q () s') (hf : X.fn x = true ∨ X.env.scope.names.lookup x = some .local := by first | exact .inl rfl | exact .inr rfl | assumption) : wpAny M A (storeName X.env x u) Q E s := by
  obtain ⟨m, hn, hl⟩ := id I.loc
  have hcls : (X.env.scope.kind == .class || (X.env.scope.kind == .module && X.env.locals != X.env.globals)) = false := by rw [I.ok.kind]; rfl
  have hiσ : i < σ.length := by rw [I.len]; exact (List.getElem?_eq_some_iff.mp hi).1
  have cne := I.cne
  have tracked : ∀ {a : Addr} {h' : Heap}, (∃ o, s.heap.get? a = some o ∧ H a = none) → Heap.SameBut a s.heap h' → HOk X.prog X.w H h' := fun {a h'} ha hs b ob e => by
    obtain ⟨_, _, hfree⟩ := ha
    refine (I.hok b ob e).stay (fun c w' hc q => (hs.2 c ?_).trans q) (fun _ q => q) fun _ _ q => q
    rintro rfl
    rcases hc with rfl | hc
    · rw [hfree] at e; cases e
    · rw [hfree] at hc; cases hc
  rcases hx with hk | hk
  · refine wpAny_storeName_local hk hn (fun h' hn' hs => ?_) hcls
    obtain ⟨oL, _, _, hoL, _⟩ := id hn
    refine h _ ⟨I.ok, I.os, I.bare, ⟨fun b o e n hb hx => ?_, fun b o e n hb hx => ?_, I.base.free, fun b o e hx => ?_, I.base.tups, I.base.frzs, I.base.tbls⟩, ⟨_, hn', fun j y v' e1 e2 e3 => ?_⟩, fun y c e => ?_, I.free, I.freeC, fun p hp => ?_, tracked ⟨oL, hoL, I.free⟩ hs, by simpa using I.len⟩ ⟨_, hs, .inl rfl⟩
    · exact (hs.2 b (Nat.ne_of_lt (Nat.lt_of_lt_of_le (Heap.lt_size e) I.ok.above))).trans (I.base.keep b o e n hb hx)
    · obtain ⟨sl, e1⟩ := I.base.slot b o e n hb hx
      exact ⟨sl, (hs.2 b (Nat.ne_of_lt (Nat.lt_of_lt_of_le (Heap.lt_size e) I.ok.above))).trans e1⟩
    · obtain ⟨o', e1⟩ := I.base.there b o e hx
      exact ⟨o', (hs.2 b (Nat.ne_of_lt (Nat.lt_of_lt_of_le (Heap.lt_size e) I.ok.above))).trans e1⟩
    · by_cases hj : j = i
      · subst hj
        rw [hi] at e1; cases e1
        rw [List.getElem?_set_self hiσ] at e2
        cases e2
        exact ⟨u, r, .inl ⟨hk, by simp⟩⟩
      · rw [List.getElem?_set_ne (Ne.symm hj)] at e2
        obtain ⟨u', r', q⟩ := hl j y v' e1 e2 e3
        refine ⟨u', r', ?_⟩
        rcases q with ⟨k, e⟩ | ⟨k, c, e, z⟩
        · refine .inl ⟨k, ?_⟩
          have : y ≠ x := fun e => hj (nodup_ix hN e1 (e ▸ hi))
          simp [this, e]
        · exact .inr ⟨k, c, e, z.sameBut hs (cne y c e)⟩
    · obtain ⟨w', z⟩ := I.cell y c e
      exact ⟨w', z.sameBut hs (cne y c e)⟩
    · obtain ⟨e, n, ne, nf, d⟩ := I.pin p hp
      exact ⟨(hs.2 p.1 ne).trans e, n, ne, nf, d⟩
  · have hfn : X.fn x = true := by
      rcases hf with z | z
      · exact z
      · rw [z] at hk; cases hk
    obtain ⟨c, hc⟩ := I.ok.has x (.inl hk)
    obtain ⟨w', z⟩ := I.cell x c hc
    refine wpAny_storeName_cell I.ok.kind hk hc z (fun h' hc' hs => ?_)
    obtain ⟨oc, hoc, hocd⟩ := id z
    refine h { s with heap := h' } ⟨I.ok, I.os, I.bare, ⟨fun b o e n hb hx => ?_, fun b o e n hb hx => ?_, I.base.free, fun b o e hx => ?_, I.base.tups, I.base.frzs, I.base.tbls⟩, ⟨m, hn.sameBut hs (Ne.symm (cne x c hc)), fun j y v' e1 e2 e3 => ?_⟩, fun y c' e => ?_, I.free, I.freeC, fun p hp => ?_, tracked ⟨oc, hoc, I.freeC x c hc⟩ hs, by simpa using I.len⟩ ⟨c, hs, .inr hc⟩
    · exact (hs.2 b (Nat.ne_of_lt (Nat.lt_of_lt_of_le (Heap.lt_size e) (I.ok.cab x c hfn hc)))).trans (I.base.keep b o e n hb hx)
    · obtain ⟨sl, e1⟩ := I.base.slot b o e n hb hx
      exact ⟨sl, (hs.2 b (Nat.ne_of_lt (Nat.lt_of_lt_of_le (Heap.lt_size e) (I.ok.cab x c hfn hc)))).trans e1⟩
    · obtain ⟨o', e1⟩ := I.base.there b o e hx
      exact ⟨o', (hs.2 b (Nat.ne_of_lt (Nat.lt_of_lt_of_le (Heap.lt_size e) (I.ok.cab x c hfn hc)))).trans e1⟩
    · by_cases hj : j = i
      · subst hj
        rw [hi] at e1; cases e1
        rw [List.getElem?_set_self hiσ] at e2
        cases e2
        exact ⟨u, r, .inr ⟨.inl hk, c, hc, hc'⟩⟩
      · rw [List.getElem?_set_ne (Ne.symm hj)] at e2
        obtain ⟨u', r', q⟩ := hl j y v' e1 e2 e3
        refine ⟨u', r', ?_⟩
        rcases q with q | ⟨k, c', e, z'⟩
        · exact .inl q
        · refine .inr ⟨k, c', e, z'.sameBut hs ?_⟩
          rintro rfl
          exact hj (nodup_ix hN e1 (I.ok.inj _ _ _ e hc ▸ hi))
    · by_cases hcc : c' = c
      · subst hcc; exact ⟨_, hc'⟩
      · obtain ⟨w2, z2⟩ := I.cell y c' e
        exact ⟨w2, z2.sameBut hs hcc⟩
    · obtain ⟨e, n, ne, nf, d⟩ := I.pin p hp
      refine ⟨(hs.2 p.1 ?_).trans e, n, ne, nf, d⟩
      intro q
      rw [q, hoc] at e
      have q' : oc = p.2 := Option.some.inj e
      exact d w' (by rw [← q']; exact hocd)
theorem store_ok {M : Model} {A : Around} {E : Value → Shared → Prop} {i : Nat} {x : Str} {v : V} {u : Value} {Q : Unit → Shared → Prop} (I : Inv X pins σ H s) (hN : X.N.Nodup) (hi : X.N[i]? = some x) (hx : Loc X.env.scope x) (r : RelV v u)
    (h : ∀ s', Inv X pins (σ.set i (some v)) H s' → Q () s') (hf : X.fn x = true ∨ X.env.scope.names.lookup x = some .local := by first | exact .inl rfl | exact .inr rfl | assumption) : wpAny M A (storeName X.env x u) Q E s :=
  store_ok2 I hN hi hx r (fun s' I' _ => h s' I') hf
/-- behind a call or a block, the state as it is -/
theorem Inv.call' {s' : Shared} {ch : List Addr} (I : Inv X pins σ H s) (ho : s'.os = s.os) (u : Un (frs X.stack) ch H H' s.heap s'.heap) (hok : HOk X.prog X.w H' s'.heap) (hg : AllBare s'.gens)
    (hch : ∀ b ∈ ch, (b ∈ X.ex ∨ X.s_0.heap.objs.size ≤ b) ∧ b ≠ X.env.locals ∧ (∀ x c, X.env.cells.lookup x = some c → c ≠ b) ∧ ∀ p ∈ X.pn ++ pins, p.1 ≠ b) : Inv X pins σ H' s' := by
  obtain ⟨h', g', d', t', o'⟩ := s'
  have e : o' = s.os := ho
  subst e
  exact I.call (g' := g') (t' := t') (d' := d') u hok hg hch
end

/-- an exception: its class, its own dict's address (where it has one), the abstract heap behind it -/
abbrev XK := Value → Option Addr → Hp → Prop
abbrev St := List (Option V)
abbrev VK := V → Hp → Prop
/-- an expression's reading; a test's; an argument list's -/
abbrev TE := St → Hp → VK → Prop
abbrev TT := St → Hp → (Bool → Hp → Prop) → Prop
abbrev TA := St → Hp → (List V → Hp → Prop) → Prop
/-- what is wanted behind a statement -/
structure Ends where
  nx : St → Hp → Prop
  rt : VK
  bk : St → Hp → Prop := fun _ _ => False
  ct : St → Hp → Prop := fun _ _ => False
abbrev TS := Ends → St → Hp → Prop

def EP (X : Cx) (pins : List (Addr × Obj)) (σ : St) (Q : VK) (u : Value) (s' : Shared) : Prop := ∃ v H', Inv X pins σ H' s' ∧ RelV v u ∧ Q v H'
def TP (X : Cx) (pins : List (Addr × Obj)) (σ : St) (Q : Bool → Hp → Prop) (b : Bool) (s' : Shared) : Prop := ∃ H', Inv X pins σ H' s' ∧ Q b H'
def AP (X : Cx) (pins : List (Addr × Obj)) (σ : St) (Q : List V → Hp → Prop) (us : List Value) (s' : Shared) : Prop := ∃ vs H', Inv X pins σ H' s' ∧ Vals vs us ∧ Q vs H'
def SP (X : Cx) (pins : List (Addr × Obj)) (D : Ends) (f : Flow) (s' : Shared) : Prop :=
  match f with
  | .next => ∃ σ' H', Inv X pins σ' H' s' ∧ D.nx σ' H'
  | .brk => ∃ σ' H', Inv X pins σ' H' s' ∧ D.bk σ' H'
  | .cont => ∃ σ' H', Inv X pins σ' H' s' ∧ D.ct σ' H'
  | .ret u => ∃ v σ' H', Inv X pins σ' H' s' ∧ RelV v u ∧ D.rt v H'

def PE (X : Cx) (e : Expr) (t : TE) : Prop :=
  ∀ (pins : List (Addr × Obj)) (s : Shared) (σ : St) (H : Hp) (Q : VK), Inv X pins σ H s → t σ H Q → wpAny (model X.prog X.w) X.A (eval e X.env) (EP X pins σ Q) X.xe s
def PT (X : Cx) (e : Expr) (t : TT) : Prop :=
  ∀ (pins : List (Addr × Obj)) (s : Shared) (σ : St) (H : Hp) (Q : Bool → Hp → Prop), Inv X pins σ H s → t σ H Q → wpAny (model X.prog X.w) X.A (isTrue e X.env (eval e X.env)) (TP X pins σ Q) X.xe s
/-- a test whatever its 'whole' is (and, or) -/
def PW (X : Cx) (e : Expr) (t : TT) : Prop :=
  ∀ (whole : Sem Value) (pins : List (Addr × Obj)) (s : Shared) (σ : St) (H : Hp) (Q : Bool → Hp → Prop), Inv X pins σ H s → t σ H Q → wpAny (model X.prog X.w) X.A (isTrue e X.env whole) (TP X pins σ Q) X.xe s
theorem PW.pt {X : Cx} {e : Expr} {t : TT} (h : PW X e t) : PT X e t := h _
/-- an argument list (no star), from the left -/
def PA (X : Cx) (es : List Expr) (t : TA) : Prop :=
  ∀ (pos : Pos) (pins : List (Addr × Obj)) (s : Shared) (σ : St) (H : Hp) (Q : List V → Hp → Prop), Inv X pins σ H s → t σ H Q → wpAny (model X.prog X.w) X.A (spliced (backTo pos (starEach es X.env))) (AP X pins σ Q) X.xe s
def PS (X : Cx) (st : Stmt) (t : TS) : Prop :=
  ∀ (pins : List (Addr × Obj)) (s : Shared) (σ : St) (H : Hp) (D : Ends), Inv X pins σ H s → t D σ H → wpAny (model X.prog X.w) X.A (exec st X.env) (SP X pins D) X.xe s
def PSs (X : Cx) (st : List Stmt) (t : TS) : Prop :=
  ∀ (pins : List (Addr × Obj)) (s : Shared) (σ : St) (H : Hp) (D : Ends), Inv X pins σ H s → t D σ H → wpAny (model X.prog X.w) X.A (execs st X.env) (SP X pins D) X.xe s
/-- weaken the end -/
theorem thn {α : Type} {t : Sem α} {Q Q' : α → Shared → Prop} {M : Model} {A : Around} {E : Value → Shared → Prop} {s : Shared} (h : wpAny M A t Q E s) (hQ : ∀ a s, Q a s → Q' a s) : wpAny M A t Q' E s := wpAny_mono h hQ fun _ _ x => x
end L2

namespace L2
open PySem PySem.Spec PyProof.Rows
section
variable {X : Cx}

def tVar (i : Nat) : TE := fun σ H Q => ∃ v, σ[i]? = some (some v) ∧ Q v H
def tC (v : V) : TE := fun _ H Q => Q v H
theorem pe_var {i : Nat} {x : Str} {pos : Pos} (hN : X.N[i]? = some x) (hv : Vis X.env.scope x) (hd : (x == ("__debug__" : Str)) = false := by decide) (hcd : (x == ("__classdict__" : Str)) = false := by decide) : PE X (.Name x pos) (tVar i) := by
  intro pins s σ H Q I h
  obtain ⟨v, e, h⟩ := h
  obtain ⟨m, hn, hl⟩ := I.loc
  obtain ⟨u, r, l⟩ := hl i x v hN e hv
  have fin : EP X pins σ Q u s := ⟨v, H, I, r, h⟩
  rcases l with ⟨hk, hm⟩ | ⟨hk, c, hc, hcell⟩
  · exact wpAny_Name (wpAny_loadName_local I.ok.kind hk hn hm fin) hd
  · rcases hk with hk | hk
    · exact wpAny_Name (wpAny_loadName_cell I.ok.kind hk hc hcell fin) hd
    · exact wpAny_Name (wpAny_loadName_free I.ok.kind hk hc hcell fin hcd) hd
theorem pe_int {i j pos} : PE X (.Constant (.int i) j pos) (tC (.int i)) := fun _ _ _ H _ I h => wpAny_Constant_int ⟨.int i, H, I.tok _, ⟨_, rfl⟩, h⟩
/-- a global name of the def -/
def Gl (X : Cx) (x : Str) : Prop := X.env.kindOf x = some .globalImplicit
theorem ld_glob {E : Value → Shared → Prop} {pins : List (Addr × Obj)} {s : Shared} {σ : St} {H : Hp} {x : Str} {u : Value} {pos : Pos} {Q : Value → Shared → Prop} (I : Inv X pins σ H s) (hg : Gl X x) (hm : X.mg x = some u) (h : Q u s)
    (hd : (x == ("__debug__" : Str)) = false := by decide) : wpAny (model X.prog X.w) X.A (eval (.Name x pos) X.env) Q E s :=
  Calls.Name_function_global I.ok.kind hg (Calls.loadGlobal_global (by rw [I.ok.glob]; exact I.mod.glob.keeps I.bk) hm h) hd
theorem ld_blt {E : Value → Shared → Prop} {pins : List (Addr × Obj)} {s : Shared} {σ : St} {H : Hp} {x : Str} {u : Value} {pos : Pos} {Q : Value → Shared → Prop} (I : Inv X pins σ H s) (hg : Gl X x) (hm : X.mg x = none) (hv : bootBuiltins x = some u) (h : Q u s)
    (hn : x ≠ "__name__" := by decide) (hd : (x == ("__debug__" : Str)) = false := by decide) : wpAny (model X.prog X.w) X.A (eval (.Name x pos) X.env) Q E s := by
  obtain ⟨mb, h1, h2⟩ := I.mod.blt
  exact Calls.Name_function_global I.ok.kind hg (Calls.loadGlobal_builtin (by rw [I.ok.glob]; exact I.mod.glob.keeps I.bk) hm (by rw [I.ok.blt]; exact h1.keeps I.bk) ((h2 x hn).trans hv) h) hd
/-- a module's constant, a class, a function, as a value -/
theorem pe_glob {x : Str} {v : V} {u : Value} {pos : Pos} (hg : Gl X x) (hm : X.mg x = some u) (r : RelV v u) (hd : (x == ("__debug__" : Str)) = false := by decide) : PE X (.Name x pos) (tC v) :=
  fun _ _ _ H _ I h => ld_glob I hg hm ⟨v, H, I, r, h⟩ hd
variable {a b : Expr} {ta tb : TE} {pos : Pos}
/-- a comparison as a value, as a test -/
def tB (t : TE) : TT := fun σ H Q => t σ H fun x H1 => ∃ c, x = .bl c ∧ Q c H1
/-- an expression whose value is a bool, as a test -/
theorem pt_val {e : Expr} {t : TE} (h : PE X e t) (he : ∀ whole, isTrue e X.env whole = (do let v ← whole; standAt e.pos; holding [v] (truthy v)) := by intro _; rfl) : PT X e (tB t) := by
  intro pins s σ H Q I hw
  refine isTrue_plain (thn (h pins s σ H _ I hw) fun v s1 ⟨x, H1, I1, r1, q1⟩ => ?_) (he _)
  obtain ⟨d, rfl, q⟩ := q1
  cases r1
  exact wpAny_truthy_bool ⟨H1, I1, q⟩

variable {tA tB' : TT} {rest : List Expr}
def tAnd (t u : TT) : TT := fun σ H Q => t σ H fun c H1 => if c = true then u σ H1 Q else Q false H1
def tOr (t u : TT) : TT := fun σ H Q => t σ H fun c H1 => if c = true then Q true H1 else u σ H1 Q
def tNot (t : TT) : TT := fun σ H Q => t σ H fun c H1 => Q (!c) H1
theorem pw_and1 (ha : PT X a tA) : PW X (.BoolOp .And [a] pos) tA := by
  intro wh pins s σ H Q I h
  refine isTrue_and (thn (ha pins s σ H Q I h) fun c s1 e => ?_)
  cases c with
  | true => exact isTrue_and_nil e
  | false => exact e
theorem pw_or1 (ha : PT X a tA) : PW X (.BoolOp .Or [a] pos) tA := by
  intro wh pins s σ H Q I h
  refine isTrue_or (thn (ha pins s σ H Q I h) fun c s1 e => ?_)
  cases c with
  | false => exact isTrue_or_nil e
  | true => exact e
theorem pw_and (ha : PT X a tA) (hb : PW X (.BoolOp .And (b :: rest) pos) tB') : PW X (.BoolOp .And (a :: b :: rest) pos) (tAnd tA tB') := by
  intro wh pins s σ H Q I h
  refine isTrue_and (thn (ha pins s σ H _ I h) fun c s1 ⟨H1, I1, q1⟩ => ?_)
  cases c with
  | true => exact hb wh pins s1 σ H1 Q I1 q1
  | false => exact ⟨H1, I1, q1⟩
theorem pw_or (ha : PT X a tA) (hb : PW X (.BoolOp .Or (b :: rest) pos) tB') : PW X (.BoolOp .Or (a :: b :: rest) pos) (tOr tA tB') := by
  intro wh pins s σ H Q I h
  refine isTrue_or (thn (ha pins s σ H _ I h) fun c s1 ⟨H1, I1, q1⟩ => ?_)
  cases c with
  | true => exact ⟨H1, I1, q1⟩
  | false => exact hb wh pins s1 σ H1 Q I1 q1
theorem pt_not (ha : PT X a tA) : PT X (.UnaryOp .Not a pos) (tNot tA) := by
  intro pins s σ H Q I h
  exact isTrue_not (ha pins s σ H (fun c H1 => Q (!c) H1) I h)
/-- a if t else b -/
def tIf (t : TT) (ta tb : TE) : TE := fun σ H Q => t σ H fun c H1 => if c = true then ta σ H1 Q else tb σ H1 Q
theorem pe_ifExp {c : Expr} (hc : PT X c tA) (ha : PE X a ta) (hb : PE X b tb) : PE X (.IfExp c a b pos) (tIf tA ta tb) := by
  intro pins s σ H Q I h
  refine wpAny_IfExp (thn (hc pins s σ H _ I h) fun d s1 ⟨H1, I1, q1⟩ => ?_)
  cases d with
  | true => exact ha pins s1 σ H1 Q I1 q1
  | false => exact hb pins s1 σ H1 Q I1 q1
end
end L2

namespace L2
open PySem PySem.Spec PyProof.Rows

def SqL (K : PySem.W.Frag) (H : Hp) (a : Addr) (xs : List V) : Prop :=
  Rd H a (.lst xs) ∨
    ∃ (o : Obj) (its : Array Value) (n : Nat), K.lookup a = some o ∧ o.cls = .type "list" ∧ o.dict = none ∧ o.data = .seq its n ∧ its.size ≤ sizeLine ∧ Vals xs its.toList
def SqT (K : PySem.W.Frag) (H : Hp) (a : Addr) (xs : List V) : Prop :=
  Rd H a (.tup xs) ∨
    ∃ (o : Obj) (its : Array Value) (n : Nat), K.lookup a = some o ∧ o.cls = .type "tuple" ∧ o.data = .seq its n ∧ its.size ≤ sizeLine ∧ Vals xs its.toList
def absV : Value → Option V
  | .none => some .non
  | .bool b => some (.bl b)
  | .int i _ => some (.int i)
  | .str x _ => some (.str x)
  | .bytes b _ => some (.byt b)
  | .float b _ => some (.flt b)
  | .ref a => some (.ref a)
  | .type n => some (.ty n)
  | _ => none
theorem RelV.abs {x : V} {u : Value} (r : RelV x u) : absV u = some x := by
  cases x with
  | non => cases r; rfl
  | bl _ => cases r; rfl
  | int _ => obtain ⟨t, rfl⟩ := r; rfl
  | str _ => obtain ⟨t, rfl⟩ := r; rfl
  | byt _ => obtain ⟨t, rfl⟩ := r; rfl
  | flt _ => obtain ⟨t, rfl⟩ := r; rfl
  | ref _ => cases r; rfl
  | ty _ => cases r; rfl
theorem RelV.inj {x y : V} {u : Value} (r : RelV x u) (q : RelV y u) : x = y := Option.some.inj (r.abs.symm.trans q.abs)
theorem Vals.inj : ∀ {xs ys : List V} {us : List Value}, Vals xs us → Vals ys us → xs = ys
  | _, _, _, .nil, .nil => rfl
  | _, _, _, .cons r t, .cons r' t' => by rw [r.inj r', Vals.inj t t']
section
variable {X : Cx} {pins : List (Addr × Obj)} {σ : St} {H : Hp} {s : Shared} {a : Addr} {xs ys : List V}
theorem SqL.of {K : PySem.W.Frag} (h : H a = some (.lst xs)) : SqL K H a xs := .inl (.inl h)
theorem SqT.of {K : PySem.W.Frag} (h : H a = some (.tup xs)) : SqT K H a xs := .inl (.inl h)
theorem Inv.list (I : Inv X pins σ H s) (h : SqL X.K H a xs) : ∃ its : List Value, Vals xs its ∧ PlainL s.heap a its.toArray ∧ xs.length ≤ sizeLine := by
  rcases h with h | ⟨o, its, n, hk, hc, hd, hs, hz, r⟩
  · obtain ⟨z, its, n, r, e⟩ := h.ok I.hok
    exact ⟨its, r, ⟨_, n, e, rfl, rfl, rfl⟩, z⟩
  · refine ⟨its.toList, r, ⟨o, n, I.kIn a o hk, hc, hd, by simpa using hs⟩, ?_⟩
    have e := r.length
    simp only [Array.length_toList] at e
    omega
theorem Inv.tuple (I : Inv X pins σ H s) (h : SqT X.K H a xs) : ∃ its : List Value, Vals xs its ∧ IsTup s.heap a its.toArray ∧ xs.length ≤ sizeLine := by
  rcases h with h | ⟨o, its, n, hk, hc, hs, hz, r⟩
  · obtain ⟨z, its, r, p⟩ := h.ok I.hok
    exact ⟨its, r, p, z⟩
  · refine ⟨its.toList, r, ⟨o, I.kIn a o hk, hc, n, by simpa using hs⟩, ?_⟩
    have e := r.length
    simp only [Array.length_toList] at e
    omega
theorem Inv.list_inj (I : Inv X pins σ H s) (h : SqL X.K H a xs) (h' : SqL X.K H a ys) : xs = ys := by
  obtain ⟨its, r, ⟨o, n, e, _, _, d⟩, _⟩ := I.list h
  obtain ⟨its', r', ⟨o', n', e', _, _, d'⟩, _⟩ := I.list h'
  rw [e] at e'; cases e'
  rw [d] at d'
  injection d' with d1 _
  have : its = its' := by simpa using congrArg Array.toList d1
  subst this
  exact r.inj r'
theorem Inv.tuple_inj (I : Inv X pins σ H s) (h : SqT X.K H a xs) (h' : SqT X.K H a ys) : xs = ys := by
  obtain ⟨its, r, ⟨o, e, _, n, d⟩, _⟩ := I.tuple h
  obtain ⟨its', r', ⟨o', e', _, n', d'⟩, _⟩ := I.tuple h'
  rw [e] at e'; cases e'
  rw [d] at d'
  injection d' with d1 _
  have : its = its' := by simpa using congrArg Array.toList d1
  subst this
  exact r.inj r'
end

abbrev Cx.wish (X : Cx) (E : Value → Shared → Prop) : Cx := { X with xe := E }
/-- no exception leaves -/
abbrev Cx.nox (X : Cx) : Cx := X.wish fun _ _ => False
theorem Cx.Ok.wish {X : Cx} (ok : X.Ok) (E : Value → Shared → Prop) : (X.wish E).Ok :=
  ⟨ok.mod, ok.kind, ok.glob, ok.blt, ok.above, ok.inj, ok.has, ok.cab, ok.hd, ok.frames, ok.stk, ok.exf, ok.bs, ok.bsz, ok.noex, ok.exfs, ok.funs, ok.frf⟩
theorem Cx.Ok.unwish {X : Cx} {E : Value → Shared → Prop} (ok : (X.wish E).Ok) : X.Ok :=
  ⟨ok.mod, ok.kind, ok.glob, ok.blt, ok.above, ok.inj, ok.has, ok.cab, ok.hd, ok.frames, ok.stk, ok.exf, ok.bs, ok.bsz, ok.noex, ok.exfs, ok.funs, ok.frf⟩
section
variable {X : Cx} {pins : List (Addr × Obj)} {σ : St} {H : Hp} {s : Shared} {E : Value → Shared → Prop}
theorem Inv.wish (I : Inv X pins σ H s) (E : Value → Shared → Prop) : Inv (X.wish E) pins σ H s := ⟨I.ok.wish E, I.os, I.bare, I.base, I.loc, I.cell, I.free, I.freeC, I.pin, I.hok, I.len⟩
theorem Inv.unwish (I : Inv (X.wish E) pins σ H s) : Inv X pins σ H s := ⟨I.ok.unwish, I.os, I.bare, I.base, I.loc, I.cell, I.free, I.freeC, I.pin, I.hok, I.len⟩
theorem SP.unwish {D : Ends} {f : Flow} {s' : Shared} (h : SP (X.wish E) pins D f s') : SP X pins D f s' := by
  cases f with
  | next => obtain ⟨σ', H', I, q⟩ := h; exact ⟨σ', H', I.unwish, q⟩
  | brk => obtain ⟨σ', H', I, q⟩ := h; exact ⟨σ', H', I.unwish, q⟩
  | cont => obtain ⟨σ', H', I, q⟩ := h; exact ⟨σ', H', I.unwish, q⟩
  | ret u => obtain ⟨v, σ', H', I, r, q⟩ := h; exact ⟨v, σ', H', I.unwish, r, q⟩
theorem PSs.nox {st : List Stmt} {t : TS} (h : PSs X.nox st t) : PSs X st t := fun pins s σ H D I hw =>
  wpAny_mono (h pins s σ H D (I.wish _) hw) (fun _ _ q => q.unwish) fun _ _ z => False.elim z
end

section
variable {X : Cx} {st : Stmt} {rest : List Stmt} {t u : TS} {e : Expr} {te : TE} {pos : Pos}
def tNext : TS := fun D σ H => D.nx σ H
def tSeq (t u : TS) : TS := fun D σ H => t { D with nx := u D } σ H
theorem pss_nil : PSs X [] tNext := fun _ _ σ H _ I h => wpAny_execs_nil ⟨σ, H, I, h⟩
theorem pss_cons (h1 : PS X st t) (h2 : PSs X rest u) : PSs X (st :: rest) (tSeq t u) := by
  intro pins s σ H D I h
  refine wpAny_execs_cons (thn (h1 pins s σ H { D with nx := u D } I h) fun f s1 q => ?_)
  cases f with
  | next =>
    obtain ⟨σ', H', I', q⟩ := q
    exact h2 pins s1 σ' H' D I' q
  | ret v => exact q
  | brk => exact q
  | cont => exact q
theorem pss_one (h1 : PS X st t) : PSs X [st] t := by
  intro pins s σ H D I h
  refine wpAny_execs_cons (thn (h1 pins s σ H D I h) fun f s1 q => ?_)
  cases f with
  | next => exact wpAny_execs_nil q
  | ret v => exact q
  | brk => exact q
  | cont => exact q
def tRet (te : TE) : TS := fun D σ H => te σ H D.rt
theorem ps_ret (he : PE X e te) : PS X (.Return (some e) pos) (tRet te) := by
  intro pins s σ H D I h
  exact wpAny_Return_some (thn (he pins s σ H _ I h) fun v s1 ⟨x, H1, I1, r1, q1⟩ => ⟨x, σ, H1, I1, r1, q1⟩)
def tIfS (c : TT) (t u : TS) : TS := fun D σ H => c σ H fun b H1 => if b = true then t D σ H1 else u D σ H1
theorem ps_if {c : Expr} {a b : List Stmt} {tc : TT} (hc : PT X c tc) (ha : PSs X a t) (hb : PSs X b u) : PS X (.If c a b pos) (tIfS tc t u) := by
  intro pins s σ H D I h
  refine wpAny_If (thn (hc pins s σ H _ I h) fun d s1 ⟨H1, I1, q1⟩ => ?_)
  cases d with
  | true => exact ha pins s1 σ H1 D I1 q1
  | false => exact hb pins s1 σ H1 D I1 q1
end

abbrev TG := V → St → Hp → (St → Hp → Prop) → Prop
abbrev TGs := List V → St → Hp → (St → Hp → Prop) → Prop
def PG (X : Cx) (target : Expr) (t : TG) : Prop :=
  ∀ (pins : List (Addr × Obj)) (s : Shared) (σ : St) (H : Hp) (v : V) (u : Value) (Q : St → Hp → Prop), Inv X pins σ H s → RelV v u → t v σ H Q →
    wpAny (model X.prog X.w) X.A (assign target X.env u) (fun _ s' => ∃ σ' H', Inv X pins σ' H' s' ∧ Q σ' H') X.xe s
/-- several targets, one after another -/
def PGs (X : Cx) (ts : List Expr) (t : TGs) : Prop :=
  ∀ (pins : List (Addr × Obj)) (s : Shared) (σ : St) (H : Hp) (vs : List V) (us : List Value) (Q : St → Hp → Prop), Inv X pins σ H s → Vals vs us → t vs σ H Q →
    wpAny (model X.prog X.w) X.A (assignInOrder ((assignEach ts X.env).map (·.2)) us) (fun _ s' => ∃ σ' H', Inv X pins σ' H' s' ∧ Q σ' H') X.xe s
section
variable {X : Cx} {pos : Pos}
def gName (i : Nat) : TG := fun v σ H Q => Q (σ.set i (some v)) H
theorem pg_name {i : Nat} {x : Str} (hN : X.N.Nodup) (hi : X.N[i]? = some x) (hx : Loc X.env.scope x) (hf : X.fn x = true ∨ X.env.scope.names.lookup x = some .local := by first | exact .inl rfl | exact .inr rfl | assumption) : PG X (.Name x pos) (gName i) := by
  intro pins s σ H v u Q I r h
  exact wpAny_assign_Name (store_ok I hN hi hx r (fun s' I' => ⟨_, H, I', h⟩) hf)
def gNil : TGs := fun vs σ H Q => vs = [] ∧ Q σ H
def gCons (t : TG) (u : TGs) : TGs := fun vs σ H Q => ∃ v r, vs = v :: r ∧ t v σ H fun σ' H' => u r σ' H' Q
theorem pgs_nil : PGs X [] gNil := by
  intro pins s σ H vs us Q I r h
  obtain ⟨e, h⟩ := h
  subst e
  cases r
  exact assignInOrder_nil ⟨σ, H, I, h⟩
theorem pgs_cons {e : Expr} {es : List Expr} {t : TG} {u : TGs} (h1 : PG X e t) (h2 : PGs X es u)
    (hs : (assignEach (e :: es) X.env).map (·.2) = assign e X.env :: (assignEach es X.env).map (·.2) := by rfl) : PGs X (e :: es) (gCons t u) := by
  intro pins s σ H vs us Q I r h
  obtain ⟨v, vr, e1, h⟩ := h
  subst e1
  cases r with
  | cons r rr =>
    rw [hs]
    refine assignInOrder_cons (thn (h1 pins s σ H _ _ _ I r h) fun _ s1 ⟨σ1, H1, I1, q1⟩ => ?_)
    exact h2 pins s1 σ1 H1 _ _ Q I1 rr q1
/-- (a, b, ..) = a tuple of that length -/
def gTup (K : PySem.W.Frag) (n : Nat) (t : TGs) : TG := fun v σ H Q => ∃ a xs, v = .ref a ∧ SqT K H a xs ∧ xs.length = n ∧ t xs σ H Q
theorem pg_tup {es : List Expr} {k : Nat} {t : TGs} {n : Nat} (hc : X.calm = true) (h : PGs X es t)
    (hn : (assignEach es X.env).length = n := by rfl) (hst : (assignEach es X.env).findIdx? (·.1) = none := by rfl) : PG X (.Tuple es k pos) (gTup X.K n t) := by
  intro pins s σ H v u Q I r hw
  obtain ⟨a, xs, e1, hq, hl, hw⟩ := hw
  subst e1
  cases r
  obtain ⟨its, rv, ht, hz⟩ := I.tuple hq
  refine assign_Tuple_tuple (I.ok.hd hc) ht (by simp [hn, ← hl, rv.length]) hst fun h' hx => ?_
  have I1 : Inv X pins σ H { s with heap := h' } := I.kept (t' := s.toks) fun b o e => hx b o (Nat.ne_of_lt (Heap.lt_size e)) e
  exact h pins _ σ H xs _ Q I1 (by simpa using rv) hw
/-- target = value -/
def tAsg (te : TE) (g : TG) : TS := fun D σ H => te σ H fun x H1 => g x σ H1 D.nx
theorem ps_asg {tg e : Expr} {te : TE} {g : TG} (he : PE X e te) (hg : PG X tg g) (hs : swapsWithSole [tg] e pos.line X.env = pure false := by rfl) (hw : swappedStores [tg] e X.env = pure none := by rfl)
    (h1 : (assignEach [tg] X.env).map (·.2) = [assign tg X.env] := by rfl) : PS X (.Assign [tg] e pos) (tAsg te g) := by
  intro pins s σ H D I h
  refine wpAny_Assign_stores (thn (he pins s σ H _ I h) fun v s1 ⟨x, H1, I1, r1, q1⟩ => ?_) hs hw
  rw [h1]
  exact thn (hg pins s1 σ H1 x v _ I1 r1 q1) fun _ s2 q => q
/-- name = value -/
theorem ps_set {i : Nat} {x : Str} {e : Expr} {te : TE} {pos' : Pos} (hN : X.N.Nodup) (hi : X.N[i]? = some x) (hx : Loc X.env.scope x) (he : PE X e te) (hs : swapsWith e (some (.Name x pos')) pos.line X.env = pure false := by rfl) (hf : X.fn x = true ∨ X.env.scope.names.lookup x = some .local := by first | exact .inl rfl | exact .inr rfl | assumption) :
    PS X (.Assign [.Name x pos'] e pos) (tAsg te (gName i)) := by
  intro pins s σ H D I h
  refine wpAny_Assign_Name (thn (he pins s σ H _ I h) fun v s1 ⟨y, H1, I1, r1, q1⟩ => ?_) hs
  exact store_ok I1 hN hi hx r1 (fun s2 I2 => ⟨_, H1, I2, q1⟩) hf
end

section
variable {X : Cx} {pos : Pos}
end

/-- at turn i: it yields x (the heap may grow), or it stops -/
structure It where
  go : Nat → Hp → Prop
  yld : Nat → Hp → V → Hp → Prop
  stop : Nat → Hp → Prop
/-- the iterator's own objects may turn: they are not the frame's, not pinned, younger than the entry (or a comprehension's own) -/
def FpOk (X : Cx) (pins : List (Addr × Obj)) (H : Hp) (b : Addr) : Prop :=
  H b = none ∧ b ≠ X.env.locals ∧ b ∉ X.fs ∧ (b ∈ X.ex ∨ X.s_0.heap.objs.size ≤ b) ∧ (∀ x c, X.env.cells.lookup x = some c → c ≠ b) ∧ ∀ p ∈ X.pn ++ pins, p.1 ≠ b
theorem Inv.fpOk {X : Cx} {pins : List (Addr × Obj)} {σ : St} {H H' : Hp} {s : Shared} {b : Addr} (I : Inv X pins σ H s) (hb : s.heap.objs.size ≤ b) (hn : H' b = none) : FpOk X pins H' b := by
  refine ⟨hn, Nat.ne_of_gt (Nat.lt_of_lt_of_le I.lt hb), I.nofs hb, .inr (Nat.le_trans I.sz hb), fun x c e z => ?_, fun p hp z => ?_⟩
  · obtain ⟨v, q⟩ := I.cell x c e
    exact absurd (Nat.lt_of_lt_of_le q.lt (by rw [z]; exact hb)) (Nat.lt_irrefl _)
  · exact absurd (Nat.lt_of_lt_of_le (Heap.lt_size (I.pin p hp).1) (by rw [z]; exact hb)) (Nat.lt_irrefl _)
structure Turn (P : Program) (w : World) (K : PySem.W.Frag) (tg : Expr) (J : It) (fp : List Addr) (it : Addr) (tn : Nat → Heap → Prop) : Prop where
  mem : it ∈ fp
  obj : ∀ i h, tn i h → ∀ b ∈ fp, ∃ o, h.get? b = some o ∧ ∀ v, o.data ≠ .cell v
  keep : ∀ i h h', tn i h → (∀ b ∈ fp, ∀ o, h.get? b = some o → h'.get? b = some o) → tn i h'
  item : ∀ (X : Cx), X.prog = P → X.w = w → X.K = K → X.calm = true → ∀ (i : Nat) (pins : List (Addr × Obj)) (s : Shared) (σ : St) (H : Hp) (E : Value → Shared → Prop), Inv X pins σ H s → (∀ b ∈ fp, FpOk X pins H b) → tn i s.heap → J.go i H →
    wpAny (model P w) X.A (pyNext (.ref it)) (fun r s1 => ∃ u, r = some u ∧
      wpAny (model P w) X.A (letOwnedTupleGo tg (.ref it) u) (fun _ s2 => ∃ x H', Inv X pins σ H' s2 ∧ RelV x u ∧ J.yld i H x H' ∧ tn (i + 1) s2.heap ∧ ∀ b ∈ fp, H' b = none) E s1) E s
  done : ∀ (X : Cx), X.prog = P → X.w = w → X.K = K → X.calm = true → ∀ (i : Nat) (pins : List (Addr × Obj)) (s : Shared) (σ : St) (H : Hp) (E : Value → Shared → Prop), Inv X pins σ H s → (∀ b ∈ fp, FpOk X pins H b) → tn i s.heap → J.stop i H →
    wpAny (model P w) X.A (pyNext (.ref it)) (fun r s1 => r = none ∧ Inv X pins σ H s1) E s
  self : ∀ (A : Around) (i : Nat) (s : Shared) (Q : Value → Shared → Prop) (E : Value → Shared → Prop), tn i s.heap → Q (.ref it) s → wpAny (model P w) A (pyIter (.ref it)) Q E s
abbrev TI := St → Hp → (It → Hp → Prop) → Prop
/-- an iterator has come -/
def PIE (X : Cx) (pins : List (Addr × Obj)) (σ : St) (tg : Expr) (R : It → Hp → Prop) (itv : Value) (s2 : Shared) : Prop :=
  ∃ (it : Addr) (fp : List Addr) (tn : Nat → Heap → Prop) (J : It) (H' : Hp), itv = .ref it ∧ Inv X pins σ H' s2 ∧ Turn X.prog X.w X.K tg J fp it tn ∧ tn 0 s2.heap ∧ (∀ b ∈ fp, FpOk X pins H' b) ∧ R J H'
def PI (X : Cx) (tg iter : Expr) (wi : TI) : Prop :=
  ∀ (pins : List (Addr × Obj)) (s : Shared) (σ : St) (H : Hp) (R : It → Hp → Prop), Inv X pins σ H s → wi σ H R →
    wpAny (model X.prog X.w) X.A (eval iter X.env) (fun v s1 => wpAny (model X.prog X.w) X.A (pyIter v) (PIE X pins σ tg R) X.xe s1) X.xe s

/-- the step ahead of the store is nothing for an iterator that keeps no tuple -/
theorem go_of {M : Model} {A : Around} {E : Value → Shared → Prop} {s : Shared} {tg : Expr} {it : Addr} {u : Value} {o : Obj} {n : String} {vs : Array Value} {Q : Unit → Shared → Prop} (ho : s.heap.get? it = some o) (hc : o.cls = .type n) (hd : o.data = .fields vs)
    (hn : ["enumerate", "zip", "dict_itemiterator", "dict_reverseitemiterator", "odict_iterator", "itertools.zip_longest", "itertools.pairwise"].contains n = false) (hQ : Q () s) : wpAny M A (letOwnedTupleGo tg (.ref it) u) Q E s := by
  unfold letOwnedTupleGo
  cases tg <;> first
    | exact wpAny_pure hQ
    | (cases u <;> first
        | exact wpAny_pure hQ
        | (refine wpAny_bind (wpAny_load ho ?_)
           rw [hc, hd]
           show wpAny M A (if (["enumerate", "zip", "dict_itemiterator", "dict_reverseitemiterator", "odict_iterator", "itertools.zip_longest", "itertools.pairwise"].contains n && vs[0]? == some (rawInt _)) = true then _ else _) Q E s
           rw [if_neg (by intro h; rw [hn, Bool.false_and] at h; cases h)]
           exact wpAny_pure hQ))

def Itt (K : PySem.W.Frag) (a : Addr) : It :=
  ⟨fun i H => ∃ xs x, SqT K H a xs ∧ xs[i]? = some x, fun i H x H' => H' = H ∧ ∀ xs, SqT K H a xs → xs[i]? = some x, fun i H => ∃ xs, SqT K H a xs ∧ xs.length ≤ i⟩
theorem turn_tuple {P : Program} {w : World} {K : PySem.W.Frag} {tg : Expr} (a it : Addr) : Turn P w K tg (Itt K a) [it] it (fun i h => h.IsTupleIter it a i) where
  mem := by simp
  obj := fun i h st b hb => by
    have e : b = it := by simpa using hb
    subst e
    obtain ⟨o, e, c, d⟩ := st
    exact ⟨o, e, fun v z => by rw [d] at z; cases z⟩
  keep := fun i h h' st k => st.at fun o e => k it (by simp) o e
  item := by
    intro X hP hw hK hc i pins s σ H E I hf st hg
    subst hP hw hK
    obtain ⟨xs, x, hq, hx⟩ := hg
    obtain ⟨its, rv, p, hz⟩ := I.tuple hq
    obtain ⟨u, hu, ru⟩ := rv.get hx
    obtain ⟨f0, f1, f2, f3, f4, f5⟩ := hf it (by simp)
    refine wpAny_pyNext_tuple_item st (show s.heap.IsTuple a its.toArray from p) (x := u) (by simpa using hu) fun h' st' sb => ?_
    have I1 : Inv X pins σ H { s with heap := h' } := I.turned (t' := s.toks) (fun b o hb e => (sb.2 b hb).trans e) f0 f1 f3 f4 f5
    obtain ⟨o, e, c, d⟩ := id st'
    exact ⟨u, rfl, go_of (s := { s with heap := h' }) e c d (by decide) ⟨x, H, I1, ru, ⟨rfl, fun ys hy => by rw [I.tuple_inj hy hq]; exact hx⟩, st', fun b hb => (hf b hb).1⟩⟩
  done := by
    intro X hP hw hK hc i pins s σ H E I hf st hg
    subst hP hw hK
    obtain ⟨xs, hq, hx⟩ := hg
    obtain ⟨its, rv, p, hz⟩ := I.tuple hq
    obtain ⟨f0, f1, f2, f3, f4, f5⟩ := hf it (by simp)
    have hl := rv.length
    exact wpAny_pyNext_tuple_end (I.ok.hd hc) st (show s.heap.IsTuple a its.toArray from p) (by simp; omega) fun h' eb => ⟨rfl, I.turned (t' := s.toks) (fun b o hb e => eb b o hb e) f0 f1 f3 f4 f5⟩
  self := fun _ _ _ _ _ st h => wpAny_pyIter_tupleiter st h
end L2

namespace L2
open PySem PySem.Spec PyProof.Rows
section
variable {X : Cx} {tg : Expr}
def iTup (K : PySem.W.Frag) (tl : TE) : TI := fun σ H R => tl σ H fun x H1 => ∃ a, x = .ref a ∧ (∃ xs, SqT K H1 a xs) ∧ R (Itt K a) H1
theorem pi_tup {l : Expr} {tl : TE} (hl : PE X l tl) : PI X tg l (iTup X.K tl) := by
  intro pins s σ H R I h
  refine thn (hl pins s σ H _ I h) fun v s1 ⟨x, H1, I1, r1, q1⟩ => ?_
  obtain ⟨a, e, ⟨xs, hq⟩, q⟩ := q1
  subst e
  cases r1
  obtain ⟨its, rv, p, hz⟩ := I1.tuple hq
  refine wpAny_pyIter_tuple (show s1.heap.IsTuple a its.toArray from p) ?_
  refine ⟨s1.heap.objs.size, [s1.heap.objs.size], _, _, H1, rfl, I1.kept (t' := s1.toks) fun b o e => Heap.get?_push_of_some _ e, turn_tuple a _, ⟨_, Heap.get?_push_size _ rfl, rfl, rfl⟩, fun b hb => ?_, q⟩
  have e : b = s1.heap.objs.size := by simpa using hb
  subst e
  exact I1.fpOk (Nat.le_refl _) (I1.hok.fresh (Nat.le_refl _))
/-- W: the invariant by the turn and a measure; N: what the body is to reach -/
def tFor (wi : TI) (g : TG) (tb : TS) : TS := fun D σ H => wi σ H fun J H1 => ∃ W : Nat → Nat → St → Hp → Prop, (∃ m, W 0 m σ H1) ∧ ∀ i m σ H, W i m σ H →
  (J.stop i H ∧ D.nx σ H) ∨ (J.go i H ∧ ∃ N : St → Hp → Prop, (∀ σ' H', N σ' H' → ∃ m', m' < m ∧ W (i + 1) m' σ' H') ∧ ∀ x H', J.yld i H x H' → g x σ H' fun σ2 H2 => tb { D with nx := N, ct := N, bk := D.nx } σ2 H2)
/-- the records at fp as they stand -/
def pinsAt (fp : List Addr) (h : Heap) : List (Addr × Obj) := fp.filterMap fun b => (h.get? b).map fun o => (b, o)
theorem mem_pinsAt {fp : List Addr} {h : Heap} {b : Addr} {o : Obj} (hb : b ∈ fp) (e : h.get? b = some o) : (b, o) ∈ pinsAt fp h := List.mem_filterMap.mpr ⟨b, hb, by rw [e]; rfl⟩
theorem of_pinsAt {fp : List Addr} {h : Heap} {p : Addr × Obj} (hp : p ∈ pinsAt fp h) : p.1 ∈ fp ∧ h.get? p.1 = some p.2 := by
  obtain ⟨b, hb, e⟩ := List.mem_filterMap.mp hp
  cases q : h.get? b with
  | none => rw [q] at e; cases e
  | some o =>
    rw [q] at e
    have e' : (b, o) = p := Option.some.inj e
    subst e'
    exact ⟨hb, q⟩
theorem Inv.pinned {pins : List (Addr × Obj)} {σ : St} {H : Hp} {s : Shared} {fp : List Addr} (I : Inv X pins σ H s) (hf : ∀ b ∈ fp, FpOk X pins H b) (ho : ∀ b ∈ fp, ∃ o, s.heap.get? b = some o ∧ ∀ v, o.data ≠ .cell v) : Inv X (pins ++ pinsAt fp s.heap) σ H s :=
  I.pins_of fun p hp => (List.mem_append.mp hp).elim (fun z => I.pin p (List.mem_append_right _ z)) fun z => by
    obtain ⟨hb, e⟩ := of_pinsAt z
    obtain ⟨f0, f1, f2, _⟩ := hf p.1 hb
    obtain ⟨o, e', d⟩ := ho p.1 hb
    rw [e] at e'; cases e'
    exact ⟨e, f0, f1, f2, d⟩
theorem Inv.unpinned {pins pl : List (Addr × Obj)} {σ : St} {H : Hp} {s : Shared} (I : Inv X (pins ++ pl) σ H s) : Inv X pins σ H s := I.pins_of fun p hp => I.pin p (List.mem_append_right _ (List.mem_append_left _ hp))
theorem ps_for {iter : Expr} {body : List Stmt} {wi : TI} {g : TG} {tb : TS} {pos : Pos} (hp : PassesOwn (model X.prog X.w) X.A X.env X.xe) (hc : X.calm = true) (hi : PI X tg iter wi) (hg : PG X tg g) (hb : PSs X body tb)
    (hs : ∀ x, foldedSetIterable iter X.env x = pure x := by intro _; rfl) : PS X (.For tg iter body [] pos) (tFor wi g tb) := by
  intro pins s σ H D I h
  refine wpAny_For (thn (hi pins s σ H _ I h) fun v s1 h1 => thn h1 fun itv s2 h2 => ?_) hs
  obtain ⟨it, fp, tn, J, H2, e, I2, T, st2, f2, W, ⟨m0, w0⟩, turn⟩ := h2
  subst e
  -- what stays true of the iterator's objects through the loop
  have stat : ∀ {H' : Hp}, (∀ b ∈ fp, H' b = none) → ∀ b ∈ fp, FpOk X pins H' b := fun hn b hb => ⟨hn b hb, (f2 b hb).2⟩
  refine codeAny_forLoop_any (fun n s' => ∃ i σ' H', Inv X pins σ' H' s' ∧ tn i s'.heap ∧ (∀ b ∈ fp, H' b = none) ∧ W i n σ' H') ?_ m0 ⟨0, σ, H2, I2, st2, fun b hb => (f2 b hb).1, w0⟩
  rintro n s3 ⟨i, σ3, H3, I3, st3, fr3, w3⟩
  rcases turn i n σ3 H3 w3 with ⟨stop, qn⟩ | ⟨go, N, hN, step⟩
  · refine wpAny_passesOwn hp (thn (T.done X rfl rfl rfl hc i pins s3 σ3 H3 X.xe I3 (stat fr3) st3 stop) fun r s4 ⟨hr, I4⟩ => ?_)
    subst hr
    exact wpAny_execs_nil ⟨σ3, H3, I4, qn⟩
  · refine wpAny_passesOwn hp (thn (T.item X rfl rfl rfl hc i pins s3 σ3 H3 X.xe I3 (stat fr3) st3 go) fun r s4 ⟨u, hr, h4⟩ => ?_)
    subst hr
    refine wpAny_passesOwn hp (thn h4 fun _ s5 ⟨x, H5, I5, r5, y5, st5, fr5⟩ => ?_)
    have I5' := I5.pinned (stat fr5) (T.obj _ _ st5)
    refine wpAny_passesOwn hp (thn (hg _ s5 σ3 H5 x u _ I5' r5 (step x H5 y5)) fun _ s6 ⟨σ6, H6, I6, q6⟩ => ?_)
    refine wpAny_passesOwn hp (thn (hb _ s6 σ6 H6 _ I6 q6) fun f s7 q7 => ?_)
    have again : ∀ {σ7 : St} {H7 : Hp}, Inv X (pins ++ pinsAt fp s5.heap) σ7 H7 s7 → N σ7 H7 → ∃ m, m < n ∧ ∃ i σ' H', Inv X pins σ' H' s7 ∧ tn i s7.heap ∧ (∀ b ∈ fp, H' b = none) ∧ W i m σ' H' := fun {σ7 H7} I7 n7 => by
      obtain ⟨m', hm, w7⟩ := hN σ7 H7 n7
      refine ⟨m', hm, i + 1, σ7, H7, I7.unpinned, T.keep _ _ _ st5 fun b hb o e => (I7.pin (b, o) (List.mem_append_right _ (List.mem_append_right _ (mem_pinsAt hb e)))).1, fun b hb => ?_, w7⟩
      obtain ⟨o, e, d⟩ := T.obj _ _ st5 b hb
      exact (I7.pin (b, o) (List.mem_append_right _ (List.mem_append_right _ (mem_pinsAt hb e)))).2.1
    cases f with
    | next => obtain ⟨σ7, H7, I7, n7⟩ := q7; exact again I7 n7
    | cont => obtain ⟨σ7, H7, I7, n7⟩ := q7; exact again I7 n7
    | brk => obtain ⟨σ7, H7, I7, q7⟩ := q7; exact ⟨σ7, H7, I7.unpinned, q7⟩
    | ret v => obtain ⟨x7, σ7, H7, I7, r7, q7⟩ := q7; exact ⟨x7, σ7, H7, I7.unpinned, r7, q7⟩
end

theorem for_tup {K : PySem.W.Frag} {a : Addr} {xs : List V} {g : TG} {tb : TS} {D : Ends} {σ : St} {H : Hp} (Pv : Nat → St → Hp → Prop) (h0 : Pv 0 σ H) (hl : ∀ i σ H, i ≤ xs.length → Pv i σ H → SqT K H a xs)
    (hs : ∀ i x σ H, xs[i]? = some x → Pv i σ H → g x σ H fun σ2 H2 => tb { D with nx := Pv (i + 1), ct := Pv (i + 1), bk := D.nx } σ2 H2) (hd : ∀ σ H, Pv xs.length σ H → D.nx σ H) :
    ∃ W : Nat → Nat → St → Hp → Prop, (∃ m, W 0 m σ H) ∧ ∀ i m σ H, W i m σ H →
      ((Itt K a).stop i H ∧ D.nx σ H) ∨ ((Itt K a).go i H ∧ ∃ N : St → Hp → Prop, (∀ σ' H', N σ' H' → ∃ m', m' < m ∧ W (i + 1) m' σ' H') ∧ ∀ x H', (Itt K a).yld i H x H' → g x σ H' fun σ2 H2 => tb { D with nx := N, ct := N, bk := D.nx } σ2 H2) := by
  refine ⟨fun i m σ H => m = xs.length - i ∧ i ≤ xs.length ∧ Pv i σ H, ⟨xs.length, by simp, Nat.zero_le _, h0⟩, ?_⟩
  rintro i m σ H ⟨rfl, hi, p⟩
  have q := hl i σ H hi p
  by_cases hlt : i < xs.length
  · refine .inr ⟨⟨xs, xs[i], q, by simp [hlt]⟩, Pv (i + 1), fun σ' H' p' => ⟨xs.length - (i + 1), by omega, rfl, hlt, p'⟩, fun x H' y => ?_⟩
    obtain ⟨e, y⟩ := y
    subst e
    exact hs i x σ _ (y xs q) p
  · have e : i = xs.length := by omega
    subst e
    exact .inl ⟨⟨xs, q, Nat.le_refl _⟩, hd σ H p⟩
end L2

namespace L2
open PySem PySem.Spec PyProof.Rows

abbrev R2 := V → V → Hp → VK → Prop
/-- a two-place operation on values: f is binaryOp op, inplaceOp op or compareOp op -/
def OpR (X : Cx) (f : Value → Value → Sem Value) (r : R2) : Prop :=
  ∀ (pins : List (Addr × Obj)) (s : Shared) (σ : St) (H : Hp) (x y : V) (v u : Value) (Q : VK), Inv X pins σ H s → RelV x v → RelV y u → r x y H Q →
    wpAny (model X.prog X.w) X.A (f v u) (EP X pins σ Q) X.xe s
/-- a one-place operation -/
def UnR (X : Cx) (f : Value → Sem Value) (r : V → Hp → VK → Prop) : Prop :=
  ∀ (pins : List (Addr × Obj)) (s : Shared) (σ : St) (H : Hp) (x : V) (v : Value) (Q : VK), Inv X pins σ H s → RelV x v → r x H Q →
    wpAny (model X.prog X.w) X.A (f v) (EP X pins σ Q) X.xe s
/-- a call of a value that is known (a builtin, a type) with values -/
def CallR (X : Cx) (f : Value) (r : List V → Hp → VK → Prop) : Prop :=
  ∀ (pins : List (Addr × Obj)) (s : Shared) (σ : St) (H : Hp) (xs : List V) (us : List Value) (Q : VK), Inv X pins σ H s → Vals xs us → r xs H Q →
    wpAny (model X.prog X.w) X.A (call f us) (EP X pins σ Q) X.xe s
def tOp (r : R2) (ta tb : TE) : TE := fun σ H Q => ta σ H fun x H1 => tb σ H1 fun y H2 => r x y H2 Q
def tUn (r : V → Hp → VK → Prop) (ta : TE) : TE := fun σ H Q => ta σ H fun x H1 => r x H1 Q
/-- ints in, under C, and a value out -/
def rI (C : Int → Int → Prop) (g : Int → Int → V) : R2 := fun x y H Q => ∃ i j, x = .int i ∧ y = .int j ∧ C i j ∧ Q (g i j) H
def rI0 (g : Int → Int → V) : R2 := fun x y H Q => ∃ i j, x = .int i ∧ y = .int j ∧ Q (g i j) H
def rU (g : Int → V) : V → Hp → VK → Prop := fun x H Q => ∃ i, x = .int i ∧ Q (g i) H

section
variable {X : Cx} {a b c : Expr} {ta tb tc : TE} {pos : Pos}

theorem binT (ha : PE X a ta) (hb : PE X b tb) {pins : List (Addr × Obj)} {s : Shared} {σ : St} {H : Hp} {R : V → V → Hp → Prop} (I : Inv X pins σ H s)
    (h : ta σ H fun x H1 => tb σ H1 fun y H2 => R x y H2) {Q : Value → Shared → Prop} {f : Value → Value → Sem Value}
    (hf : ∀ v u s2 x y H2, Inv X pins σ H2 s2 → RelV x v → RelV y u → R x y H2 → wpAny (model X.prog X.w) X.A (f v u) Q X.xe s2) :
    wpAny (model X.prog X.w) X.A (eval a X.env) (fun v s₁ => wpAny (model X.prog X.w) X.A (eval b X.env) (fun u s₂ => wpAny (model X.prog X.w) X.A (f v u) Q X.xe s₂) X.xe s₁) X.xe s := by
  refine thn (ha pins s σ H _ I h) fun v s1 ⟨x, H1, I1, r1, q1⟩ => ?_
  refine thn (hb pins s1 σ H1 _ I1 q1) fun u s2 ⟨y, H2, I2, r2, q2⟩ => ?_
  exact hf v u s2 x y H2 I2 r1 r2 q2

theorem pe_op {op : Operator} {r : R2} (ho : OpR X (binaryOp op) r) (ha : PE X a ta) (hb : PE X b tb) : PE X (.BinOp a op b pos) (tOp r ta tb) := by
  intro pins s σ H Q I h
  exact wpAny_BinOp (binT ha hb I h fun v u s2 x y H2 I2 rx ry q => ho pins s2 σ H2 x y v u Q I2 rx ry q)
theorem pe_un {op : UnaryOp} {r : V → Hp → VK → Prop} (ho : UnR X (unaryOp op) r) (ha : PE X a ta) : PE X (.UnaryOp op a pos) (tUn r ta) := by
  intro pins s σ H Q I h
  exact UnaryOp_ (thn (ha pins s σ H _ I h) fun v s1 ⟨x, H1, I1, r1, q1⟩ => ho pins s1 σ H1 x v Q I1 r1 q1)
theorem opI {f : Value → Value → Sem Value} {C : Int → Int → Prop} {g : Int → Int → Int}
    (rule : ∀ (i j : Int) (t u : Tok) (s : Shared) (Q : Value → Shared → Prop) (E : Value → Shared → Prop), C i j → Q (.int (g i j) s.toks) { s with toks := s.toks + 1 } → wpAny (model X.prog X.w) X.A (f (.int i t) (.int j u)) Q E s) :
    OpR X f (rI C fun i j => .int (g i j)) := by
  intro pins s σ H x y v u Q I rx ry h
  obtain ⟨i, j, rfl, rfl, hc, q⟩ := h
  obtain ⟨t, rfl⟩ := rx
  obtain ⟨t', rfl⟩ := ry
  exact rule i j t t' s _ _ hc ⟨.int (g i j), H, I.tok _, ⟨_, rfl⟩, q⟩
theorem opI0 {f : Value → Value → Sem Value} {g : Int → Int → Int}
    (rule : ∀ (i j : Int) (t u : Tok) (s : Shared) (Q : Value → Shared → Prop) (E : Value → Shared → Prop), Q (.int (g i j) s.toks) { s with toks := s.toks + 1 } → wpAny (model X.prog X.w) X.A (f (.int i t) (.int j u)) Q E s) :
    OpR X f (rI0 fun i j => .int (g i j)) := by
  intro pins s σ H x y v u Q I rx ry h
  obtain ⟨i, j, rfl, rfl, q⟩ := h
  obtain ⟨t, rfl⟩ := rx
  obtain ⟨t', rfl⟩ := ry
  exact rule i j t t' s _ _ ⟨.int (g i j), H, I.tok _, ⟨_, rfl⟩, q⟩
theorem opB0 {f : Value → Value → Sem Value} {g : Int → Int → Bool}
    (rule : ∀ (i j : Int) (t u : Tok) (s : Shared) (Q : Value → Shared → Prop) (E : Value → Shared → Prop), Q (.bool (g i j)) s → wpAny (model X.prog X.w) X.A (f (.int i t) (.int j u)) Q E s) :
    OpR X f (rI0 fun i j => .bl (g i j)) := by
  intro pins s σ H x y v u Q I rx ry h
  obtain ⟨i, j, rfl, rfl, q⟩ := h
  obtain ⟨t, rfl⟩ := rx
  obtain ⟨t', rfl⟩ := ry
  exact rule i j t t' s _ _ ⟨.bl (g i j), H, I, rfl, q⟩

def CPow (i j : Int) : Prop := 0 ≤ j ∧ j ≤ 1000000 ∧ i.natAbs < 2 ^ 64
def CMul (i j : Int) : Prop := (-(2 ^ 64) < i ∧ i < 2 ^ 64) ∨ (-(2 ^ 64) < j ∧ j < 2 ^ 64)
theorem CMul.ok {i j : Int} (h : CMul i j) : IntMulOk i j := by
  rcases h with ⟨h1, h2⟩ | ⟨h1, h2⟩
  · exact .of_left (intBits_le_64 h1 h2)
  · exact .of_right (intBits_le_64 h1 h2)
theorem two_pow_nn (k : Nat) : (0 : Int) ≤ 2 ^ k := by
  rw [two_pow_cast]
  exact Int.natCast_nonneg _

theorem op_add : OpR X (binaryOp .Add) (rI0 fun i j => .int (i + j)) := opI0 fun _ _ _ _ _ _ _ q => add_int q
theorem op_sub : OpR X (binaryOp .Sub) (rI0 fun i j => .int (i - j)) := opI0 fun _ _ _ _ _ _ _ q => sub_int q
theorem op_mul : OpR X (binaryOp .Mult) (rI CMul fun i j => .int (i * j)) := opI fun _ _ _ _ _ _ _ hc q => mul_int q hc.ok
/-- % by a positive divisor of any size -/
theorem op_mod : OpR X (binaryOp .Mod) (rI (fun _ j => 0 < j) fun i j => .int (i % j)) := opI fun i j _ _ _ _ _ hc q => by
  have h1 : (0 : Int) < j := hc
  exact mod_int' (by omega) (by rw [Int.fmod_eq_emod_of_nonneg i (by omega)]; exact q)
theorem op_shl : OpR X (binaryOp .LShift) (rI CPow fun i j => .int (i * 2 ^ j.toNat)) := opI fun _ _ _ _ _ _ _ hc q => lshift_int_small hc.1 hc.2.1 hc.2.2 q
theorem op_shr : OpR X (binaryOp .RShift) (rI (fun _ j => 0 ≤ j) fun i j => .int (i / 2 ^ j.toNat)) := opI fun i j _ _ _ _ _ hc q =>
  rshift_int hc (by rw [Int.fdiv_eq_ediv_of_nonneg i (two_pow_nn _)]; exact q)
theorem op_and : OpR X (binaryOp .BitAnd) (rI0 fun i j => .int (Builtin.bitAnd i j)) := opI0 fun _ _ _ _ _ _ _ q => and_int q
theorem op_or : OpR X (binaryOp .BitOr) (rI0 fun i j => .int (Builtin.bitOr i j)) := opI0 fun _ _ _ _ _ _ _ q => or_int q
theorem op_xor : OpR X (binaryOp .BitXor) (rI0 fun i j => .int (Builtin.bitXor i j)) := opI0 fun _ _ _ _ _ _ _ q => xor_int q

theorem unI {f : Value → Sem Value} {g : Int → Int}
    (rule : ∀ (i : Int) (t : Tok) (s : Shared) (Q : Value → Shared → Prop) (E : Value → Shared → Prop), Q (.int (g i) s.toks) { s with toks := s.toks + 1 } → wpAny (model X.prog X.w) X.A (f (.int i t)) Q E s) :
    UnR X f (rU fun i => .int (g i)) := by
  intro pins s σ H x v Q I rx h
  obtain ⟨i, rfl, q⟩ := h
  obtain ⟨t, rfl⟩ := rx
  exact rule i t s _ _ ⟨.int (g i), H, I.tok _, ⟨_, rfl⟩, q⟩
theorem un_neg : UnR X (unaryOp .USub) (rU fun i => .int (-i)) := unI fun _ _ _ _ _ q => neg_int q
end

/-- the scalars that == tells apart as data does -/
def scal : V → V → Bool
  | .non, .non => true | .non, .int _ => true | .int _, .non => true | .non, .bl _ => true | .bl _, .non => true | .non, .str _ => true | .str _, .non => true
  | .int _, .int _ => true | .bl _, .bl _ => true | .str _, .str _ => true | .byt _, .byt _ => true
  | .int _, .str _ => true | .str _, .int _ => true | .bl _, .str _ => true | .str _, .bl _ => true
  | _, _ => false
def rEq : R2 := fun x y H Q => scal x y = true ∧ Q (.bl (decide (x = y))) H
def rNe : R2 := fun x y H Q => scal x y = true ∧ Q (.bl (!decide (x = y))) H

theorem dec_int {i j : Int} : decide (V.int i = V.int j) = (i == j) := by
  rw [Bool.eq_iff_iff]
  simp
theorem dec_bl {i j : Bool} : decide (V.bl i = V.bl j) = (i == j) := by
  rw [Bool.eq_iff_iff]
  simp
theorem dec_str {i j : Str} : decide (V.str i = V.str j) = (i == j) := by
  rw [Bool.eq_iff_iff]
  simp
theorem dec_byt {i j : Array UInt8} : decide (V.byt i = V.byt j) = (i.toList == j.toList) := by
  rw [Bool.eq_iff_iff]
  cases i
  cases j
  simp

section
variable {X : Cx} {a b c : Expr} {ta tb tc : TE} {pos : Pos}
theorem fin_bl {pins : List (Addr × Obj)} {σ : St} {H : Hp} {s : Shared} {Q : VK} {k k' : Bool} (I : Inv X pins σ H s) (q : Q (.bl k) H) (e : k = k') : EP X pins σ Q (.bool k') s := by
  subst e
  exact ⟨.bl k, H, I, rfl, q⟩
theorem op_eq : OpR X (compareOp .Eq) rEq := by
  intro pins s σ H x y v u Q I rx ry h
  obtain ⟨hs, q⟩ := h
  cases x with
  | non =>
    cases rx
    cases y with
    | non => cases ry; exact PySem.EqNone.eq_none_none (fin_bl I q (by simp))
    | bl j => cases ry; exact PySem.EqNone.eq_none_bool (fin_bl I q (by simp))
    | int j => obtain ⟨t', rfl⟩ := ry; exact PySem.EqNone.eq_none_int (fin_bl I q (by simp))
    | str j => obtain ⟨t', rfl⟩ := ry; exact PySem.EqNone.eq_none_str (fin_bl I q (by simp))
    | _ => exact absurd (show false = true from hs) Bool.false_ne_true
  | bl i =>
    cases rx
    cases y with
    | non => cases ry; exact PySem.EqNone.eq_bool_none (fin_bl I q (by simp))
    | bl j => cases ry; exact eq_bool (fin_bl I q dec_bl)
    | str j => obtain ⟨t', rfl⟩ := ry; exact PySem.EqMixed.eq_bool_str (fin_bl I q (by simp))
    | _ => exact absurd (show false = true from hs) Bool.false_ne_true
  | int i =>
    obtain ⟨t, rfl⟩ := rx
    cases y with
    | non => cases ry; exact PySem.EqNone.eq_int_none (fin_bl I q (by simp))
    | int j => obtain ⟨t', rfl⟩ := ry; exact eq_int (fin_bl I q dec_int)
    | str j => obtain ⟨t', rfl⟩ := ry; exact PySem.EqMixed.eq_int_str (fin_bl I q (by simp))
    | _ => exact absurd (show false = true from hs) Bool.false_ne_true
  | str i =>
    obtain ⟨t, rfl⟩ := rx
    cases y with
    | non => cases ry; exact PySem.EqNone.eq_str_none (fin_bl I q (by simp))
    | bl j => cases ry; exact PySem.EqMixed.eq_str_bool (fin_bl I q (by simp))
    | int j => obtain ⟨t', rfl⟩ := ry; exact PySem.EqMixed.eq_str_int (fin_bl I q (by simp))
    | str j => obtain ⟨t', rfl⟩ := ry; exact eq_str (fin_bl I q dec_str)
    | _ => exact absurd (show false = true from hs) Bool.false_ne_true
  | byt i =>
    obtain ⟨t, rfl⟩ := rx
    cases y with
    | byt j => obtain ⟨t', rfl⟩ := ry; exact PySem.W.eq_bytes (fin_bl I q dec_byt)
    | _ => exact absurd (show false = true from hs) Bool.false_ne_true
  | _ => cases y <;> exact absurd (show false = true from hs) Bool.false_ne_true
theorem op_ne : OpR X (compareOp .NotEq) rNe := by
  intro pins s σ H x y v u Q I rx ry h
  obtain ⟨hs, q⟩ := h
  cases x with
  | non =>
    cases rx
    cases y with
    | non => cases ry; exact PySem.EqNone.ne_none_none (fin_bl I q (by simp))
    | bl j => cases ry; exact PySem.EqNone.ne_none_bool (fin_bl I q (by simp))
    | int j => obtain ⟨t', rfl⟩ := ry; exact PySem.EqNone.ne_none_int (fin_bl I q (by simp))
    | str j => obtain ⟨t', rfl⟩ := ry; exact PySem.EqNone.ne_none_str (fin_bl I q (by simp))
    | _ => exact absurd (show false = true from hs) Bool.false_ne_true
  | bl i =>
    cases rx
    cases y with
    | non => cases ry; exact PySem.EqNone.ne_bool_none (fin_bl I q (by simp))
    | bl j => cases ry; exact ne_bool (fin_bl I q (congrArg not dec_bl))
    | str j => obtain ⟨t', rfl⟩ := ry; exact PySem.EqMixed.ne_bool_str (fin_bl I q (by simp))
    | _ => exact absurd (show false = true from hs) Bool.false_ne_true
  | int i =>
    obtain ⟨t, rfl⟩ := rx
    cases y with
    | non => cases ry; exact PySem.EqNone.ne_int_none (fin_bl I q (by simp))
    | int j => obtain ⟨t', rfl⟩ := ry; exact ne_int (fin_bl I q (congrArg not dec_int))
    | str j => obtain ⟨t', rfl⟩ := ry; exact PySem.EqMixed.ne_int_str (fin_bl I q (by simp))
    | _ => exact absurd (show false = true from hs) Bool.false_ne_true
  | str i =>
    obtain ⟨t, rfl⟩ := rx
    cases y with
    | non => cases ry; exact PySem.EqNone.ne_str_none (fin_bl I q (by simp))
    | bl j => cases ry; exact PySem.EqMixed.ne_str_bool (fin_bl I q (by simp))
    | int j => obtain ⟨t', rfl⟩ := ry; exact PySem.EqMixed.ne_str_int (fin_bl I q (by simp))
    | str j => obtain ⟨t', rfl⟩ := ry; exact ne_str (fin_bl I q (congrArg not dec_str))
    | _ => exact absurd (show false = true from hs) Bool.false_ne_true
  | byt i =>
    obtain ⟨t, rfl⟩ := rx
    cases y with
    | byt j => obtain ⟨t', rfl⟩ := ry; exact PySem.W.ne_bytes (fin_bl I q (congrArg not dec_byt))
    | _ => exact absurd (show false = true from hs) Bool.false_ne_true
  | _ => cases y <;> exact absurd (show false = true from hs) Bool.false_ne_true

theorem op_lt : OpR X (compareOp .Lt) (rI0 fun i j => .bl (decide (i < j))) := opB0 fun _ _ _ _ _ _ _ q => lt_int q
theorem op_le : OpR X (compareOp .LtE) (rI0 fun i j => .bl (decide (i ≤ j))) := opB0 fun _ _ _ _ _ _ _ q => le_int q
theorem op_gt : OpR X (compareOp .Gt) (rI0 fun i j => .bl (decide (j < i))) := opB0 fun _ _ _ _ _ _ _ q => gt_int q
theorem op_ge : OpR X (compareOp .GtE) (rI0 fun i j => .bl (decide (j ≤ i))) := opB0 fun _ _ _ _ _ _ _ q => ge_int q
theorem nomark (b : Expr) {op : CmpOp} (h : op ≠ .In := by decide) (h2 : op ≠ .NotIn := by decide) : behindInMarks op b = false := by
  have e1 : (op == CmpOp.In) = false := by cases op <;> first | rfl | exact absurd rfl h
  have e2 : (op == CmpOp.NotIn) = false := by cases op <;> first | rfl | exact absurd rfl h2
  cases b <;> simp [behindInMarks, e1, e2]
/-- a comparison as a value; hm: nomark b, or (for in, not in) by with_unfolding_all rfl -/
theorem pe_cmpR {op : CmpOp} {r : R2} (ho : OpR X (compareOp op) r) (ha : PE X a ta) (hb : PE X b tb) (hm : behindInMarks op b = false) : PE X (.Compare a [op] [b] pos) (tOp r ta tb) := by
  intro pins s σ H Q I h
  exact wpAny_Compare1 (binT ha hb I h fun v u s2 x y H2 I2 rx ry q => ho pins s2 σ H2 x y v u Q I2 rx ry q) hm
/-- a reading of a value as a test -/
def tTest (t : TE) : TT := fun σ H Q => t σ H fun x H' => ∃ k, x = .bl k ∧ Q k H'
theorem pt_cmpR {op : CmpOp} {r : R2} (ho : OpR X (compareOp op) r) (ha : PE X a ta) (hb : PE X b tb) (hm : behindInMarks op b = false) : PT X (.Compare a [op] [b] pos) (tTest (tOp r ta tb)) := by
  intro pins s σ H Q I h
  refine wpAny_isTrue_Compare1 (thn (ha pins s σ H _ I h) fun v s1 ⟨x, H1, I1, r1, q1⟩ => thn (hb pins s1 σ H1 _ I1 q1) fun u s2 ⟨y, H2, I2, r2, q2⟩ =>
    thn (ho pins s2 σ H2 x y v u _ I2 r1 r2 q2) fun c s3 ⟨z, H3, I3, r3, k, e, q3⟩ => ?_) hm
  subst e
  cases r3
  exact wpAny_truthy_bool ⟨H3, I3, q3⟩
/-- a op1 b op2 c -/
def tChain (r r' : R2) (ta tb tc : TE) : TE := fun σ H Q => ta σ H fun x H1 => tb σ H1 fun y H2 => r x y H2 fun z H3 => ∃ k, z = .bl k ∧
  (if k = true then tc σ H3 fun w' H4 => r' y w' H4 Q else Q (.bl false) H3)
theorem pt_chain {op op' : CmpOp} {r r' : R2} (ho : OpR X (compareOp op) r) (ho' : OpR X (compareOp op') r') (ha : PE X a ta) (hb : PE X b tb) (hc : PE X c tc)
    (hm : lastMarks [op, op'] [b, c] = false := by with_unfolding_all rfl) : PT X (.Compare a [op, op'] [b, c] pos) (tTest (tChain r r' ta tb tc)) := by
  intro pins s σ H Q I h
  refine isTrue_chain (thn (ha pins s σ H _ I h) fun v s1 ⟨x, H1, I1, r1, q1⟩ => test_link (thn (hb pins s1 σ H1 _ I1 q1) fun u s2 ⟨y, H2, I2, r2, q2⟩ =>
    thn (ho pins s2 σ H2 x y v u _ I2 r1 r2 q2) fun d s3 ⟨z, H3, I3, r3, k, e, q3⟩ => ?_)) hm
  subst e
  cases r3
  refine wpAny_truthy_bool ?_
  cases k with
  | false =>
    obtain ⟨k', e', q'⟩ := q3
    cases e'
    exact ite_ff ⟨H3, I3, q'⟩
  | true =>
    refine ite_tt (test_last (thn (hc pins s3 σ H3 _ I3 q3) fun w' s4 ⟨z', H4, I4, r4, q4⟩ => thn (ho' pins s4 σ H4 y z' u w' _ I4 r2 r4 q4) fun d' s5 ⟨z2, H5, I5, r5, k2, e2, q5⟩ => ?_))
    subst e2
    cases r5
    exact wpAny_truthy_bool ⟨H5, I5, q5⟩

/-- a value's truth by the abstract heap -/
def TruV (K : PySem.W.Frag) (x : V) (H : Hp) (k : Bool) : Prop :=
  match x with
  | .non => k = false
  | .bl b => k = b
  | .int i => k = (i != 0)
  | .str y => y.length ≤ sizeLine ∧ k = ((y.length : Int) != 0)
  | .byt y => y.size ≤ sizeLine ∧ k = ((y.size : Int) != 0)
  | .ref p => (∃ xs, SqL K H p xs ∧ k = !xs.isEmpty) ∨ (∃ xs, SqT K H p xs ∧ k = !xs.isEmpty) ∨ ∃ kvs, H p = some (.dK kvs) ∧ k = !kvs.isEmpty
  | _ => False
theorem line63 : (sizeLine : Nat) < 2 ^ 63 := by rw [sizeLine_eq]; decide
theorem vals1 {x : V} {us : List Value} (r : Vals [x] us) : ∃ u, us = [u] ∧ RelV x u := by
  cases r with
  | cons r1 r2 => cases r2; exact ⟨_, rfl, r1⟩
theorem vals2 {x y : V} {us : List Value} (r : Vals [x, y] us) : ∃ u w', us = [u, w'] ∧ RelV x u ∧ RelV y w' := by
  cases r with
  | cons r1 r2 =>
    cases r2 with
    | cons r3 r4 => cases r4; exact ⟨_, _, rfl, r1, r3⟩
theorem call_abs : CallR X (.builtin "abs") (fun xs H Q => ∃ i, xs = [.int i] ∧ Q (.int (if i < 0 then -i else i)) H) := by
  intro pins s σ H xs us Q I r h
  obtain ⟨i, rfl, q⟩ := h
  obtain ⟨u, rfl, t, rfl⟩ := vals1 r
  exact call_abs_int fun u tk => ⟨.int (if i < 0 then -i else i), H, I.tok _, ⟨_, rfl⟩, q⟩
theorem call_max2 (hc : X.calm = true) : CallR X (.builtin "max") (fun xs H Q => ∃ i j, xs = [.int i, .int j] ∧ Q (.int (if j > i then j else i)) H) := by
  intro pins s σ H xs us Q I r h
  obtain ⟨i, j, rfl, q⟩ := h
  obtain ⟨u, w', rfl, ⟨t, rfl⟩, ⟨t', rfl⟩⟩ := vals2 r
  refine max_two_ints (I.ok.hd hc) fun h' tk k => ⟨_, H, I.kept k, ?_, q⟩
  by_cases hj : j > i
  · rw [if_pos hj, if_pos hj]; exact ⟨_, rfl⟩
  · rw [if_neg hj, if_neg hj]; exact ⟨_, rfl⟩
theorem call_min2 (hc : X.calm = true) : CallR X (.builtin "min") (fun xs H Q => ∃ i j, xs = [.int i, .int j] ∧ Q (.int (if j < i then j else i)) H) := by
  intro pins s σ H xs us Q I r h
  obtain ⟨i, j, rfl, q⟩ := h
  obtain ⟨u, w', rfl, ⟨t, rfl⟩, ⟨t', rfl⟩⟩ := vals2 r
  refine min_two_ints (I.ok.hd hc) fun h' tk k => ⟨_, H, I.kept k, ?_, q⟩
  by_cases hj : j < i
  · rw [if_pos hj, if_pos hj]; exact ⟨_, rfl⟩
  · rw [if_neg hj, if_neg hj]; exact ⟨_, rfl⟩
/-- len of a str, a bytes, a list, a tuple -/
def LenV (K : PySem.W.Frag) (x : V) (H : Hp) (n : Nat) : Prop :=
  match x with
  | .str y => y.length ≤ sizeLine ∧ n = y.length
  | .byt y => y.size ≤ sizeLine ∧ n = y.size
  | .ref p => (∃ xs, SqL K H p xs ∧ n = xs.length) ∨ ∃ xs, SqT K H p xs ∧ n = xs.length
  | _ => False
theorem call_len : CallR X (.builtin "len") (fun xs H Q => ∃ x n, xs = [x] ∧ LenV X.K x H n ∧ Q (.int n) H) := by
  intro pins s σ H xs us Q I r h
  obtain ⟨x, n, rfl, e, q⟩ := h
  obtain ⟨u, rfl, rx⟩ := vals1 r
  have hl := line63
  have hs : sizeLine = 16777216 := sizeLine_eq
  cases x with
  | str y =>
    obtain ⟨t, rfl⟩ := rx
    obtain ⟨hy, e'⟩ : y.length ≤ sizeLine ∧ n = y.length := e
    subst e'
    exact len_str (by omega) ⟨.int _, H, I.tok _, ⟨_, rfl⟩, q⟩
  | byt y =>
    obtain ⟨t, rfl⟩ := rx
    obtain ⟨hy, e'⟩ : y.size ≤ sizeLine ∧ n = y.size := e
    subst e'
    exact PySem.W.len_bytes (by omega) ⟨.int _, H, I.tok _, ⟨_, rfl⟩, q⟩
  | ref p =>
    cases rx
    have e' : (∃ xs, SqL X.K H p xs ∧ n = xs.length) ∨ ∃ xs, SqT X.K H p xs ∧ n = xs.length := e
    rcases e' with ⟨xs, hx, e'⟩ | ⟨xs, hx, e'⟩
    · subst e'
      obtain ⟨its, r', pl, hz⟩ := I.list hx
      have hlen := r'.length
      exact Calls.call_len_list pl.isList (by simp only [List.size_toArray]; omega) ⟨.int xs.length, H, I.tok _, ⟨_, by simp only [List.size_toArray]; rw [hlen]⟩, q⟩
    · subst e'
      obtain ⟨its, r', pl, hz⟩ := I.tuple hx
      have hlen := r'.length
      exact len_tuple pl (by simp only [List.size_toArray]; omega) ⟨.int xs.length, H, I.tok _, ⟨_, by simp only [List.size_toArray]; rw [hlen]⟩, q⟩
  | _ => exact (show False from e).elim
end
end L2

namespace L2
open PySem PySem.Spec PyProof.Rows

section
variable {prog : Program} {w : World} {A : Around} {E : Value → Shared → Prop} {s : Shared} {K : PySem.W.Frag} {x dx C f : Addr} {mA : Str → Option Value} {name : Str} {v : Value}

end

def putF (f : Str) (v : V) : List (Str × V) → List (Str × V)
  | [] => [(f, v)]
  | (g, x) :: r => if g = f then (g, v) :: r else (g, x) :: putF f v r
section
variable {P : Program} {w : World} {H H' : Hp} {h h' : Heap} {a C dx : Addr} {fs fs' : List (Str × V)}
end

structure Cls (K : PySem.W.Frag) (C : Addr) : Prop where
  pg : PySem.W.plainGet K C Str.empty = true
  hd : PySem.W.hasDictIn K C = true
  po : PySem.W.plainOver K C = true
  sa : PySem.W.findIn K (.ref C) "__setattr__" = some (some (.builtin "object.__setattr__"))
/-- no class of it has the name -/
def NoAttr (K : PySem.W.Frag) (C : Addr) (f : Str) : Prop := PySem.W.findIn K (.ref C) f = some none
/-- a method: a plain def of the class or of one above it -/
structure Meth (K : PySem.W.Frag) (C : Addr) (m : Str) (f : Addr) : Prop where
  at_ : PySem.W.findIn K (.ref C) m = some (some (.ref f))
  fn : PySem.W.isFn K (.ref f) = true
  kp : PySem.W.keepIn K (.ref f) = true

section
variable {X : Cx} {pins : List (Addr × Obj)} {σ : St} {H : Hp} {s : Shared} {a C dx : Addr} {fs : List (Str × V)} {f : Str} {v : V} {A : Around} {E : Value → Shared → Prop}

end

/-- e.f, an attribute of the instance -/
def tFld (K : PySem.W.Frag) (ta : TE) (f : Str) : TE := fun σ H Q => ta σ H fun x H1 => ∃ a C dx fs v, x = .ref a ∧ H1 a = some (.ins C dx fs) ∧ Cls K C ∧ NoAttr K C f ∧ fs.lookup f = some v ∧ Q v H1
/-- e.f = value -/
def sFld (K : PySem.W.Frag) (ta tv : TE) (f : Str) : TS := fun D σ H => tv σ H fun y H1 => ta σ H1 fun x H2 => ∃ a C dx fs, x = .ref a ∧ H2 a = some (.ins C dx fs) ∧ Cls K C ∧ NoAttr K C f ∧ fs.length < 1000 ∧
  D.nx σ (upd H2 a (.ins C dx (putF f y fs)))
section
variable {X : Cx} {o e value : Expr} {f : Str} {pos pos' tpos : Pos} {ta tv : TE}
end

section
variable {X : Cx} {pins : List (Addr × Obj)} {σ : St} {H : Hp} {s : Shared} {A : Around} {E : Value → Shared → Prop} {Q : Value → Shared → Prop} {c : Value} {b : Bool}
end
end L2

namespace L2
open PySem PySem.Spec PyProof.Rows

structure Room (k : Nat) (A : Around) : Prop where
  hd : A.handled = none
  dp : A.depth + 3 * k + 5 < recursionLimit
  un : A.units + 16 * k + 200 < cLine
theorem Room.mono {j k : Nat} {A : Around} (r : Room k A) (h : j ≤ k) : Room j A := ⟨r.hd, by have := r.dp; omega, by have := r.un; omega⟩
theorem Room.deeper {k : Nat} {A : Around} (r : Room (k + 1) A) (env : Env) : Room k (A.deeper env) :=
  ⟨r.hd, by have := r.dp; show A.depth + 1 + 3 * k + 5 < _; omega, by have := r.un; show A.units + 3 + 16 * k + 200 < _; omega⟩
theorem Room.depth {k : Nat} {A : Around} (r : Room k A) : A.depth < recursionLimit := by have := r.dp; omega
def tNil : TA := fun _ H Q => Q [] H
def tCons (ta : TE) (tr : TA) : TA := fun σ H Q => ta σ H fun x H1 => tr σ H1 fun xs H2 => Q (x :: xs) H2
section
variable {X : Cx} {e : Expr} {es : List Expr} {te : TE} {t : TA} {pos : Pos}
theorem pa_nil : PA X [] tNil := fun _ _ _ _ H Q I h => Calls.spliced_nil ⟨[], H, I, .nil, h⟩
theorem pa_cons (ha : PE X e te) (hr : PA X es t) (hs : starEach (e :: es) X.env = (false, eval e X.env) :: starEach es X.env := by rfl) : PA X (e :: es) (tCons te t) := by
  intro pos pins s σ H Q I h
  rw [hs]
  show wpAny _ _ (spliced ((false, eval e X.env) :: backTo pos (starEach es X.env))) _ _ s
  refine Calls.spliced_cons (thn (ha pins s σ H _ I h) fun u s1 ⟨x, H1, I1, r1, q1⟩ => ?_)
  exact thn (hr pos pins s1 σ H1 _ I1 q1) fun us s2 ⟨xs, H2, I2, r2, q2⟩ => ⟨x :: xs, H2, I2, .cons r1 r2, q2⟩

/-- a tuple, a list of written items -/
def tTup (t : TA) : TE := fun σ H Q => t σ H fun xs H1 => xs.length ≤ sizeLine ∧ ∀ p, H1 p = none → Q (.ref p) (upd H1 p (.tup xs))
def tLst (t : TA) : TE := fun σ H Q => t σ H fun xs H1 => xs.length ≤ sizeLine ∧ ∀ p, H1 p = none → Q (.ref p) (upd H1 p (.lst xs))
theorem pe_tup {x1} (h : PA X es t) : PE X (.Tuple es x1 pos) (tTup t) := by
  intro pins s σ H Q I hq
  refine wpAny_Tuple_spliced (thn (h pos pins s σ H _ I hq) fun us s1 ⟨xs, H1, I1, r, z, q⟩ => ⟨by rw [← r.length]; exact z, ?_⟩)
  have hf : H1 s1.heap.objs.size = none := I1.hok.fresh (Nat.le_refl _)
  refine ⟨.ref s1.heap.objs.size, upd H1 s1.heap.objs.size (.tup xs), I1.laid (t' := s1.toks) (fun b u e => Heap.get?_push_of_some _ e) (Nat.le_refl _) ?_, rfl, q _ hf⟩
  exact ⟨z, us, r, ⟨_, Heap.get?_push_size _ rfl, rfl, _, rfl⟩⟩
theorem pe_lst (h : PA X es t) : PE X (.List es pos) (tLst t) := by
  intro pins s σ H Q I hq
  refine wpAny_List_spliced (thn (h pos pins s σ H _ I hq) fun us s1 ⟨xs, H1, I1, r, z, q⟩ => ⟨by rw [← r.length]; exact z, ?_⟩)
  have hf : H1 s1.heap.objs.size = none := I1.hok.fresh (Nat.le_refl _)
  refine ⟨.ref s1.heap.objs.size, upd H1 s1.heap.objs.size (.lst xs), I1.laid (t' := s1.toks) (fun b u e => Heap.get?_push_of_some _ e) (Nat.le_refl _) ?_, rfl, q _ hf⟩
  exact ⟨z, us, 0, r, Heap.get?_push_size _ rfl⟩
end

/-- a def's promise: the bound arguments in the parameters' order, the heap, the wanted end, the wanted exception -/
abbrev Sp := List V → Hp → VK → XK → Prop
/-- how an exception lies behind a call (file 08 gives it): the callers' frames, abstract heap and state ahead of the call, the wish, the exception, the state -/
abbrev CXT := List Env → Hp → Shared → XK → Value → Shared → Prop

/-- the state at a call -/
structure Env0 (P : Program) (w : World) (K : PySem.W.Frag) (mg : Str → Option Value) (base : Heap) (A : Around) (outer : List Env) (s : Shared) (H : Hp) : Prop where
  frames : A.frames = some outer
  mod : Mod K mg base
  bs : ∀ b o, base.get? b = some o → s.heap.get? b = some o ∧ H b = none
  bsz : base.objs.size ≤ s.heap.objs.size
  funs : s.heap.FunFrames base outer
  frf : ∀ b ∈ frs outer, H b = none
  hok : HOk P w H s.heap
  bare : AllBare s.gens
/-- a call's end -/
def CE (outer : List Env) (P : Program) (w : World) (H : Hp) (s : Shared) (Q : VK) (u : Value) (s' : Shared) : Prop :=
  ∃ v H', s'.os = s.os ∧ AllBare s'.gens ∧ Un (frs outer) [] H H' s.heap s'.heap ∧ HOk P w H' s'.heap ∧ RelV v u ∧ Q v H'
def CR (CX : CXT) (outer : List Env) (P : Program) (w : World) (H : Hp) (s : Shared) (Q : VK) (E : XK) (r : Result) (s' : Shared) : Prop :=
  match r with
  | .ok (.ret u) => CE outer P w H s Q u s'
  | .ok _ => False
  | .error e => CX outer H s E e s'
structure FnOk (P : Program) (w : World) (K : PySem.W.Frag) (mg : Str → Option Value) (base : Heap) (CX : CXT) (k : Nat) (f : Addr) (fd : FuncData) (ps : List Str) (sp : Sp) : Prop where
  len : ∀ vs H Q E, sp vs H Q E → vs.length = ps.length
  run : ∀ (A : Around) (outer : List Env) (s : Shared) (H : Hp) (args : Args) (us : List Value) (vs : List V) (Q : VK) (E : XK), Room k A → Env0 P w K mg base A outer s H → BindsTo s fd args (ps.zip us) → Vals vs us → sp vs H Q E →
    codeAny (model P w) A (.call (.ref f) args) (CR CX outer P w H s Q E) s
theorem FnOk.mono {P : Program} {w : World} {K : PySem.W.Frag} {mg : Str → Option Value} {base : Heap} {CX : CXT} {j k : Nat} {f : Addr} {fd : FuncData} {ps : List Str} {sp : Sp} (F : FnOk P w K mg base CX j f fd ps sp) (h : j ≤ k) :
    FnOk P w K mg base CX k f fd ps sp := ⟨F.len, fun A outer s H args us vs Q E hr => F.run A outer s H args us vs Q E (hr.mono h)⟩
section
variable {X : Cx} {pins : List (Addr × Obj)} {σ : St} {H : Hp} {s s' : Shared}
/-- from a body: what a callee wants -/
theorem Inv.env0 (I : Inv X pins σ H s) : Env0 X.prog X.w X.K X.mg X.base X.A X.stack s H :=
  ⟨I.ok.frames, I.ok.mod, I.bs, Nat.le_trans I.ok.bsz I.sz, I.stack, I.stkFree, I.hok, I.bare⟩
/-- behind a call -/
theorem Inv.after {Q : VK} {u : Value} (I : Inv X pins σ H s) (h : CE X.stack X.prog X.w H s Q u s') : EP X pins σ Q u s' := by
  obtain ⟨v, H', os, bare, un, hok, r, q⟩ := h
  obtain ⟨hh, g, d, t, os'⟩ := s'
  obtain rfl : os' = s.os := os
  exact ⟨v, H', I.call (h' := hh) (g' := g) (d' := d) (t' := t) (ch := []) un hok bare (fun b z => absurd z (by simp)), r, q⟩
end

/-- f(..): the written arguments, then the defaults dvs; E: what is wanted of an exception -/
def tCall (sp : Sp) (dvs : List V) (E : XK) (t : TA) : TE := fun σ H Q => t σ H fun vs H1 => sp (vs ++ dvs) H1 Q E
/-- C(..): a new instance and its dict, then __init__ -/
def tMake (C : Addr) (sp : Sp) (dvs : List V) (E : XK) (t : TA) : TE := fun σ H Q => t σ H fun vs H1 => ∀ x dx, H1 x = none → H1 dx = none → dx ≠ x →
  sp (.ref x :: (vs ++ dvs)) (upd (upd H1 dx (.own x)) x (.ins C dx [])) (fun v H2 => v = .non ∧ Q (.ref x) H2) E

/-- how the parameters are bound: us the positional arguments, kw the keywords' values by name, ds the defaults that fill up -/
def Binds (K : PySem.W.Frag) (fd : FuncData) (ps : List Str) (ds : List Value) : Prop :=
  ∀ (s : Shared) (us : List Value), K.In s.heap → (us ++ ds).length = ps.length → BindsTo s fd ⟨us, []⟩ (ps.zip (us ++ ds))
/-- every parameter is given -/
theorem Binds.all {K : PySem.W.Frag} {fd : FuncData} {ps : List Str} (h : ∀ us : List Value, us.length = ps.length → bindArgs fd ⟨us, []⟩ = pure (ps.zip us)) : Binds K fd ps [] := fun s us _ hl => by
  rw [List.append_nil] at hl ⊢
  exact .of_eq (h us hl)

/-- an exception of a callee reaches what this body wants of exceptions -/
def Passes (CX : CXT) (X : Cx) (E : XK) : Prop := ∀ (pins : List (Addr × Obj)) (σ : St) (H : Hp) (s : Shared) (e : Value) (s' : Shared), Inv X pins σ H s → CX X.stack H s E e s' → X.xe e s'

section
variable {X : Cx} {CX : CXT} {k : Nat} {f C : Addr} {fd : FuncData} {ps : List Str} {sp : Sp} {dvs : List V} {ds : List Value} {E : XK} {x m : Str} {p pos apos : Pos} {e o : Expr} {es : List Expr} {ta : TE} {t : TA}

/-- the callee runs -/
theorem run_fn {pins : List (Addr × Obj)} {σ : St} {H : Hp} {s : Shared} {Q : VK} {us : List Value} {vs : List V} (F : FnOk X.prog X.w X.K X.mg X.base CX k f fd ps sp) (hr : Room k X.A) (hb : Binds X.K fd ps ds) (hd : Vals dvs ds) (hx : Passes CX X E)
    (I : Inv X pins σ H s) (r : Vals vs us) (h : sp (vs ++ dvs) H Q E) : wpAny (model X.prog X.w) X.A (call (.ref f) us) (EP X pins σ Q) X.xe s := by
  have r2 : Vals (vs ++ dvs) (us ++ ds) := r.append hd
  have hl : (us ++ ds).length = ps.length := by rw [← r2.length]; exact F.len _ _ _ _ h
  refine wpAny_call (codeAny_mono (F.run X.A X.stack s H ⟨us, []⟩ (us ++ ds) (vs ++ dvs) Q E hr I.env0 (hb s us I.kIn hl) r2 h) fun r s' hq => ?_)
  cases r with
  | error e => exact hx pins σ H s e s' I hq
  | ok fl =>
    cases fl with
    | ret u => exact I.after hq
    | next => exact False.elim hq
    | brk => exact False.elim hq
    | cont => exact False.elim hq

theorem pe_call (F : FnOk X.prog X.w X.K X.mg X.base CX k f fd ps sp) (hr : Room k X.A) (hg : Gl X x) (hm : X.mg x = some (.ref f)) (hk : PySem.W.keepIn X.K (.ref f) = true) (hb : Binds X.K fd ps ds) (hd : Vals dvs ds) (hx : Passes CX X E)
    (ha : PA X (e :: es) t) (hdb : (x == ("__debug__" : Str)) = false := by decide) (he : starEach (e :: es) X.env = (false, eval e X.env) :: starEach es X.env := by rfl) (hpl : (backTo pos (starEach es X.env)).any (·.1) = false := by rfl) :
    PE X (.Call (.Name x p) (e :: es) [] pos) (tCall sp dvs E t) := by
  intro pins s σ H Q I h
  refine wpAny_Call_Name_kw (ld_glob I hg hm ?_ hdb)
  refine PySem.W.callWith_K (h₀ := X.base) I.ok.mod.kin hk (thn (ha pos pins s σ H _ I h) fun us s1 ⟨vs, H1, I1, r, q⟩ => ⟨I1.kIn, ?_⟩) he hpl
  exact run_fn F hr hb hd hx I1 r q
end

section
variable {X : Cx} {CX : CXT} {k : Nat} {f C : Addr} {fd : FuncData} {ps ks : List Str} {sp : Sp} {E : XK} {x m : Str} {p pos apos kpos : Pos} {e o : Expr} {es : List Expr} {kws : List Keyword} {te ta : TE} {t tk : TA} {nm : Option Str}
variable {g : List Value → List Value → List Value} {gV : List V → List V → List V}
end

/-- names: the parameters first -/
structure FnScope (N P : List Str) (sc : Scope) : Prop where
  kind : sc.kind = .function
  co : sc.isCoroutine = false
  gen : sc.isGenerator = false
  nd : N.Nodup
  pre : N.take P.length = P
  par : ∀ x ∈ P, sc.names.lookup x = some .local ∨ sc.names.lookup x = some .cell
  nofree : ∀ y ∈ sc.names, y.2 ≠ .free

theorem bindL_out {kindOf : Str → Option NameKind} {x : Str} : ∀ {binds : List (Str × Value)} {m : Str → Option Value}, (∀ v, (x, v) ∉ binds) → bindL kindOf binds m x = m x
  | [], _, _ => rfl
  | (n, v) :: r, m, h => by
    unfold bindL
    rw [bindL_out fun w hw => h w (List.mem_cons_of_mem _ hw)]
    split
    · have : x ≠ n := by rintro rfl; exact h v List.mem_cons_self
      simp [this]
    · rfl
theorem bindC_out {kindOf : Str → Option NameKind} {x : Str} : ∀ {binds : List (Str × Value)} {m : Str → Option Value}, (∀ v, (x, v) ∉ binds) → bindC kindOf binds m x = m x
  | [], _, _ => rfl
  | (n, v) :: r, m, h => by
    unfold bindC
    rw [bindC_out fun w hw => h w (List.mem_cons_of_mem _ hw)]
    split
    · rfl
    · have : x ≠ n := by rintro rfl; exact h v List.mem_cons_self
      simp [this]
theorem bindL_get {kindOf : Str → Option NameKind} {x : Str} {v : Value} : ∀ {P : List Str} {vs : List Value} {i : Nat} {m : Str → Option Value}, P.Nodup → P[i]? = some x → vs[i]? = some v → kindOf x = some .local →
    bindL kindOf (P.zip vs) m x = some v
  | [], _, _, _, _, h, _, _ => by simp at h
  | _ :: _, [], _, _, _, _, h, _ => by simp at h
  | p :: P, w :: vs, 0, m, nd, h1, h2, hk => by
    simp at h1 h2; subst h1; subst h2
    show bindL kindOf ((p, w) :: P.zip vs) m p = _
    unfold bindL
    rw [bindL_out fun v hv => (List.nodup_cons.mp nd).1 (List.of_mem_zip hv).1, if_pos hk]
    simp
  | p :: P, w :: vs, i + 1, m, nd, h1, h2, hk => by
    show bindL kindOf ((p, w) :: P.zip vs) m x = _
    unfold bindL
    exact bindL_get (i := i) (List.nodup_cons.mp nd).2 (by simpa using h1) (by simpa using h2) hk
theorem bindC_get {kindOf : Str → Option NameKind} {x : Str} {v : Value} : ∀ {P : List Str} {vs : List Value} {i : Nat} {m : Str → Option Value}, P.Nodup → P[i]? = some x → vs[i]? = some v → kindOf x ≠ some .local →
    bindC kindOf (P.zip vs) m x = some v
  | [], _, _, _, _, h, _, _ => by simp at h
  | _ :: _, [], _, _, _, _, h, _ => by simp at h
  | p :: P, w :: vs, 0, m, nd, h1, h2, hk => by
    simp at h1 h2; subst h1; subst h2
    show bindC kindOf ((p, w) :: P.zip vs) m p = _
    unfold bindC
    rw [bindC_out fun v hv => (List.nodup_cons.mp nd).1 (List.of_mem_zip hv).1, if_neg hk]
    simp
  | p :: P, w :: vs, i + 1, m, nd, h1, h2, hk => by
    show bindC kindOf ((p, w) :: P.zip vs) m x = _
    unfold bindC
    exact bindC_get (i := i) (List.nodup_cons.mp nd).2 (by simpa using h1) (by simpa using h2) hk

/-- the names' values at the entry -/
def start (N : List Str) (vs : List V) : St := vs.map some ++ List.replicate (N.length - vs.length) none

/-- the context of a def's body, at its entry; an exception leaves the frame, then lies as CX says -/
def cxOf (CX : CXT) (P : Program) (w : World) (K : PySem.W.Frag) (mg : Str → Option Value) (base : Heap) (N : List Str) (qual : Str) (scope : Scope) (f : Addr) (cd : Value) (A : Around) (outer : List Env) (s : Shared) (H : Hp) (E : XK) : Cx where
  prog := P
  w := w
  K := K
  mg := mg
  base := base
  A := A.deeper (envOfC qual scope s.heap.objs.size f cd)
  N := N
  s_0 := s
  H_0 := H
  env := envOfC qual scope s.heap.objs.size f cd
  outer := outer
  stack := envOfC qual scope s.heap.objs.size f cd :: outer
  ex := []
  calm := true
  fn := fun _ => true
  pn := []
  xe := fun e s' => wpAny (model P w) (A.deeper (envOfC qual scope s.heap.objs.size f cd)) (leaving (envOfC qual scope s.heap.objs.size f cd) e) (fun _ s'' => CX outer H s E e s'') (fun e' s'' => CX outer H s E e' s'') s'

theorem cell_has {sc : Scope} {n : Nat} {x : Str} (h : sc.names.lookup x = some .cell) : ∃ c, (cellsFrom n sc.names []).lookup x = some c := by
  have q := PySem.W.cellsFrom_some sc.names n [] (.inl h)
  exact Option.isSome_iff_exists.mp q

theorem inv_start {CX : CXT} {P : Program} {w : World} {K : PySem.W.Frag} {mg : Str → Option Value} {base : Heap} {N ps : List Str} {qual : Str} {scope : Scope} {f : Addr} {cd : Value} {A : Around} {outer : List Env} {s s1 : Shared} {H : Hp} {E : XK} {us : List Value} {vs : List V}
    (S : FnScope N ps scope) (hd : A.handled = none) (e0 : Env0 P w K mg base A outer s H) (hl : vs.length = ps.length) (r : Vals vs us)
    (x : InCallC s s.heap.objs.size (bindL (envOfC qual scope s.heap.objs.size f cd).kindOf (ps.zip us) fun _ => none) (cellsFrom (s.heap.objs.size + 1) scope.names []) (bindC (envOfC qual scope s.heap.objs.size f cd).kindOf (ps.zip us) fun _ => none) s1) :
    Inv (cxOf CX P w K mg base N qual scope f cd A outer s H E) [] (start N vs) H s1 := by
  have hpl : ps.length ≤ N.length := by have := congrArg List.length S.pre; rw [List.length_take] at this; omega
  obtain ⟨h1, tk, rfl, hk⟩ := x.done
  have noA : ∀ b : Addr, b ∉ (cxOf CX P w K mg base N qual scope f cd A outer s H E).ex := fun b z => absurd (show b ∈ ([] : List Addr) from z) (by simp)
  refine ⟨⟨e0.mod, S.kind, rfl, rfl, Nat.le_refl _, fun y z c h1 h2 => ?_, fun y hy => ?_, fun y c _ h => ?_, fun _ => hd, Around.frames_deeper e0.frames, .inr ⟨rfl, rfl⟩, fun b z => absurd z (noA b), e0.bs, e0.bsz, fun b _ _ => noA b, fun b z => absurd z (noA b), e0.funs, e0.frf⟩,
    rfl, e0.bare, Un.kept hk, ⟨_, x.toInCall.ns, fun i y v h1 h2 h3 => ?_⟩, fun y c h => ⟨_, x.cell y c h⟩, e0.hok.fresh (Nat.le_refl _), fun y c h => ?_, fun p hp => absurd (show p ∈ ([] : List (Addr × Obj)) from hp) (by simp), e0.hok.kept hk, ?_⟩
  · exact name_of_addr x.apart (PySem.mem_of_lookup h1) (PySem.mem_of_lookup h2)
  · have hy : scope.names.lookup y = some .cell ∨ scope.names.lookup y = some .free := hy
    rcases hy with hy | hy
    · exact cell_has hy
    · exact absurd rfl (S.nofree _ (PySem.mem_of_lookup hy))
  · exact Nat.le_of_lt (x.above y c (PySem.mem_of_lookup h))
  · have hi : i < vs.length := by
      unfold start at h2
      by_cases hi : i < vs.length
      · exact hi
      · rw [List.getElem?_append_right (by simpa using hi)] at h2
        rw [List.getElem?_replicate] at h2
        split at h2 <;> cases h2
    have ha : vs[i]? = some v := by
      unfold start at h2
      rw [List.getElem?_append_left (by simpa using hi), List.getElem?_map] at h2
      cases e : vs[i]? with
      | none => rw [e] at h2; cases h2
      | some a => rw [e] at h2; cases h2; rfl
    obtain ⟨u, hu, rv⟩ := r.get ha
    have hp : ps[i]? = some y := by
      rw [← S.pre, List.getElem?_take_of_lt (by omega)]; exact h1
    have ndP : ps.Nodup := by rw [← S.pre]; exact S.nd.sublist (List.take_sublist _ _)
    refine ⟨u, rv, ?_⟩
    rcases S.par y (List.mem_of_getElem? hp) with k | k
    · exact .inl ⟨k, bindL_get ndP hp hu k⟩
    · obtain ⟨c, e⟩ := cell_has (n := s.heap.objs.size + 1) k
      refine .inr ⟨.inl k, c, e, ?_⟩
      have q := x.cell y c e
      rw [bindC_get ndP hp hu (by show scope.names.lookup y ≠ _; rw [k]; decide)] at q
      exact q
  · exact e0.hok.fresh (Nat.le_of_lt (x.above y c (PySem.mem_of_lookup h)))
  · unfold start
    show _ = N.length
    rw [List.length_append, List.length_map, List.length_replicate]
    omega

/-- THE RULE: a def (or a method) of the text, by its body. The body's reading t is chosen for each entry; it is run at the parameters' values -/
theorem fn_of {CX : CXT} {P : Program} {w : World} {K : PySem.W.Frag} {mg : Str → Option Value} {base : Heap} {k : Nat} {f : Addr} {name qual : Str} {params : Arguments} {body : List Stmt} {scope : Scope} {dV kV doc pm cdv ct oc : Value} {an od : Option Addr}
    {osl : Array (Option Value)} {N ps : List Str} {sp : Sp} (lk : K.lookup f = some ⟨oc, od, .func (PySem.W.fnOf name qual params body scope dV kV doc pm an cdv ct), osl⟩) (hcd : PySem.W.codeIn K cdv qual = true) (S : FnScope N ps scope)
    (len : ∀ vs H Q E, sp vs H Q E → vs.length = ps.length)
    (hbody : ∀ (A : Around) (outer : List Env) (s : Shared) (H : Hp) (vs : List V) (Q : VK) (E : XK), Room k (A.deeper (envOfC qual scope s.heap.objs.size f cdv)) → sp vs H Q E →
      ∃ t, PSs (cxOf CX P w K mg base N qual scope f cdv A outer s H E) body t ∧ t { nx := fun _ H' => Q .non H', rt := Q } (start N vs) H) :
    FnOk P w K mg base CX (k + 1) f (PySem.W.fnOf name qual params body scope dV kV doc pm an cdv ct) ps sp := by
  refine ⟨len, fun A outer s H args us vs Q E hr e0 hb r hsp => ?_⟩
  have hl := len _ _ _ _ hsp
  have KX : K.In s.heap := e0.mod.kin.keeps fun b o e => (e0.bs b o e).1
  have lim : s.heap.NoLimit := e0.mod.nolimit.keeps fun b o e => (e0.bs b o e).1
  have hkind : ∀ y ∈ ps.zip us, scope.names.lookup y.1 = some .local ∨ (scope.names.lookup y.1 = some .cell ∧ ((cellsFrom (s.heap.objs.size + 1) scope.names []).lookup y.1).isSome = true) := fun ⟨n, v⟩ hy => by
    rcases S.par n (List.of_mem_zip hy).1 with q | q
    · exact .inl q
    · exact .inr ⟨q, PySem.W.cellsFrom_some _ _ _ (.inl q)⟩
  refine codeAny_call_function hr.depth (KX _ _ lk) rfl S.co S.gen rfl (PySem.W.codeRec_of KX hcd) (hb _ _ _ _ ?_)
  refine wpAny_newFunctionEnv_cells S.kind hkind fun env he s1 x => ?_
  subst he
  refine ⟨lim.keeps x.toInCall.keep, codeAny_func ?_⟩
  obtain ⟨t, ht, hq⟩ := hbody A outer s H vs Q E (hr.deeper _) hsp
  have I : Inv (cxOf CX P w K mg base N qual scope f cdv A outer s H E) [] (start N vs) H s1 := inv_start S hr.hd e0 hl r x
  refine wpAny_mono (ht [] s1 (start N vs) H _ I hq) (fun fl s' hs => ?_) fun e s' hs => hs
  have fin : ∀ {σ' : St} {H' : Hp} {v : V} {u : Value}, Inv (cxOf CX P w K mg base N qual scope f cdv A outer s H E) [] σ' H' s' → RelV v u → Q v H' → CE outer P w H s Q u s' :=
    fun {σ' H' v u} J rv q => ⟨v, H', J.os, J.bare, J.base, J.hok, rv, q⟩
  cases fl with
  | ret u =>
    obtain ⟨v, σ', H', J, rv, q⟩ := hs
    exact fin J rv q
  | next =>
    obtain ⟨σ', H', J, q⟩ := hs
    exact fin (v := V.non) (u := Value.none) J rfl q
  | brk =>
    obtain ⟨_, _, _, q⟩ := hs
    exact False.elim q
  | cont =>
    obtain ⟨_, _, _, q⟩ := hs
    exact False.elim q
end L2

namespace L2
open PySem PySem.Spec PyProof.Rows
section
variable {X : Cx} {x : Str} {p pos : Pos} {e : Expr} {es : List Expr} {t : TA} {id T : String} {r : List V → Hp → VK → Prop}

def tCB (r : List V → Hp → VK → Prop) (t : TA) : TE := fun σ H Q => t σ H fun vs H1 => r vs H1 Q
/-- f(e, ..), f a built-in function -/
theorem pe_callB (hc : CallR X (.builtin id) r) (hg : Gl X x) (hm : X.mg x = none) (hv : bootBuiltins x = some (.builtin id)) (ha : PA X (e :: es) t) (hn : x ≠ "__name__" := by decide) (hdb : (x == ("__debug__" : Str)) = false := by decide)
    (he : starEach (e :: es) X.env = (false, eval e X.env) :: starEach es X.env := by rfl) (hpl : (backTo pos (starEach es X.env)).any (·.1) = false := by rfl) : PE X (.Call (.Name x p) (e :: es) [] pos) (tCB r t) := by
  intro pins s σ H Q I h
  refine wpAny_Call_Name_kw (ld_blt I hg hm hv ?_ hn hdb)
  exact PyProof.Rows.callWith_builtin1 (thn (ha pos pins s σ H _ I h) fun us s1 ⟨vs, H1, I1, r1, q1⟩ => hc pins s1 σ H1 vs us Q I1 r1 q1) he hpl
end
end L2

namespace HT
open PySem PyProof.Rows

section
open PySem.SeqAt
open PySem.AutoSeq1 (wpAny_loadPart')
open PySem.MeetsSeq PySem.MeetsSeq2 PySem.MeetsSeq3

end

section
variable {prog : Program} {w : World} {A : Around} {E : Value → Shared → Prop} {s : Shared}

end
end HT

namespace L2
open PySem PySem.Spec PyProof.Rows

abbrev TO := St → Hp → (Option Int → Hp → Prop) → Prop
def tNoPart : TO := fun _ H Q => Q none H
def tPart (t : TE) : TO := fun σ H Q => t σ H fun x H1 => ∃ i, x = .int i ∧ Q (some i) H1

section
variable {X : Cx} {e : Expr} {te : TE} {lo hi : Option Expr} {tl th : TO} {pos p2 : Pos}

def tSl (r : V → Option Int → Option Int → Hp → VK → Prop) (te : TE) (tl th : TO) : TE := fun σ H Q => te σ H fun x H1 => tl σ H1 fun l H2 => th σ H2 fun u H3 => r x l u H3 Q
end
end L2

namespace L2
open PySem PySem.Spec PyProof.Rows

/-- the place that an index of any sign means -/
def ixN (n : Nat) (i : Int) : Option Nat := if 0 ≤ i then (if i < n then some i.toNat else none) else if -(n : Int) ≤ i then some (i + n).toNat else none
def atI {α : Type} (xs : List α) (i : Int) : Option α := (ixN xs.length i).bind fun j => xs[j]?
theorem ixN_seq {n : Nat} {i : Int} {j : Nat} (h : ixN n i = some j) : seqIndex? i n = some j ∧ j < n ∧ -(n : Int) ≤ i ∧ i < n := by
  unfold ixN at h
  by_cases h0 : 0 ≤ i
  · rw [if_pos h0] at h
    by_cases h1 : i < n
    · rw [if_pos h1] at h
      have e : i.toNat = j := Option.some.inj h
      exact ⟨by rw [seqIndex_of h0 h1, e], by omega, by omega, h1⟩
    · rw [if_neg h1] at h; cases h
  · rw [if_neg h0] at h
    by_cases h1 : -(n : Int) ≤ i
    · rw [if_pos h1] at h
      have e : (i + n).toNat = j := Option.some.inj h
      exact ⟨by rw [seqIndex_neg (by omega) h1, e], by omega, h1, by omega⟩
    · rw [if_neg h1] at h; cases h
theorem atI_get {α : Type} {xs : List α} {i : Int} {v : α} (h : atI xs i = some v) : ∃ j, seqIndex? i xs.length = some j ∧ xs[j]? = some v ∧ j < xs.length ∧ -(xs.length : Int) ≤ i ∧ i < xs.length := by
  unfold atI at h
  cases e : ixN xs.length i with
  | none => rw [e] at h; cases h
  | some j =>
    rw [e] at h
    obtain ⟨h1, h2, h3, h4⟩ := ixN_seq e
    exact ⟨j, h1, h, h2, h3, h4⟩
theorem atI_nat {α : Type} {xs : List α} {j : Nat} {v : α} (h : xs[j]? = some v) : atI xs (j : Int) = some v := by
  have hj : j < xs.length := (List.getElem?_eq_some_iff.mp h).1
  have e : ixN xs.length (j : Int) = some j := by
    unfold ixN
    rw [if_pos (by omega), if_pos (by omega)]; simp
  unfold atI; rw [e]; exact h
/-- what stands as an index of a plain subscript -/
def PlainIx (b : Expr) : Prop := ∀ o i, subscripted b false o i = operate [o, i] (getItem o i)
/-- a subscript by values -/
def IxR (X : Cx) (r : R2) : Prop :=
  ∀ (value slice : Expr) (pins : List (Addr × Obj)) (s : Shared) (σ : St) (H : Hp) (x y : V) (v u : Value) (Q : VK), Inv X pins σ H s → RelV x v → RelV y u → r x y H Q →
    subscripted slice false v u = operate [v, u] (getItem v u) → wpAny (model X.prog X.w) X.A (subscriptTail value slice v u) (EP X pins σ Q) X.xe s
/-- a call of a builtin's method by values: the receiver, the arguments -/
def MtR (X : Cx) (id : String) (r : V → List V → Hp → VK → Prop) : Prop :=
  ∀ (pins : List (Addr × Obj)) (s : Shared) (σ : St) (H : Hp) (x : V) (xs : List V) (v : Value) (us : List Value) (Q : VK), Inv X pins σ H s → RelV x v → Vals xs us → r x xs H Q →
    wpAny (model X.prog X.w) X.A (call (.builtin id) (v :: us)) (EP X pins σ Q) X.xe s
section
variable {X : Cx} {a b : Expr} {ta tb : TE} {pos : Pos}
/-- a[b] -/
theorem pe_ix {r : R2} (hr : IxR X r) (ha : PE X a ta) (hb : PE X b tb) (hs : PlainIx b) : PE X (.Subscript a b pos) (tOp r ta tb) := by
  intro pins s σ H Q I h
  exact Subscript_ (binT ha hb I h fun v u s2 x y H2 I2 rx ry q => hr a b pins s2 σ H2 x y v u Q I2 rx ry q (hs _ _))

def rIxT (K : PySem.W.Frag) : R2 := fun x y H Q => ∃ p xs i v, x = .ref p ∧ y = .int i ∧ SqT K H p xs ∧ atI xs i = some v ∧ Q v H
theorem ix_tup : IxR X (rIxT X.K) := by
  intro value slice pins s σ H x y v u Q I rx ry h hs
  obtain ⟨p, xs, i, z, rfl, rfl, hq, he, q⟩ := h
  cases rx
  obtain ⟨t, rfl⟩ := ry
  obtain ⟨its, r, pl, hz⟩ := I.tuple hq
  obtain ⟨j, h1, h2, h3, h4, h5⟩ := atI_get he
  obtain ⟨w, ew, rw'⟩ := r.get h2
  have hl := r.length
  have hn := line63
  have fin : EP X pins σ Q w s := ⟨z, H, I, rw', q⟩
  exact subscriptTail_builtinR (x := w) pl.typeIs slot_tuple_getitem.lookup
    (getItem_tuple (j := j) (Q := fun r s' => r = w ∧ EP X pins σ Q r s') pl (by omega) (by omega) (by rw [List.size_toArray, ← hl]; exact h1) (by simpa using ew) ⟨rfl, fin⟩) hs
theorem Inv.lst {pins : List (Addr × Obj)} {σ : St} {H : Hp} {s : Shared} {p : Addr} {xs : List V} (I : Inv X pins σ H s) (h : H p = some (.lst xs)) :
    ∃ (its : List Value) (n : Nat), Vals xs its ∧ s.heap.get? p = some { cls := .type "list", data := .seq its.toArray n } ∧ xs.length ≤ sizeLine := by
  obtain ⟨z, its, n, r, e⟩ := I.hok p _ h
  exact ⟨its, n, r, e, z⟩
/-- the value is of that builtin type -/
def tyV (K : PySem.W.Frag) (T : String) (x : V) (H : Hp) : Prop := match x with
  | .str _ => T = "str"
  | .int _ => T = "int"
  | .ref p => (T = "list" ∧ ∃ xs, SqL K H p xs) ∨ (T = "tuple" ∧ ∃ o, K.lookup p = some o ∧ o.cls = .type "tuple" ∧ o.dict = none) ∨
      (T = "dict" ∧ ((∃ kvs, H p = some (.dK kvs)) ∨ ∃ kvs, H p = some (.dT kvs))) ∨ (T = "set" ∧ ∃ S n, H p = some (.set S n))
  | _ => False
theorem tyV_is {pins : List (Addr × Obj)} {σ : St} {H : Hp} {s : Shared} {T : String} {x : V} {v : Value} (I : Inv X pins σ H s) (r : RelV x v) (ty : tyV X.K T x H) :
    s.TypeIs v T ∧ ∀ a, v = .ref a → ∃ ob, s.heap.get? a = some ob ∧ ob.dict = none := by
  cases x with
  | str z =>
    obtain ⟨t, rfl⟩ := r
    cases (show T = "str" from ty)
    exact ⟨typeIs_str s z t, fun _ e => nomatch e⟩
  | int i =>
    obtain ⟨t, rfl⟩ := r
    cases (show T = "int" from ty)
    exact ⟨typeIs_int s i t, fun _ e => nomatch e⟩
  | ref p =>
    cases r
    rcases ty with ⟨rfl, xs, hq⟩ | ⟨rfl, o, hk, hc, hd⟩ | ⟨rfl, hk⟩ | ⟨rfl, S, n, hk⟩
    · obtain ⟨its, _, pl, _⟩ := I.list hq
      refine ⟨pl.isList.typeIs, fun a e => ?_⟩
      cases e
      obtain ⟨o, n, e, c, hd, _⟩ := pl
      exact ⟨o, e, hd⟩
    · refine ⟨⟨o, I.kIn p o hk, hc⟩, fun a e => ?_⟩
      cases e
      exact ⟨o, I.kIn _ o hk, hd⟩
    · have z : ∃ o, s.heap.get? p = some o ∧ o.ExactDict := by
        rcases hk with ⟨kvs, hk⟩ | ⟨kvs, hk⟩
        · obtain ⟨_, _, _, _, o, _, _, e, ex, _⟩ := I.hok p _ hk
          exact ⟨o, e, ex⟩
        · obtain ⟨_, _, _, _, o, _, _, e, ex, _⟩ := I.hok p _ hk
          exact ⟨o, e, ex⟩
      obtain ⟨o, e, ex⟩ := z
      refine ⟨⟨o, e, ex.1⟩, fun a e2 => ?_⟩
      cases e2
      exact ⟨o, e, ex.2.1⟩
    · obtain ⟨o, _, _, _, e, ex, _⟩ := I.hok p _ hk
      refine ⟨⟨o, e, ex.1⟩, fun a e2 => ?_⟩
      cases e2
      exact ⟨o, e, ex.2.1⟩
  | _ => exact False.elim ty
def tBM0 (K : PySem.W.Frag) (T : String) (r : V → List V → Hp → VK → Prop) (to : TE) : TE := fun σ H Q => to σ H fun x H1 => tyV K T x H1 ∧ r x [] H1 Q
variable {o e : Expr} {es : List Expr} {to : TE} {t : TA} {name : Str} {apos cpos : Pos} {T id : String} {r : V → List V → Hp → VK → Prop}
theorem pe_bm0 (pa : PlainAttrs T) (slot : Slot T name id) (hty : typeOf (.builtin id) = pure (.type "method_descriptor")) (hm : MtR X id r) (ho : PE X o to)
    (hbase : attributeBase o name X.env (eval o X.env) = eval o X.env := by rfl) (hline : (apos.endLine == cpos.line) = true := by rfl) : PE X (.Call (.Attribute o name apos) [] [] cpos) (tBM0 X.K T r to) := by
  intro pins s σ H Q I h
  refine wpAny_Call_method0_late hbase hline (thn (ho pins s σ H _ I h) fun v s1 ⟨x, H1, I1, r1, ty, q1⟩ => ?_)
  obtain ⟨h1, h2⟩ := tyV_is I1 r1 ty
  exact ⟨T, id, pa, slot, hty, h1, h2, Calls.callWith_builtin rfl (PySem.evalArgs_none (hm pins s1 σ H1 x [] v [] Q I1 r1 .nil q1))⟩
end
end L2

namespace L2
open PySem PySem.Spec PyProof.Rows

theorem Vals.zero : ∀ {us : List Value}, Vals [] us → us = []
  | _, .nil => rfl
section
variable {X : Cx} {pins : List (Addr × Obj)} {σ : St} {H : Hp} {s : Shared} {l b : Addr} {xs ys zs : List V}

theorem Inv.lnew {its : List Value} {t' : Nat} (I : Inv X pins σ H s) (hv : Vals ys its) (hz : ys.length ≤ sizeLine) :
    Inv X pins σ (upd H s.heap.objs.size (.lst ys)) { s with heap := s.heap.push { cls := .type "list", data := .seq its.toArray }, toks := t' } :=
  I.laid (fun _ _ q => Heap.get?_push_of_some _ q) (Nat.le_refl _) ⟨hz, its, 0, hv, Heap.get?_push_size _ rfl⟩
theorem Inv.fresh (I : Inv X pins σ H s) : H s.heap.objs.size = none := I.hok.fresh (Nat.le_refl _)
theorem Inv.lstM (I : Inv X pins σ H s) (hH : H l = some (.lst xs)) : xs.length ≤ sizeLine ∧ ∃ (its : List Value) (n : Nat), Vals xs its ∧ xs.length = its.length ∧ s.heap.get? l = some { cls := .type "list", data := .seq its.toArray n } := by
  obtain ⟨z, its, n, r, e⟩ := I.hok l _ hH
  exact ⟨z, its, n, r, r.length, e⟩

end

section
variable {X : Cx}

def rCat : R2 := fun x y H Q => ∃ l b xs zs, x = .ref l ∧ y = .ref b ∧ H l = some (.lst xs) ∧ H b = some (.lst zs) ∧ xs.length + zs.length ≤ sizeLine ∧ ∀ p, H p = none → Q (.ref p) (upd H p (.lst (xs ++ zs)))
theorem op_cat : OpR X (binaryOp .Add) rCat := by
  intro pins s σ H x y v u Q I rx ry h
  obtain ⟨l, b, xs, zs, rfl, rfl, hH, hB, hz, q⟩ := h
  cases rx
  cases ry
  obtain ⟨z, its, n, r, hl, e⟩ := I.lstM hH
  obtain ⟨z2, its2, n2, r2, hl2, e2⟩ := I.lstM hB
  refine PySem.P.add_list e e2 ?_ (by rw [List.size_toArray, List.size_toArray]; omega)
  have ea : its.toArray ++ its2.toArray = (its ++ its2).toArray := by simp
  rw [ea]
  exact ⟨.ref _, _, I.lnew (t' := s.toks) (r.append r2) (by rw [List.length_append]; omega), rfl, q _ I.fresh⟩
end

section
variable {prog : Program} {w : World} {A : Around} {E : Value → Shared → Prop} {s : Shared}
end

section
variable {X : Cx}
end
end L2

namespace L2
open PySem PySem.Spec PyProof.Rows

section
variable {prog : Program} {w : World} {A : Around} {E : Value → Shared → Prop} {s : Shared} {l : Addr} {its : List Value} {ns : List Int} {Q : Value → Shared → Prop}
end

section
variable {X : Cx}
end

section
variable {X : Cx}
end

section
variable {X : Cx}
end

section
variable {X : Cx}
end

section
variable {X : Cx} {pins : List (Addr × Obj)} {σ : St} {H : Hp} {s : Shared}
end
section
variable {X : Cx}
end
end L2

namespace L2
open PySem PySem.Spec PyProof.Rows
abbrev CellAt (h : Heap) (c : Addr) (v : Option Value) : Prop := h.IsCell c v
def relS (scope sc : Scope) : Scope :=
  { scope with names := scope.names.map fun (n, k) => if (k == .free && sc.kind == .function && sc.names.lookup n == some .cell) then (n, .cell) else (n, k) }

def cloFrom (cells : List (Str × Addr)) : List (Str × NameKind) → List (Str × Addr) → List (Str × Addr)
  | [], acc => acc
  | (n, k) :: r, acc => if k == .free then cloFrom cells r ((n, (cells.lookup n).getD 0) :: acc) else cloFrom cells r acc

theorem closure_loop (env : Env) (f : Str × NameKind → List (Str × Addr) → Sem (ForInStep (List (Str × Addr))))
    (hf : ∀ n k c, f (n, k) c = if k == .free then (do let a ← cellOf env n; pure (.yield ((n, a) :: c))) else pure (.yield c)) :
    ∀ (names : List (Str × NameKind)) (acc : List (Str × Addr)), (∀ y ∈ names, y.2 = .free → ∃ c, env.cells.lookup y.1 = some c) → forIn names acc f = pure (cloFrom env.cells names acc)
  | [], acc, _ => by rw [List.forIn_nil]; rfl
  | (n, k) :: r, acc, h => by
    rw [List.forIn_cons, hf]
    have ih := fun acc => closure_loop env f hf r acc fun y hy => h y (List.mem_cons_of_mem _ hy)
    unfold cloFrom
    by_cases hk : (k == NameKind.free) = true
    · rw [if_pos hk, if_pos hk]
      obtain ⟨c, hc⟩ := h (n, k) List.mem_cons_self (by simpa using hk)
      have e : cellOf env n = pure c := by unfold cellOf; rw [hc]
      rw [e]
      have e2 : (env.cells.lookup n).getD 0 = c := by rw [hc]; rfl
      rw [e2]
      exact ih _
    · rw [if_neg hk, if_neg hk]
      exact ih _
theorem closure_ok {scope : Scope} {env : Env} (h : ∀ y ∈ scope.names, y.2 = .free → ∃ c, env.cells.lookup y.1 = some c) : closureFor scope env = pure (cloFrom env.cells scope.names []) := by
  simp only [closureFor]
  rw [closure_loop env _ (fun n k c => rfl) scope.names [] h]
  rfl

theorem mem_lookup {α : Type} : ∀ {l : List (Str × α)} {n : Str} {c : α}, (n, c) ∈ l → ∃ c', l.lookup n = some c'
  | (k, v) :: r, n, c, h => by
    rw [List.lookup_cons]
    cases hb : n == k with
    | true => exact ⟨_, rfl⟩
    | false =>
      rcases List.mem_cons.mp h with e | h
      · cases e; simp at hb
      · exact mem_lookup h

theorem cloFrom_mem {cells : List (Str × Addr)} : ∀ {names : List (Str × NameKind)} {acc : List (Str × Addr)} {n : Str} {c : Addr}, (n, c) ∈ cloFrom cells names acc → (n, c) ∈ acc ∨ ((n, .free) ∈ names ∧ c = (cells.lookup n).getD 0)
  | [], _, _, _, h => .inl h
  | (m, k) :: r, acc, n, c, h => by
    unfold cloFrom at h
    split at h
    · rename_i hk
      have hk : k = .free := by simpa using hk
      rcases cloFrom_mem h with h | ⟨h1, h2⟩
      · rcases List.mem_cons.mp h with e | h
        · cases e; exact .inr ⟨hk ▸ List.mem_cons_self, rfl⟩
        · exact .inl h
      · exact .inr ⟨List.mem_cons_of_mem _ h1, h2⟩
    · rcases cloFrom_mem h with h | ⟨h1, h2⟩
      · exact .inl h
      · exact .inr ⟨List.mem_cons_of_mem _ h1, h2⟩
theorem cloFrom_acc {cells : List (Str × Addr)} : ∀ {names : List (Str × NameKind)} {acc : List (Str × Addr)} {p : Str × Addr}, p ∈ acc → p ∈ cloFrom cells names acc
  | [], _, _, h => h
  | (m, k) :: r, acc, p, h => by
    unfold cloFrom
    split
    · exact cloFrom_acc (List.mem_cons_of_mem _ h)
    · exact cloFrom_acc h
theorem cloFrom_has {cells : List (Str × Addr)} : ∀ {names : List (Str × NameKind)} {acc : List (Str × Addr)} {n : Str}, (n, .free) ∈ names → (n, (cells.lookup n).getD 0) ∈ cloFrom cells names acc
  | (m, k) :: r, acc, n, h => by
    unfold cloFrom
    rcases List.mem_cons.mp h with e | h
    · cases e
      exact cloFrom_acc List.mem_cons_self
    · split
      · exact cloFrom_has h
      · exact cloFrom_has h

theorem cells_mem : ∀ {names : List (Str × NameKind)} {h : Heap} {acc : List (Str × Addr)} {x : Str} {c : Addr}, (x, c) ∈ cellsFrom h.objs.size names acc →
    (x, c) ∈ acc ∨ ((x, .cell) ∈ names ∧ h.objs.size ≤ c ∧ CellAt (pushCells h names) c none)
  | [], _, _, _, _, h => .inl h
  | (n, k) :: r, h, acc, x, c, hm => by
    unfold cellsFrom at hm
    unfold pushCells
    split at hm
    · rename_i hk
      rw [if_pos hk]
      have hk : k = .cell := by simpa using hk
      rw [← Heap.size_push h { cls := .type "cell", data := .cell none }] at hm
      rcases cells_mem hm with hm | ⟨h1, h2, h3⟩
      · rcases List.mem_cons.mp hm with e | hm
        · cases e
          exact .inr ⟨hk ▸ List.mem_cons_self, Nat.le_refl _, _, pushCells_keeps r _ _ _ (Heap.get?_push_size _ rfl), rfl⟩
        · exact .inl hm
      · rw [Heap.size_push] at h2
        exact .inr ⟨List.mem_cons_of_mem _ h1, Nat.le_of_succ_le h2, h3⟩
    · rename_i hk
      rw [if_neg hk]
      rcases cells_mem hm with hm | ⟨h1, h2, h3⟩
      · exact .inl hm
      · exact .inr ⟨List.mem_cons_of_mem _ h1, h2, h3⟩
theorem cells_acc : ∀ {names : List (Str × NameKind)} {n : Nat} {acc : List (Str × Addr)} {p : Str × Addr}, p ∈ acc → p ∈ cellsFrom n names acc
  | [], _, _, _, h => h
  | (m, k) :: r, n, acc, p, h => by
    unfold cellsFrom
    split
    · exact cells_acc (List.mem_cons_of_mem _ h)
    · exact cells_acc h
theorem cells_has : ∀ {names : List (Str × NameKind)} {n : Nat} {acc : List (Str × Addr)} {x : Str}, (x, .cell) ∈ names → ∃ c, (x, c) ∈ cellsFrom n names acc
  | (m, k) :: r, n, acc, x, h => by
    unfold cellsFrom
    rcases List.mem_cons.mp h with e | h
    · cases e
      exact ⟨n, cells_acc List.mem_cons_self⟩
    · split
      · exact cells_has h
      · exact cells_has h
theorem cells_inj : ∀ {names : List (Str × NameKind)} {h : Heap} {acc : List (Str × Addr)} {x y : Str} {c : Addr}, (∀ p ∈ acc, p.2 < h.objs.size) → (∀ x y c, (x, c) ∈ acc → (y, c) ∈ acc → x = y) →
    (x, c) ∈ cellsFrom h.objs.size names acc → (y, c) ∈ cellsFrom h.objs.size names acc → x = y
  | [], _, _, _, _, _, _, hi, h1, h2 => hi _ _ _ h1 h2
  | (n, k) :: r, h, acc, x, y, c, hl, hi, h1, h2 => by
    unfold cellsFrom at h1 h2
    split at h1
    · rename_i hk
      rw [if_pos hk] at h2
      rw [← Heap.size_push h { cls := .type "cell", data := .cell none }] at h1 h2
      refine cells_inj (h := h.push _) (fun p hp => ?_) (fun x y c a b => ?_) h1 h2
      · rw [Heap.size_push]
        rcases List.mem_cons.mp hp with rfl | hp
        · exact Nat.lt_succ_self _
        · exact Nat.lt_succ_of_lt (hl p hp)
      · rcases List.mem_cons.mp a with e | a <;> rcases List.mem_cons.mp b with e' | b
        · cases e; cases e'; rfl
        · cases e; exact absurd (hl _ b) (Nat.lt_irrefl _)
        · cases e'; exact absurd (hl _ a) (Nat.lt_irrefl _)
        · exact hi _ _ _ a b
    · rename_i hk
      rw [if_neg hk] at h2
      exact cells_inj hl hi h1 h2

theorem newEnv_comp {M : Model} {A : Around} {E : Value → Shared → Prop} {s : Shared} {scope : Scope} {globals : Addr} {closure : List (Str × Addr)} {qual : Str} {func : Option Addr} {code : Value} {around : Env} {builtins : Addr} {Q : Env → Shared → Prop}
    (h : Q (newEnv scope s.heap.objs.size globals (cellsFrom (s.heap.objs.size + 1) scope.names closure) qual func code (some around) builtins)
      { s with heap := pushCells (s.heap.push { cls := .type "dict", data := .dict #[] }) scope.names }) :
    wpAny M A (newFunctionEnv scope globals closure [] qual func code (some around) builtins) Q E s := by
  simp only [newFunctionEnv, Option.isSome_some, if_true]
  refine wpAny_bind (wpAny_alloc ?_)
  refine wpAny_bind (wpAny_layCells _ (fun n k c => rfl) scope.names closure _ _ ?_)
  rw [show ({ s with heap := s.heap.push { cls := .type "dict", data := .dict #[] } } : Shared).heap.objs.size = s.heap.objs.size + 1 from Heap.size_push ..]
  rw [List.forIn_nil]
  exact wpAny_bind (wpAny_pure (wpAny_pure h))

/-- every name of the written scope, in the scope that runs -/
theorem lookup_relS {sc : Scope} : ∀ {names : List (Str × NameKind)} {x : Str} {k : NameKind},
    (names.map fun (n, k) => if (k == NameKind.free && sc.kind == .function && sc.names.lookup n == some .cell) then (n, NameKind.cell) else (n, k)).lookup x = some k →
    ∃ k', names.lookup x = some k' ∧ (k = k' ∨ (k' = .free ∧ k = .cell))
  | [], _, _, h => by simp at h
  | (n, k₀) :: r, x, k, h => by
    have ih := @lookup_relS sc r x k
    have h' : List.lookup x ((if (k₀ == NameKind.free && sc.kind == .function && sc.names.lookup n == some .cell) = true then (n, NameKind.cell) else (n, k₀)) :: (r.map _)) = some k := h
    cases hx : x == n with
    | true =>
      simp only [List.lookup_cons, hx]
      by_cases hc : (k₀ == NameKind.free && sc.kind == .function && sc.names.lookup n == some .cell) = true
      · rw [if_pos hc] at h'
        simp only [List.lookup_cons, hx] at h'
        cases h'
        simp only [Bool.and_eq_true, beq_iff_eq] at hc
        exact ⟨k₀, rfl, .inr ⟨hc.1.1, rfl⟩⟩
      · rw [if_neg hc] at h'
        simp only [List.lookup_cons, hx] at h'
        cases h'
        exact ⟨_, rfl, .inl rfl⟩
    | false =>
      simp only [List.lookup_cons, hx]
      by_cases hc : (k₀ == NameKind.free && sc.kind == .function && sc.names.lookup n == some .cell) = true
      · rw [if_pos hc] at h'
        simp only [List.lookup_cons, hx] at h'
        exact ih h'
      · rw [if_neg hc] at h'
        simp only [List.lookup_cons, hx] at h'
        exact ih h'
/-- the names of a comprehension's block: its own (with their places in N), or captured -/
structure BlkOk (N : List Str) (sc scope : Scope) (own : List (Str × Nat)) : Prop where
  kind : scope.kind = .function
  uniq : ∀ y ∈ scope.names, scope.names.lookup y.1 = some y.2
  ix : ∀ p ∈ own, N[p.2]? = some p.1
  free : ∀ y ∈ scope.names, y.2 = .free → sc.names.lookup y.1 = some .cell ∨ sc.names.lookup y.1 = some .free
  own : ∀ y ∈ scope.names, y.2 = .local ∨ y.2 = .cell → y.1 ∈ own.map (·.1) ∨ y.1 ∉ N
/-- the slots of the block's own names forgotten -/
def wipe (σ : St) : List Nat → St
  | [] => σ
  | v :: vs => (wipe σ vs).set v none
theorem wipe_length (σ : St) : ∀ vs : List Nat, (wipe σ vs).length = σ.length
  | [] => rfl
  | v :: vs => by unfold wipe; rw [List.length_set, wipe_length σ vs]
theorem wipe_some {σ : St} {i : Nat} {x : V} : ∀ {vs : List Nat}, (wipe σ vs)[i]? = some (some x) → σ[i]? = some (some x) ∧ i ∉ vs
  | [], h => ⟨h, by simp⟩
  | v :: vs, h => by
    unfold wipe at h
    by_cases hi : v = i
    · subst hi
      by_cases hv : v < (wipe σ vs).length
      · rw [List.getElem?_set_self hv] at h; cases h
      · rw [List.getElem?_eq_none (by simpa using hv)] at h; cases h
    · rw [List.getElem?_set_ne hi] at h
      obtain ⟨h1, h2⟩ := wipe_some h
      exact ⟨h1, by simp only [List.mem_cons, not_or]; exact ⟨fun e => hi e.symm, h2⟩⟩

/-- the context of a block that starts at s, its iterator's objects at fp -/
abbrev Cx.blk (X : Cx) (s : Shared) (H : Hp) (scope : Scope) (cenv : Env) (fp : List Addr) : Cx := { X with s_0 := s, H_0 := H, env := cenv, outer := X.stack, ex := fp, fn := fun x => scope.names.lookup x == some .cell, pn := [], xe := fun _ _ => False }
section
variable {X : Cx} {pins : List (Addr × Obj)} {σ : St} {H : Hp} {s : Shared}
theorem block_start {scope : Scope} {own : List (Str × Nat)} {fp : List Addr} (I : Inv X pins σ H s) (ok : BlkOk X.N X.env.scope scope own) (hN : X.N.Nodup) (hfp : ∀ b ∈ fp, FpOk X pins H b ∧ b < s.heap.objs.size) :
    Inv (X.blk s H scope (compEnvC scope (cellsFrom (s.heap.objs.size + 1) scope.names (cloFrom X.env.cells scope.names [])) s.heap.objs.size X.env) fp) [] (wipe σ (own.map (·.2))) H { s with heap := pushCells (s.heap.push { cls := .type "dict", data := .dict #[] }) scope.names } := by
  have hfree : ∀ y ∈ scope.names, y.2 = .free → ∃ c, X.env.cells.lookup y.1 = some c := fun y hy e => by
    rcases ok.free y hy e with k | k
    · exact I.ok.has _ (.inl k)
    · exact I.ok.has _ (.inr k)
  generalize hcenv : compEnvC scope (cellsFrom (s.heap.objs.size + 1) scope.names (cloFrom X.env.cells scope.names [])) s.heap.objs.size X.env = cenv
  have kp : ∀ b o, s.heap.get? b = some o → (pushCells (s.heap.push { cls := .type "dict", data := .dict #[] }) scope.names).get? b = some o := fun b o e => pushCells_keeps _ _ _ _ (Heap.get?_push_of_some _ e)
  have hL : cenv.locals = s.heap.objs.size := by rw [← hcenv]; rfl
  have hcl : cenv.cells = cellsFrom (s.heap.objs.size + 1) scope.names (cloFrom X.env.cells scope.names []) := by rw [← hcenv]; rfl
  have hsc : cenv.scope = relS scope X.env.scope := by rw [← hcenv]; rfl
  rw [← Heap.size_push s.heap { cls := .type "dict", data := .dict #[] }] at hcl
  have cm : ∀ {y c}, (y, c) ∈ cloFrom X.env.cells scope.names [] → X.env.cells.lookup y = some c ∧ c < s.heap.objs.size := fun {y c} hm => by
    rcases cloFrom_mem hm with hm | ⟨h1, rfl⟩
    · cases hm
    · obtain ⟨c, hc⟩ := hfree _ h1 rfl
      rw [hc]
      obtain ⟨w, z⟩ := I.cell _ _ hc
      exact ⟨rfl, z.lt⟩
  have mem : ∀ {y c}, cenv.cells.lookup y = some c → (X.env.cells.lookup y = some c ∧ c < s.heap.objs.size) ∨ (s.heap.objs.size + 1 ≤ c ∧ CellAt (pushCells (s.heap.push { cls := .type "dict", data := .dict #[] }) scope.names) c none) := fun {y c} e => by
    rw [hcl] at e
    rcases cells_mem (PySem.mem_of_lookup e) with hm | ⟨_, h2, h3⟩
    · exact .inl (cm hm)
    · rw [Heap.size_push] at h2; exact .inr ⟨h2, h3⟩
  have look : ∀ {y}, scope.names.lookup y = some .free → ∃ c, cenv.cells.lookup y = some c ∧ X.env.cells.lookup y = some c := fun {y} hl => by
    have hy : (y, NameKind.free) ∈ scope.names := PySem.mem_of_lookup hl
    obtain ⟨c', e'⟩ := mem_lookup (cells_acc (names := scope.names) (n := (s.heap.push { cls := .type "dict", data := .dict #[] }).objs.size) (cloFrom_has (cells := X.env.cells) (acc := []) hy))
    rw [← hcl] at e'
    refine ⟨c', e', ?_⟩
    rw [hcl] at e'
    rcases cells_mem (PySem.mem_of_lookup e') with hm | ⟨h1, _, _⟩
    · exact (cm hm).1
    · have := ok.uniq _ h1
      rw [hl] at this; cases this
  have okB : (X.blk s H scope cenv fp).Ok := by
    refine ⟨I.ok.mod, by show cenv.scope.kind = _; rw [hsc]; exact ok.kind, by show cenv.globals = _; rw [← hcenv]; exact I.ok.glob, by show cenv.builtins = _; rw [← hcenv]; exact I.ok.blt, by show s.heap.objs.size ≤ cenv.locals; rw [hL]; exact Nat.le_refl _,
      fun y z c e1 e2 => ?_, fun y hy => ?_, fun y c z e => ?_, I.ok.hd, I.ok.frames, .inl rfl, fun b hb => ⟨?_, fun y c e z => ?_⟩, I.bs, Nat.le_trans I.ok.bsz I.sz, fun b o e hb => ?_, fun b hb z => ?_, I.stack, I.stkFree⟩
    · have e1 : cenv.cells.lookup y = some c := e1
      have e2 : cenv.cells.lookup z = some c := e2
      rw [hcl] at e1 e2
      refine cells_inj (fun p hp => ?_) (fun y z c a b => I.ok.inj y z c (cm a).1 (cm b).1) (PySem.mem_of_lookup e1) (PySem.mem_of_lookup e2)
      rw [Heap.size_push]
      exact Nat.lt_succ_of_lt (cm (y := p.1) (c := p.2) hp).2
    · show ∃ c, cenv.cells.lookup y = some c
      have key : ∀ k, cenv.kindOf y = some k → (k = .cell ∨ k = .free) → ∃ c, cenv.cells.lookup y = some c := fun k hk hk' => by
        unfold Env.kindOf at hk
        rw [hsc] at hk
        obtain ⟨k', e, r⟩ := lookup_relS hk
        have : k' = .cell ∨ k' = .free := by
          rcases r with rfl | ⟨rfl, _⟩
          · exact hk'
          · exact .inr rfl
        rcases this with rfl | rfl
        · obtain ⟨c, hm⟩ := cells_has (n := (s.heap.push { cls := .type "dict", data := .dict #[] }).objs.size) (acc := cloFrom X.env.cells scope.names []) (PySem.mem_of_lookup e)
          obtain ⟨c', e'⟩ := mem_lookup hm
          exact ⟨c', by rw [hcl]; exact e'⟩
        · obtain ⟨c, h1, _⟩ := look e
          exact ⟨c, h1⟩
      rcases hy with hy | hy
      · exact key _ hy (.inl rfl)
      · exact key _ hy (.inr rfl)
    · have z : (scope.names.lookup y == some NameKind.cell) = true := z
      have z : scope.names.lookup y = some .cell := by simpa using z
      have e : cenv.cells.lookup y = some c := e
      rw [hcl] at e
      rcases cells_mem (PySem.mem_of_lookup e) with hm | ⟨_, h2, _⟩
      · rcases cloFrom_mem hm with hm | ⟨h1, _⟩
        · cases hm
        · have q := ok.uniq _ h1
          rw [z] at q; cases q
      · rw [Heap.size_push] at h2
        exact Nat.le_of_succ_le h2
    · show b ≠ cenv.locals
      rw [hL]; exact Nat.ne_of_lt (hfp b hb).2
    · have e : cenv.cells.lookup y = some c := e
      rcases mem e with ⟨h1, _⟩ | ⟨h1, _⟩
      · exact (hfp b hb).1.2.2.2.2.1 y c h1 z
      · have h2 : s.heap.objs.size + 1 ≤ b := by rw [← z]; exact h1
        exact absurd (Nat.lt_of_lt_of_le (hfp b hb).2 (Nat.le_of_succ_le h2)) (Nat.lt_irrefl _)
    · rcases (hfp b hb).1.2.2.2.1 with z | z
      · exact I.ok.noex b o e z
      · exact absurd (Nat.lt_of_lt_of_le (Heap.lt_size e) (Nat.le_trans I.ok.bsz z)) (Nat.lt_irrefl _)
    · rcases List.mem_cons.mp (I.stkSub b z) with z | z
      · exact (hfp b hb).1.2.1 z
      · exact (hfp b hb).1.2.2.1 z
  refine ⟨okB, rfl, I.bare, Un.kept kp, ⟨fun _ => none, ?_, fun i y av e1 e2 e3 => ?_⟩, fun y c e => ?_, ?_, fun y c e => ?_, fun p hp => ?_, I.hok.kept kp, by rw [wipe_length]; exact I.len⟩
  · show Heap.Ns _ cenv.locals _
    rw [hL]
    exact Heap.Ns.keeps (Heap.Ns.new ..) fun b o e => pushCells_keeps _ _ _ _ e
  · obtain ⟨e2, hne⟩ := wipe_some e2
    have hfr : scope.names.lookup y = some .free ∧ (cenv.kindOf y = some .cell ∨ cenv.kindOf y = some .free) := by
      have key : ∀ k, cenv.scope.names.lookup y = some k → k = .local ∨ k = .cell ∨ k = .free → scope.names.lookup y = some .free ∧ (cenv.kindOf y = some .cell ∨ cenv.kindOf y = some .free) := fun k hk hk' => by
        have hk0 := hk
        rw [hsc] at hk
        obtain ⟨k', e, r⟩ := lookup_relS hk
        have no : ¬ (k' = .local ∨ k' = .cell) := fun hh => by
          rcases ok.own _ (PySem.mem_of_lookup e) hh with e' | e'
          · obtain ⟨p, hp, hpy⟩ := List.mem_map.mp e'
            have e3 := ok.ix p hp
            have : p.1 = y := hpy
            rw [this] at e3
            exact hne (List.mem_map.mpr ⟨p, hp, nodup_ix hN e3 e1⟩)
          · exact e' (List.mem_of_getElem? e1)
        rcases r with rfl | ⟨rfl, rfl⟩
        · rcases hk' with rfl | rfl | rfl
          · exact absurd (.inl rfl) no
          · exact absurd (.inr rfl) no
          · exact ⟨e, .inr hk0⟩
        · exact ⟨e, .inl hk0⟩
      have e3 : Vis cenv.scope y := e3
      rcases e3 with e3 | e3 | e3
      · exact key _ e3 (.inl rfl)
      · exact key _ e3 (.inr (.inl rfl))
      · exact key _ e3 (.inr (.inr rfl))
    obtain ⟨m, hn, hl⟩ := I.loc
    have hvis : Vis X.env.scope y := (ok.free _ (PySem.mem_of_lookup hfr.1) rfl).elim (fun k => .inr (.inl k)) (fun k => .inr (.inr k))
    obtain ⟨w, r, q⟩ := hl i y av e1 e2 hvis
    refine ⟨w, r, .inr ⟨hfr.2, ?_⟩⟩
    obtain ⟨c, h1, h2⟩ := look hfr.1
    rcases q with ⟨k, _⟩ | ⟨_, c', e', z⟩
    · have k : X.env.scope.names.lookup y = some .local := k
      rcases ok.free _ (PySem.mem_of_lookup hfr.1) rfl with k' | k' <;> rw [show X.env.scope.names.lookup y = _ from k'] at k <;> cases k
    · rw [h2] at e'; cases e'
      exact ⟨c, h1, z.keeps kp⟩
  · have e : cenv.cells.lookup y = some c := e
    rcases mem e with ⟨h1, _⟩ | ⟨_, z⟩
    · obtain ⟨w, z⟩ := I.cell y c h1
      exact ⟨w, z.keeps kp⟩
    · exact ⟨_, z⟩
  · show H cenv.locals = none
    rw [hL]; exact I.hok.fresh (Nat.le_refl _)
  · have e : cenv.cells.lookup y = some c := e
    rcases mem e with ⟨h1, _⟩ | ⟨h1, _⟩
    · exact I.freeC y c h1
    · exact I.hok.fresh (Nat.le_of_succ_le h1)
  · exact absurd (show p ∈ ([] : List (Addr × Obj)) ++ [] from hp) (by simp)

/-- an item appended to a tracked list -/
theorem app_ok {E : Value → Shared → Prop} {D : Addr} {xs : List V} {y : V} {v : Value} {Q : Value → Shared → Prop} (I : Inv X pins σ H s) (hD : H D = some (.lst xs)) (hz : xs.length < sizeLine) (r : RelV y v)
    (h : ∀ s', Inv X pins σ (upd H D (.lst (xs ++ [y]))) s' → Q .none s') : wpAny (model X.prog X.w) X.A (call (.builtin "list.append") [.ref D, v]) Q E s := by
  obtain ⟨hz', its, n, ri, e⟩ := I.hok D _ hD
  have hl := ri.length
  refine append_at (hsz := by rw [List.size_toArray]; omega) e fun h' sb ho' => ?_
  refine h { s with heap := h' } (I.write (t' := s.toks) (by rw [hD]; trivial) (.inl rfl) (fun b u hb q => (sb.2 b hb).trans q) ⟨_, ho'⟩ ⟨by rw [List.length_append]; exact hz, its ++ [v], n + 1, ri.append (.cons r .nil), ?_⟩)
  rw [ho']
  simp

/-- a clause's tests -/
def PTs (X : Cx) (ifs : List Expr) (t : TT) : Prop :=
  ∀ (pins : List (Addr × Obj)) (s : Shared) (σ : St) (H : Hp) (Q : Bool → Hp → Prop), Inv X pins σ H s → t σ H Q →
    wpAny (model X.prog X.w) X.A (forIn ifs true fun c r => if r = true then do let ok ← isTrue c X.env (eval c X.env); pure (ForInStep.yield ok) else pure (ForInStep.yield r)) (TP X pins σ Q) X.xe s
def tYes : TT := fun _ H Q => Q true H
theorem pts_nil : PTs X [] tYes := fun _ _ _ H _ I h => wpAny_tests_nil ⟨H, I, h⟩
end

theorem thnF {α : Type} {t : Sem α} {Q Q' : α → Shared → Prop} {M : Model} {A : Around} {E : Value → Shared → Prop} {s : Shared} (h : wpAny M A t Q (fun _ _ => False) s) (hQ : ∀ a s, Q a s → Q' a s) : wpAny M A t Q' E s := wpAny_mono h hQ fun _ _ z => False.elim z

/-- the loop of a list comprehension's block, the target of any form (codeAny_compLoop_tests asks a target that no tuple goes to; statement and proof follow it, PyProof/CompMap.lean:41-61, with the step letOwnedTupleGo kept) -/
theorem compLoop_any {prog : Program} {w : World} {A : Around} {R : Result → Shared → Prop} {s : Shared} {elt target iter : Expr} {ifs : List Expr} {scope : Scope} {pos : Pos} {it acc : Value} {env : Env} (I : Nat → Shared → Prop)
    (turn : ∀ n s, I n s → wpAny (model prog w) A (pyNext it) (fun r s₁ => match r with
      | none => R (.ok .next) s₁
      | some v => wpAny (model prog w) A (letOwnedTupleGo target it v) (fun _ s₁' => wpAny (model prog w) A (assign target env v) (fun _ s₂ =>
          wpAny (model prog w) A (forIn ifs true fun c r => if r = true then do let ok ← isTrue c env (eval c env); pure (ForInStep.yield ok) else pure (ForInStep.yield r)) (fun ok s₃ =>
            if ok = true then wpAny (model prog w) A (eval elt env) (fun x s₄ =>
              wpAny (model prog w) A (call (.builtin "list.append") [acc, x]) (fun _ s₅ => ∃ m, m < n ∧ I m s₅) (notedBy (model prog w) A env fun e s' => R (.error e) s') s₄) (notedBy (model prog w) A env fun e s' => R (.error e) s') s₃
            else ∃ m, m < n ∧ I m s₃) (notedBy (model prog w) A env fun e s' => R (.error e) s') s₂) (notedBy (model prog w) A env fun e s' => R (.error e) s') s₁') (notedBy (model prog w) A env fun e s' => R (.error e) s') s₁) (notedBy (model prog w) A env fun e s' => R (.error e) s') s)
    (n : Nat) (h : I n s) :
    codeAny (model prog w) A (.compLoop (.ListComp elt [⟨target, iter, ifs, 0⟩] scope pos) 0 it acc env) R s := by
  refine codeAny_loop rfl I (fun n s hI => ?_) n h
  show wpAny _ A ((compTurn (.ListComp elt [⟨target, iter, ifs, 0⟩] scope pos) 0 it acc env).onRaise (fun x => do noteFrame x env; theTreesLotGoes x)) _ _ s
  refine wpAny_noted ?_
  rw [compTurn_list]
  refine wpAny_bind (wpAny_standAt (wpAny_bind (wpAny_mono (turn n s hI) (fun r s₁ h₁ => ?_) fun _ _ h' => h')))
  cases r with
  | none => exact wpAny_pure h₁
  | some v =>
    refine wpAny_bind (wpAny_mono h₁ (fun _ s₁' h₁' => ?_) fun _ _ h' => h')
    refine wpAny_bind (wpAny_mono h₁' (fun _ s₂ h₂ => wpAny_bind (wpAny_mono h₂ (fun ok s₃ h₃ => ?_) fun _ _ h' => h')) fun _ _ h' => h')
    cases ok with
    | false => exact wpAny_pure ⟨rfl, h₃⟩
    | true =>
      exact wpAny_bind (wpAny_bind (wpAny_mono h₃ (fun x s₄ h₄ => wpAny_bind (wpAny_mono h₄ (fun _ s₅ h₅ => wpAny_pure (wpAny_pure ⟨rfl, h₅⟩)) fun _ _ h' => h')) fun _ _ h' => h'))

section
variable {X : Cx}
/-- [elt for target in iter if ..]: D the new list; W by the turn and a measure, Nx what a turn is to reach -/
def tLc (wi : TI) (g : TG) (tt : TT) (te : TE) (vs : List Nat) : TE := fun σ H Q => wi σ H fun J H1 => ∀ D, H1 D = none → ∃ W : Nat → Nat → Hp → Prop, (∃ m, W 0 m (upd H1 D (.lst []))) ∧ ∀ i m H, W i m H →
  (J.stop i H ∧ Q (.ref D) H) ∨ (J.go i H ∧ ∃ Nx : Hp → Prop, (∀ H', Nx H' → ∃ m', m' < m ∧ W (i + 1) m' H') ∧ ∀ x H', J.yld i H x H' → g x (wipe σ vs) H' fun σ2 H2 => wipe σ2 vs = wipe σ vs ∧ tt σ2 H2 fun b H3 =>
    if b = true then te σ2 H3 fun y H4 => ∃ acc, H4 D = some (.lst acc) ∧ acc.length < sizeLine ∧ Nx (upd H4 D (.lst (acc ++ [y]))) else Nx H3)
theorem lc_core {pins : List (Addr × Obj)} {s : Shared} {σ : St} {H : Hp} {Q : VK} {elt tg iter : Expr} {ifs : List Expr} {scope : Scope} {own : List (Str × Nat)} {pos pos' : Pos} {wi : TI} {g : TG} {tt : TT} {te : TE} {use : Option (Value → Sem Unit)} {Qf : Value → Shared → Prop}
    (hc : X.calm = true) (hN : X.N.Nodup) (I : Inv X pins σ H s) (hi : PI X tg iter wi) (ok : BlkOk X.N X.env.scope scope own)
    (hg : ∀ (s : Shared) (H : Hp) (C : Addr) (cl : List (Str × Addr)) (fp : List Addr), PG (X.blk s H scope (compEnvC scope cl C X.env) fp) tg g) (ht : ∀ (s : Shared) (H : Hp) (C : Addr) (cl : List (Str × Addr)) (fp : List Addr), PTs (X.blk s H scope (compEnvC scope cl C X.env) fp) ifs tt)
    (he : ∀ (s : Shared) (H : Hp) (C : Addr) (cl : List (Str × Addr)) (fp : List Addr), PE (X.blk s H scope (compEnvC scope cl C X.env) fp) elt te) (hs : ∀ x, foldedSetIterable iter X.env x = pure x)
    (h : tLc wi g tt te (own.map (·.2)) σ H Q)
    (hRR : ∀ D C s' m H', Inv X pins σ H' s' → Q (.ref D) H' → s'.heap.Ns C m → FpOk X pins H' C → compPost (model X.prog X.w) X.A X.xe use Qf (.ref D) C (.ok .next) s') :
    wpAny (model X.prog X.w) X.A (comprehension (.ListComp elt [⟨tg, iter, ifs, 0⟩] scope pos) scope X.env pos' (newList []) false (eval iter X.env) use) Qf X.xe s := by
  have hfree : ∀ y ∈ scope.names, y.2 = .free → ∃ c, X.env.cells.lookup y.1 = some c := fun y hy e => by
    rcases ok.free y hy e with k | k
    · exact I.ok.has _ (.inl k)
    · exact I.ok.has _ (.inr k)
  refine wpAny_comprehension_free (use := use) rfl hs (closure_ok hfree) ok.kind (fun y hy e => by rw [ok.uniq y hy, e])
    (thn (hi pins s σ H _ I h) fun xv s1 hx => thn hx fun itv s2 h2 => ?_)
  obtain ⟨it, fp, tn, J, H2, e, I2, T, st2, f2, q⟩ := h2
  subst e
  refine wpAny_newObj_type (newEnv_comp ?_) (by show 0 ≤ sizeLine; decide)
  generalize hD : s2.heap.objs.size = D
  have hDn : H2 D = none := I2.hok.fresh (Nat.le_of_eq hD)
  obtain ⟨W, ⟨m0, w0⟩, turn⟩ := q D hDn
  -- the new list
  generalize hs3 : ({ s2 with heap := s2.heap.push { cls := .type "list", data := .seq ([] : List Value).toArray } } : Shared) = s3
  have I3 : Inv X pins σ (upd H2 D (.lst [])) s3 := by
    rw [← hs3]
    refine I2.laid (t' := s2.toks) (fun b o e => Heap.get?_push_of_some _ e) (Nat.le_of_eq hD) ⟨Nat.zero_le _, [], 0, .nil, ?_⟩
    rw [← hD]
    exact Heap.get?_push_size _ rfl
  have h3 : s3.heap = s2.heap.push { cls := .type "list", data := .seq ([] : List Value).toArray } := by rw [← hs3]
  have sz : ∀ b ∈ fp, b < s2.heap.objs.size := fun b hb => by
    obtain ⟨o, e, _⟩ := T.obj _ _ st2 b hb
    exact Heap.lt_size e
  have f3 : ∀ b ∈ fp, FpOk X pins (upd H2 D (.lst [])) b ∧ b < s3.heap.objs.size := fun b hb => by
    have hlt := sz b hb
    refine ⟨⟨?_, (f2 b hb).2⟩, by rw [h3, Heap.size_push]; exact Nat.lt_succ_of_lt hlt⟩
    rw [upd_ne (by rw [← hD]; exact Nat.ne_of_lt hlt)]
    exact (f2 b hb).1
  have st3 : tn 0 s3.heap := T.keep _ _ _ st2 fun b _ o e => by rw [h3]; exact Heap.get?_push_of_some _ e
  have I4 := block_start I3 ok hN f3
  have pg := hg s3 (upd H2 D (.lst [])) s3.heap.objs.size (cellsFrom (s3.heap.objs.size + 1) scope.names (cloFrom X.env.cells scope.names [])) fp
  have pt := ht s3 (upd H2 D (.lst [])) s3.heap.objs.size (cellsFrom (s3.heap.objs.size + 1) scope.names (cloFrom X.env.cells scope.names [])) fp
  have pe := he s3 (upd H2 D (.lst [])) s3.heap.objs.size (cellsFrom (s3.heap.objs.size + 1) scope.names (cloFrom X.env.cells scope.names [])) fp
  show codeAny _ _ (.compStart (.ListComp elt [⟨tg, iter, ifs, 0⟩] scope pos) 0 (.ref it) (.ref D) (compEnvC scope (cellsFrom (s3.heap.objs.size + 1) scope.names (cloFrom X.env.cells scope.names [])) s3.heap.objs.size X.env)) (compPost (model X.prog X.w) X.A X.xe use Qf (.ref D) s3.heap.objs.size) { s3 with heap := pushCells (s3.heap.push { cls := .type "dict", data := .dict #[] }) scope.names }
  have nfp : ∀ b ∈ fp, (upd H2 D (.lst [])) b = none := fun b hb => (f3 b hb).1.1
  generalize hce : compEnvC scope (cellsFrom (s3.heap.objs.size + 1) scope.names (cloFrom X.env.cells scope.names [])) s3.heap.objs.size X.env = ce at I4 pg pt pe ⊢
  have cL : ce.locals = s3.heap.objs.size := by subst hce; rfl
  generalize hH3 : upd H2 D (.lst []) = H3 at I3 I4 pg pt pe w0 nfp f3
  generalize hs4 : ({ s3 with heap := pushCells (s3.heap.push { cls := .type "dict", data := .dict #[] }) scope.names } : Shared) = s4 at I4 ⊢
  have st4 : tn 0 s4.heap := T.keep _ _ _ st3 fun b _ o e => by rw [← hs4]; exact pushCells_keeps _ _ _ _ (Heap.get?_push_of_some _ e)
  have stat : ∀ {σ' : St} {H' : Hp} {s' : Shared}, Inv (X.blk s3 H3 scope ce fp) [] σ' H' s' → (∀ b ∈ fp, H' b = none) → ∀ b ∈ fp, FpOk (X.blk s3 H3 scope ce fp) [] H' b := fun {σ' H' s'} I' hn b hb =>
    ⟨hn b hb, (I'.ok.exf b hb).1, I'.ok.exfs b hb, .inl hb, fun x c e => (I'.ok.exf b hb).2 x c e, fun p hp => absurd (show p ∈ ([] : List (Addr × Obj)) ++ [] from hp) (by simp)⟩
  have loop : codeAny (model X.prog X.w) X.A (.compLoop (.ListComp elt [⟨tg, iter, ifs, 0⟩] scope pos) 0 (.ref it) (.ref D) ce) (compPost (model X.prog X.w) X.A X.xe use Qf (.ref D) s3.heap.objs.size) s4 := by
    refine compLoop_any (fun n s' => ∃ i H', Inv (X.blk s3 H3 scope ce fp) [] (wipe σ (own.map (·.2))) H' s' ∧ tn i s'.heap ∧ (∀ b ∈ fp, H' b = none) ∧ W i n H') ?_ m0 ⟨0, H3, I4, st4, nfp, w0⟩
    rintro n s5 ⟨i, H5, I5, st5, n5, w5⟩
    rcases turn i n H5 w5 with ⟨stop, qq⟩ | ⟨go, Nx, hNx, step⟩
    · have td := T.done (X.blk s3 H3 scope ce fp) rfl rfl rfl hc i [] s5 _ H5 (fun _ _ => False) I5 (stat I5 n5) st5 stop
      refine thnF td fun r s6 ⟨hr, I6⟩ => ?_
      subst hr
      -- back in the def's context
      have I7 : Inv X pins σ H5 s6 := I3.call' (ch := fp) I6.os I6.base I6.hok I6.bare fun b hb => ⟨(f3 b hb).1.2.2.2.1, (f3 b hb).1.2.1, (f3 b hb).1.2.2.2.2.1, (f3 b hb).1.2.2.2.2.2⟩
      have nC : H5 s3.heap.objs.size = none := by
        have z : H5 ce.locals = none := I6.free
        rw [cL] at z
        exact z
      obtain ⟨m, hn, _⟩ := I6.loc
      have hn : s6.heap.Ns ce.locals m := hn
      rw [cL] at hn
      exact hRR D s3.heap.objs.size s6 m H5 I7 qq hn (I3.fpOk (Nat.le_refl _) nC)
    · have ti := T.item (X.blk s3 H3 scope ce fp) rfl rfl rfl hc i [] s5 _ H5 (fun _ _ => False) I5 (stat I5 n5) st5 go
      refine thnF ti fun r s6 ⟨u, hr, h6⟩ => ?_
      subst hr
      refine thnF h6 fun _ s7 ⟨x, H7, I7, r7, y7, st7, n7⟩ => ?_
      have I7' := I7.pinned (stat I7 n7) (T.obj _ _ st7)
      refine thnF (pg _ s7 _ H7 x u _ I7' r7 (step x H7 y7)) fun _ s8 ⟨σ8, H8, I8, hw8, q8⟩ => ?_
      refine thnF (pt _ s8 σ8 H8 _ I8 q8) fun b s9 ⟨H9, I9, q9⟩ => ?_
      -- the turn's end
      have fin : ∀ {s' : Shared} {H' : Hp}, Inv (X.blk s3 H3 scope ce fp) ([] ++ pinsAt fp s7.heap) σ8 H' s' → Nx H' → ∃ m, m < n ∧ ∃ i H', Inv (X.blk s3 H3 scope ce fp) [] (wipe σ (own.map (·.2))) H' s' ∧ tn i s'.heap ∧ (∀ b ∈ fp, H' b = none) ∧ W i m H' := fun {s' H'} I' nx => by
        obtain ⟨m', hm, w'⟩ := hNx H' nx
        have pin' : ∀ b ∈ fp, ∀ o, s7.heap.get? b = some o → s'.heap.get? b = some o ∧ H' b = none := fun b hb o e =>
          let z := I'.pin (b, o) (List.mem_append_right _ (List.mem_append_right _ (mem_pinsAt hb e)))
          ⟨z.1, z.2.1⟩
        have hl : (wipe σ (own.map (·.2))).length = σ8.length := by rw [← hw8, wipe_length]
        refine ⟨m', hm, i + 1, H', (I'.unpinned (pins := [])).weak hl (fun j v e => ?_), T.keep _ _ _ st7 fun b hb o e => (pin' b hb o e).1, fun b hb => ?_, w'⟩
        · rw [← hw8] at e
          exact (wipe_some e).1
        · obtain ⟨o, e, _⟩ := T.obj _ _ st7 b hb
          exact (pin' b hb o e).2
      cases b with
      | false =>
        simp only [Bool.false_eq_true, if_false] at q9 ⊢
        exact fin I9 q9
      | true =>
        simp only [if_true] at q9 ⊢
        refine thnF (pe _ s9 σ8 H9 _ I9 q9) fun z s10 ⟨yv, H10, I10, r10, acc, hD10, hz10, nx⟩ => ?_
        exact app_ok (X := X.blk s3 H3 scope ce fp) I10 hD10 hz10 r10 fun s11 I11 => fin I11 nx
  exact codeAny_compStart_list loop (T.self X.A 0 _ _ _ st4 loop)
/-- as a value -/
theorem pe_lc {elt tg iter : Expr} {ifs : List Expr} {scope : Scope} {own : List (Str × Nat)} {pos : Pos} {wi : TI} {g : TG} {tt : TT} {te : TE} (hc : X.calm = true) (hN : X.N.Nodup) (hi : PI X tg iter wi) (ok : BlkOk X.N X.env.scope scope own)
    (hg : ∀ (s : Shared) (H : Hp) (C : Addr) (cl : List (Str × Addr)) (fp : List Addr), PG (X.blk s H scope (compEnvC scope cl C X.env) fp) tg g) (ht : ∀ (s : Shared) (H : Hp) (C : Addr) (cl : List (Str × Addr)) (fp : List Addr), PTs (X.blk s H scope (compEnvC scope cl C X.env) fp) ifs tt)
    (he : ∀ (s : Shared) (H : Hp) (C : Addr) (cl : List (Str × Addr)) (fp : List Addr), PE (X.blk s H scope (compEnvC scope cl C X.env) fp) elt te) (hs : ∀ x, foldedSetIterable iter X.env x = pure x := by intro _; rfl) :
    PE X (.ListComp elt [⟨tg, iter, ifs, 0⟩] scope pos) (tLc wi g tt te (own.map (·.2))) := by
  intro pins s σ H Q I h
  rw [eval_ListComp]
  refine lc_core hc hN I hi ok hg ht he hs h fun D C s' m H' I' q hn f => ⟨m, hn, fun h'' sb => ?_⟩
  obtain ⟨f0, f1, f2, f3, f4, f5⟩ := f
  exact ⟨.ref D, H', I'.turned (t' := s'.toks) (fun b o hb e => (sb.2 b hb).trans e) f0 f1 f3 f4 f5, rfl, q⟩
end

def blkC (N : List Str) (sc scope : Scope) (own : List (Str × Nat)) : Bool :=
  (match scope.kind with | .function => true | _ => false) && (scope.names.all fun y => decide (scope.names.lookup y.1 = some y.2)) && (own.all fun p => decide (N[p.2]? = some p.1)) &&
    (scope.names.all fun y => match y.2 with
      | .free => (match sc.names.lookup y.1 with | some .cell => true | some .free => true | _ => false)
      | .local => decide (y.1 ∈ own.map (·.1)) || decide (y.1 ∉ N)
      | .cell => decide (y.1 ∈ own.map (·.1)) || decide (y.1 ∉ N)
      | _ => true)
theorem blkOk_by {N : List Str} {sc scope : Scope} {own : List (Str × Nat)} (h : blkC N sc scope own = true) : BlkOk N sc scope own := by
  unfold blkC at h
  simp only [Bool.and_eq_true, List.all_eq_true, decide_eq_true_eq] at h
  obtain ⟨⟨⟨h1, h2⟩, h3⟩, h4⟩ := h
  refine ⟨?_, h2, h3, fun y hy e => ?_, fun y hy e => ?_⟩
  · split at h1
    · assumption
    · cases h1
  · have q := h4 y hy
    simp only [e] at q
    split at q <;> first | exact .inl (by assumption) | exact .inr (by assumption) | cases q
  · have q := h4 y hy
    rcases e with e | e <;> (simp only [e, Bool.or_eq_true, decide_eq_true_eq] at q; exact q)
end L2

namespace L2
open PySem PySem.Spec PyProof.Rows

section
variable {prog : Program} {w : World} {A : Around} {R : Result → Shared → Prop} {s : Shared} {elt t0 i0 t1 i1 : Expr} {ifs0 ifs1 : List Expr} {scope : Scope} {pos : Pos} {it acc : Value} {env : Env}
end

section
variable {X : Cx}
end
end L2

namespace L2
open PySem PySem.Spec PyProof.Rows

section
variable {κ : Type} [DecidableEq κ]
def valV (kvs : List (κ × V)) (k : κ) : Option V := (kvs.find? fun kv => decide (kv.1 = k)).map (·.2)
/-- in its place, or at the end -/
def putK (kvs : List (κ × V)) (k : κ) (v : V) : List (κ × V) :=
  if (kvs.any fun kv => decide (kv.1 = k)) = true then kvs.map (fun kv => if kv.1 = k then (kv.1, v) else kv) else kvs ++ [(k, v)]
def dropK (kvs : List (κ × V)) (k : κ) : List (κ × V) := kvs.filter fun kv => decide (kv.1 ≠ k)

theorem KV.drop {kvs : List (κ × V)} {vs : List (κ × Value)} (r : KV kvs vs) (k : κ) : KV (dropK kvs k) (without vs k) := by
  unfold KV at r ⊢
  unfold dropK without
  induction r with
  | nil => exact .nil
  | @cons p q ps qs h t ih =>
    obtain ⟨h1, h2⟩ := h
    rw [List.filter_cons, List.filter_cons]
    by_cases e : p.1 = k
    · have a : ¬ decide (p.1 ≠ k) = true := by simp [e]
      have b : ¬ decide (q.1 ≠ k) = true := by simp [h1.symm.trans e]
      rw [if_neg a, if_neg b]; exact ih
    · have e' : ¬ q.1 = k := fun z => e (h1.trans z)
      have a : decide (p.1 ≠ k) = true := by simp [e]
      have b : decide (q.1 ≠ k) = true := by simp [e']
      rw [if_pos a, if_pos b]; exact .cons ⟨h1, h2⟩ ih
theorem KV.length {kvs : List (κ × V)} {vs : List (κ × Value)} (r : KV kvs vs) : kvs.length = vs.length := Paired.length r
end

section
variable {P : Program} {w : World} {H : Hp} {h : Heap} {a : Addr}
end

/-- what the dict at a holds at the key y -/
def DGet (H : Hp) (a : Addr) (y : V) (r : Option V) : Prop :=
  (∃ kvs k, Rd H a (.dK kvs) ∧ y = kV k ∧ r = valV kvs k) ∨ ∃ kvs k b, Rd H a (.dT kvs) ∧ y = .ref b ∧ H b = some (.tup (k.map kV)) ∧ r = valV kvs k
/-- the heap behind a[y] = v -/
def DPut (H : Hp) (a : Addr) (y v : V) (H' : Hp) : Prop :=
  (∃ kvs k, H a = some (.dK kvs) ∧ y = kV k ∧ kvs.length < sizeLine ∧ H' = upd H a (.dK (putK kvs k v))) ∨
  ∃ kvs k b, H a = some (.dT kvs) ∧ y = .ref b ∧ H b = some (.tup (k.map kV)) ∧ kvs.length < sizeLine ∧ H' = upd H a (.dT (putK kvs k v))
theorem DGet.k {H : Hp} {a : Addr} {kvs : List (Key × V)} {k : Key} (e : H a = some (.dK kvs)) : DGet H a (kV k) (valV kvs k) := .inl ⟨kvs, k, .inl e, rfl, rfl⟩
theorem DGet.t {H : Hp} {a b : Addr} {kvs : List (List Key × V)} {k : List Key} (e : H a = some (.dT kvs)) (eb : H b = some (.tup (k.map kV))) : DGet H a (.ref b) (valV kvs k) := .inr ⟨kvs, k, b, .inl e, rfl, eb, rfl⟩
theorem DPut.k {H : Hp} {a : Addr} {kvs : List (Key × V)} {k : Key} {v : V} (e : H a = some (.dK kvs)) (hl : kvs.length < sizeLine) : DPut H a (kV k) v (upd H a (.dK (putK kvs k v))) := .inl ⟨kvs, k, e, rfl, hl, rfl⟩
theorem DPut.t {H : Hp} {a b : Addr} {kvs : List (List Key × V)} {k : List Key} {v : V} (e : H a = some (.dT kvs)) (eb : H b = some (.tup (k.map kV))) (hl : kvs.length < sizeLine) :
    DPut H a (.ref b) v (upd H a (.dT (putK kvs k v))) := .inr ⟨kvs, k, b, e, rfl, eb, hl, rfl⟩

section
variable {X : Cx} {pins : List (Addr × Obj)} {σ : St} {H : Hp} {s : Shared} {a : Addr} {y v : V} {u r : Value} {o : Option V} {A : Around} {E : Value → Shared → Prop}

end

section
variable {X : Cx} {pins : List (Addr × Obj)} {σ : St} {H : Hp} {s : Shared} {a : Addr} {kvs : List (Key × V)} {k : Key} {u : Value} {A : Around} {E : Value → Shared → Prop}
end

section
variable {X : Cx} {o i e value : Expr} {pos pos' tpos : Pos} {td ty tv : TE}
end

section
variable {X : Cx} {pos : Pos}
end

section
variable {X : Cx} {pins : List (Addr × Obj)} {σ : St} {H : Hp} {s : Shared} {a : Addr} {y d : V} {u r : Value} {o : Option V} {A : Around} {E : Value → Shared → Prop}
end

section
variable {X : Cx} {o e f : Expr} {apos cpos : Pos} {td ty tx : TE}
end

section
variable {X : Cx} {pins : List (Addr × Obj)} {σ : St} {H : Hp} {s : Shared} {a : Addr} {kvs : List (Key × V)} {A : Around} {E : Value → Shared → Prop}
end

section
variable {X : Cx} {pins : List (Addr × Obj)} {σ : St} {H : Hp} {s : Shared} {a : Addr} {y : V} {u : Value} {A : Around} {E : Value → Shared → Prop}
end
end L2

namespace L2
open PySem PySem.Spec PyProof.Rows

section
variable {prog : Program} {w : World} {A : Around} {E : Value → Shared → Prop}
end

section
variable {X : Cx}
end
end L2

namespace L2
open PySem PySem.Spec PyProof.Rows

section
variable {X : Cx} {pins : List (Addr × Obj)} {σ : St} {H : Hp} {s : Shared} {h' : Heap}
/-- .. and one new object is laid -/
theorem Inv.turnedNew {t' : Nat} {ch : List Addr} {T : Addr} {ob : HO} (I : Inv X pins σ H s) (k : ∀ b o, b ∉ ch → s.heap.get? b = some o → h'.get? b = some o) (hf : ∀ b ∈ ch, FpOk X pins H b) (hT : s.heap.objs.size ≤ T)
    (new : ObjOk X.prog X.w (upd H T ob) h' T ob) : Inv X pins σ (upd H T ob) { s with heap := h', toks := t' } := by
  have hn : H T = none := I.hok.fresh hT
  have nit : ∀ b u, H b = some u → b ∉ ch := fun b u e z => by
    have q := (hf b z).1
    rw [q] at e; cases e
  refine I.step (g' := s.gens) (d' := s.drawn) (ch := ch) (fun b hb => ⟨(hf b hb).2.2.2.1, (hf b hb).2.1, (hf b hb).2.2.2.2.1, (hf b hb).2.2.2.2.2⟩) (fun b o _ _ hc e _ => k b o hc e) (fun b o _ _ hc e _ => ⟨o.slots, k b o hc e⟩)
    (fun b o _ e n => ?_) (fun b o hc e => ⟨o, k b o hc e⟩) (fun b xs e => ?_) (fun b o u e => ?_) (fun b ps e => ⟨#[], ?_⟩) (fun m hm => ?_) (fun b u e => ?_) I.bare
  · rw [upd_ne (Nat.ne_of_lt (Nat.lt_of_lt_of_le (Heap.lt_size e) hT))]; exact n
  · rw [upd_ne (ne_of_none e hn)]; exact e
  · rw [upd_ne (ne_of_none e hn)]; exact e
  · rw [upd_ne (ne_of_none e hn), e]; simp
  · obtain ⟨o, es, ep, ho, r⟩ := hm
    exact ⟨o, es, ep, k _ o (fun z => (hf _ z).2.1 rfl) ho, r⟩
  · by_cases hb : b = T
    · subst hb
      rw [upd_same] at e
      cases e
      exact new
    · rw [upd_ne hb] at e
      refine (I.hok b u e).stay (fun c v hc q => k c v ?_ q) (fun c q => by rw [upd_ne (ne_of_none q hn)]; exact q) fun c xs q => by rw [upd_ne (ne_of_none q hn)]; exact q
      rcases hc with z | z
      · rw [z]; exact nit b u e
      · exact nit c _ z

end
section
variable {X : Cx}
end

section
variable {X : Cx} {tg : Expr}
end
section
variable {X : Cx} {tg : Expr}
end

section
variable {prog : Program} {w : World} {A : Around} {E : Value → Shared → Prop} {s : Shared}
end

section
variable {X : Cx} {pins : List (Addr × Obj)} {σ : St} {H : Hp} {s : Shared} {d : Addr} {o : Obj}
end

section
variable {P : Program} {w : World} {K : PySem.W.Frag} {tg : Expr} {d : Addr} {o : Obj} {es : Array DictEntry} {ep : Nat}
end

section
variable {X : Cx} {tg e : Expr} {td : TE} {apos cpos : Pos}
end

/-- the list at a as it stands at each turn, each item in a new pair -/
def Ite (K : PySem.W.Frag) (a : Addr) : It :=
  ⟨fun i H => ∃ (xs : List V) (x : V), SqL K H a xs ∧ xs[i]? = some x, fun i H v H' => ∃ T x, v = .ref T ∧ H T = none ∧ H' = upd H T (.tup [.int (i : Nat), x]) ∧ ∀ xs, SqL K H a xs → xs[i]? = some x, fun i H => ∃ xs : List V, SqL K H a xs ∧ xs.length ≤ i⟩
theorem turn_enum {P : Program} {w : World} {K : PySem.W.Frag} {elts : List Expr} {kk : Nat} {tpos : Pos} (a e it : Addr) :
    Turn P w K (.Tuple elts kk tpos) (Ite K a) [e, it] e (fun i h => (∃ old, IsEnum h e it ((i : Nat) : Int) old) ∧ h.IsListIter it a i ∧ e ≠ it) where
  mem := by simp
  obj := fun i h st b hb => by
    obtain ⟨⟨old, he⟩, ⟨o, ho, hc, hd⟩, _⟩ := st
    have e' : b = e ∨ b = it := by simpa using hb
    rcases e' with z | z
    · rw [z]; exact ⟨_, he, fun v q => nomatch q⟩
    · rw [z]; exact ⟨o, ho, fun v q => by rw [hd] at q; cases q⟩
  keep := fun i h h' st k => let ⟨⟨old, he⟩, hi, hne⟩ := st; ⟨⟨old, k e (by simp) _ he⟩, hi.at fun o q => k it (by simp) o q, hne⟩
  item := by
    intro X hP hw hK hc i pins s σ H E I hf st hg
    subst hP hw hK
    obtain ⟨⟨old, he⟩, hit, hne⟩ := st
    obtain ⟨xs, x, hq, hx⟩ := hg
    obtain ⟨its, rv, p, hz⟩ := I.list hq
    obtain ⟨u, hu, ru⟩ := rv.get hx
    have hel : e < s.heap.objs.size := Heap.lt_size he
    have hil : it < s.heap.objs.size := by obtain ⟨_, q, _⟩ := hit; exact Heap.lt_size q
    refine wpAny_pyNext_enum_item he hit p.isList (x := u) (by simpa using hu) hne fun h' ho hit' hT hsz hk => ?_
    refine ⟨_, rfl, wpAny_letOwnedTupleGo_enum (s := { s with heap := h', toks := s.toks + 1 }) ho fun h'' he' sb => ?_⟩
    have hT2 : h''.get? s.heap.objs.size = some { cls := .type "tuple", data := .seq #[.int i s.toks, u] } := (sb.2 _ (Nat.ne_of_gt hel)).trans hT
    have new : ObjOk X.prog X.w (upd H s.heap.objs.size (.tup [.int (i : Nat), x])) h'' s.heap.objs.size (.tup [.int (i : Nat), x]) :=
      ⟨by show 2 ≤ sizeLine; decide, [.int i s.toks, u], .cons ⟨_, rfl⟩ (.cons ru .nil), ⟨_, hT2, rfl, _, rfl⟩⟩
    have I1 : Inv X pins σ (upd H s.heap.objs.size (.tup [.int (i : Nat), x])) { s with heap := h'', toks := s.toks + 1 } :=
      I.turnedNew (ch := [e, it]) (fun b ob hb q => (sb.2 b (fun z => hb (by simp [z]))).trans (hk b ob (fun z => hb (by simp [z])) (fun z => hb (by simp [z])) q)) hf (Nat.le_refl _) new
    refine ⟨.ref s.heap.objs.size, _, I1, rfl, ⟨_, x, rfl, I.hok.fresh (Nat.le_refl _), rfl, fun ys hy => by rw [I.list_inj hy hq]; exact hx⟩, ⟨⟨u, ?_⟩, hit'.at fun o q => (sb.2 it (Ne.symm hne)).trans q, hne⟩, fun b hb => ?_⟩
    · have e1 : ((i + 1 : Nat) : Int) = (i : Int) + 1 := by omega
      rw [e1]; exact he'
    · have hb' : b < s.heap.objs.size := by
        have e' : b = e ∨ b = it := by simpa using hb
        rcases e' with z | z
        · rw [z]; exact hel
        · rw [z]; exact hil
      rw [upd_ne (Nat.ne_of_lt hb')]
      exact (hf b hb).1
  done := by
    intro X hP hw hK hc i pins s σ H E I hf st hg
    subst hP hw hK
    obtain ⟨⟨old, he⟩, hit, hne⟩ := st
    obtain ⟨xs, hq, hx⟩ := hg
    obtain ⟨its, rv, p, hz⟩ := I.list hq
    obtain ⟨f0, f1, f2, f3, f4, f5⟩ := hf it (by simp)
    have hl := rv.length
    exact wpAny_pyNext_enum_end (I.ok.hd hc) he hit p.isList (by simp; omega) fun h' eb => ⟨rfl, I.turned (t' := s.toks) (fun b o hb q => eb b o hb q) f0 f1 f3 f4 f5⟩
  self := fun A i s Q E st h => let ⟨⟨_, he⟩, _⟩ := st; wpAny_pyIter_enum he h
def iEnum (K : PySem.W.Frag) (ta : TA) : TI := fun σ H R => ta σ H fun vs H1 => ∃ a xs, vs = [.ref a] ∧ SqL K H1 a xs ∧ R (Ite K a) H1
theorem pi_enum {X : Cx} {e : Expr} {ta : TA} {p pos tpos : Pos} {elts : List Expr} {kk : Nat} (hg : Gl X "enumerate") (hm : X.mg "enumerate" = none) (ha : PA X [e] ta) (hs : starEach [e] X.env = [(false, eval e X.env)] := by rfl) :
    PI X (.Tuple elts kk tpos) (.Call (.Name "enumerate" p) [e] [] pos) (iEnum X.K ta) := by
  intro pins s σ H R I h
  refine Call_ (ld_blt I hg hm boot_enumerate (PyProof.Rows.callWith_type1 (thn (ha pos pins s σ H _ I h) fun us s1 ⟨vs, H1, I1, r1, q1⟩ => ?_) hs rfl))
  obtain ⟨a, xs, ex, hq, q⟩ := q1
  subst ex
  cases r1 with
  | cons r rr =>
    cases rr
    cases r
    obtain ⟨its, rv, p', hz⟩ := I1.list hq
    refine call_enumerate_list p'.isList fun h' he hit hsz hk => wpAny_pyIter_enum he ?_
    have I2 : Inv X pins σ H1 { s1 with heap := h' } := I1.kept (t' := s1.toks) hk
    refine ⟨s1.heap.objs.size + 1, [s1.heap.objs.size + 1, s1.heap.objs.size], _, _, H1, rfl, I2, turn_enum a (s1.heap.objs.size + 1) s1.heap.objs.size, ⟨⟨.none, he⟩, hit, Nat.succ_ne_self _⟩, fun b hb => ?_, q⟩
    have e' : b = s1.heap.objs.size + 1 ∨ b = s1.heap.objs.size := by simpa using hb
    have hle : s1.heap.objs.size ≤ b := by
      rcases e' with z | z
      · rw [z]; exact Nat.le_add_right _ _
      · rw [z]; exact Nat.le_refl _
    exact I1.fpOk hle (I1.hok.fresh hle)
end L2

section 
namespace Bits
open PySem PyProof.Rows

end Bits
end 

section 
namespace TL
open PySem PySem.Builtin PySem.Builtin.Str PySem.StrLaws

end TL
end 

namespace L2
open PySem PySem.Spec PyProof.Rows

section
variable {X : Cx} {pins : List (Addr × Obj)} {σ : St} {H : Hp} {s : Shared} {Q : VK}
end

section
variable {X : Cx}

end

section
variable {X : Cx} {o e : Expr} {to te : TE}
end
end L2

namespace L2
open PySem PySem.Spec PyProof.Rows

section
variable {X : Cx}
end

end L2

namespace Att
open PySem PySem.W PySem.Calls PyProof.Rows

section
variable {prog : Program} {w : World} {A : Around} {E : Value → Shared → Prop} {s : Shared} {K : Frag}

end
end Att

namespace L2
open PySem PySem.Spec PyProof.Rows

end L2

namespace L2
open PySem PySem.Spec PyProof.Rows

end L2

/- THE LAST THEOREM (shape; LID, My.* are yours):
   My.Adr: a structure of the addresses that your layer names (classes, functions); My.Txt K t: a structure (Prop) of the equations over K;
   My.txt_mk : {K} {implicit addresses ..} (e1 : nsIn K mainGlobals "law" = some (some (.ref f))) (e2 : K.lookup f = some ⟨oc, od, .func (fnOf "law" "law" params body scope dV kV doc pm an cdv ct), sl⟩) (e3 : codeIn K cdv "law" = true) .. : ∃ t, My.Txt K t

set_option maxRecDepth 100000 in
set_option maxHeartbeats 0 in
theorem PySem.Challenge.cw_LID_holds : PySem.Challenge.rw_LID.Holds := by
  w_on; o_law; k_head; (case hw => w_witness2)
  k_fill
  refine L2.walk_of (l := PySem.Challenge.rw_LID) (n := 63) (k := 40) (x := "script") (CX := fun w => ..) (sp := fun _ => My.sp_law) rfl (by decide) rfl ⟨rfl, by decide, by decide⟩ (fun w h Y => PySem.W.kIn_of Y) ?F ?S ?C
  case F =>
    intro w mg fa h KX G hmg
    have T : ∃ t, My.Txt (L2.KOf KX) t := by
      dsimp only [L2.KOf]                          -- K must stand as «<heap const> w.params» for k_is
      refine' My.txt_mk ?e1 ?e2 ?e3 ..
      (case e1 => PySem.W.k_is)                    -- in the order: a name -> its address -> its object -> its parts
      (case e2 => PySem.W.k_is)
      ..
    obtain ⟨t, T⟩ := T
    have e0 := hmg.symm.trans (PySem.W.mg_of KX G T.law)
    cases e0                                       -- fa is the law's own address
    exact ⟨_, fun s u => .of_eq rfl, fun base kb nb => My.law_fn T kb nb⟩     -- if «.of_eq rfl» comes too early: refine' ⟨_, ?b, fun base kb nb => My.law_fn T kb nb⟩; exact fun s u => .of_eq rfl
  case S => exact fun w H a ns hl hO hS => ..
  case C => exact ..
(the tactic k_is has no namespace: write k_is) -/

namespace L2
open PySem PySem.Spec PyProof.Rows

def defArgs (s : Stmt) : Arguments := match s with
  | .FunctionDef _ a _ _ _ _ _ _ _ _ => a
  | _ => { posonlyargs := [], args := [], vararg := none, kwonlyargs := [], kw_defaults := [], kwarg := none, defaults := [] }
def defBody (s : Stmt) : List Stmt := match s with
  | .FunctionDef _ _ b _ _ _ _ _ _ _ => b
  | _ => []
def defScope (s : Stmt) : Scope := match s with
  | .FunctionDef _ _ _ _ _ _ sc _ _ _ => sc
  | _ => { kind := .function, names := [], isGenerator := false, isCoroutine := false }

abbrev CX0 : CXT := fun _ _ _ _ _ _ => False
abbrev E0 : XK := fun _ _ _ => False
theorem pass0 {X : Cx} : Passes CX0 X E0 := fun _ _ _ _ _ _ _ h => h.elim

structure Fun (K : PySem.W.Frag) (x qual : Str) (st : Stmt) (f : Addr) (fd : FuncData) : Prop where
  ex : ∃ (oc : Value) (od : Option Addr) (kV doc pm : Value) (an : Option Addr) (cdv ct : Value) (osl : Array (Option Value)),
    fd = PySem.W.fnOf x qual (defArgs st) (defBody st) (defScope st) .none kV doc pm an cdv ct ∧ K.lookup f = some ⟨oc, od, .func fd, osl⟩ ∧ PySem.W.codeIn K cdv qual = true
  kp : PySem.W.keepIn K (.ref f) = true
section
variable {P : Program} {w : World} {K : PySem.W.Frag} {mg : Str → Option Value} {base : Heap}
/-- THE RULE for a def: its body as a term of rules, and the reading of that term -/
theorem Fun.ok {x qual : Str} {st : Stmt} {f : Addr} {fd : FuncData} {N ps : List Str} {k : Nat} {sp : Sp} (F : Fun K x qual st f fd) (S : FnScope N ps (defScope st)) (len : ∀ vs H Q E, sp vs H Q E → vs.length = ps.length)
    (hbody : ∀ (cdv : Value) (A : Around) (outer : List Env) (s : Shared) (H : Hp) (vs : List V) (Q : VK) (E : XK), Room k (A.deeper (envOfC qual (defScope st) s.heap.objs.size f cdv)) → sp vs H Q E →
      ∃ t, PSs (cxOf CX0 P w K mg base N qual (defScope st) f cdv A outer s H E).nox (defBody st) t ∧ t { nx := fun _ H' => Q .non H', rt := Q } (start N vs) H) : FnOk P w K mg base CX0 (k + 1) f fd ps sp := by
  obtain ⟨oc, od, kV, doc, pm, an, cdv, ct, osl, rfl, lk, hcd⟩ := F.ex
  refine fn_of lk hcd S len fun A outer s H vs Q E hr hsp => ?_
  obtain ⟨t, h, q⟩ := hbody cdv A outer s H vs Q E hr hsp
  exact ⟨t, h.nox, q⟩
/-- how its arguments bind (no defaults): h is «fun _ _ _ _ _ _ us hl => match us, hl with | [_, _], _ => rfl», one _ a parameter -/
theorem Fun.binds {x qual : Str} {st : Stmt} {f : Addr} {fd : FuncData} {ps : List Str} (F : Fun K x qual st f fd)
    (h : ∀ (kV doc pm : Value) (an : Option Addr) (cdv ct : Value) (us : List Value), us.length = ps.length → bindArgs (PySem.W.fnOf x qual (defArgs st) (defBody st) (defScope st) .none kV doc pm an cdv ct) ⟨us, []⟩ = pure (ps.zip us)) : Binds K fd ps [] := by
  obtain ⟨oc, od, kV, doc, pm, an, cdv, ct, osl, rfl, lk, hcd⟩ := F.ex
  exact .all (h kV doc pm an cdv ct)
theorem fun_mk {x qual : Str} {st : Stmt} {f : Addr} {oc : Value} {od an : Option Addr} {osl : Array (Option Value)} {kV doc pm cdv ct : Value} (l : K.lookup f = some ⟨oc, od, .func (PySem.W.fnOf x qual (defArgs st) (defBody st) (defScope st) .none kV doc pm an cdv ct), osl⟩)
    (c : PySem.W.codeIn K cdv qual = true) (k : PySem.W.keepIn K (.ref f) = true) : Fun K x qual st f (PySem.W.fnOf x qual (defArgs st) (defBody st) (defScope st) .none kV doc pm an cdv ct) := ⟨⟨oc, od, kV, doc, pm, an, cdv, ct, osl, rfl, l, c⟩, k⟩
end
section
variable {X : Cx}
theorem pv (i : Nat) {x : Str} {pos : Pos} (hN : X.N[i]? = some x := by rfl) (hv : Vis X.env.scope x := by first | exact Or.inl rfl | exact Or.inr (Or.inl rfl) | exact Or.inr (Or.inr rfl)) (hd : (x == ("__debug__" : Str)) = false := by decide)
    (hcd : (x == ("__classdict__" : Str)) = false := by decide) : PE X (.Name x pos) (tVar i) := pe_var hN hv hd hcd
end

/-- all that was tracked is as it was -/
def Same (H H' : Hp) : Prop := ∀ b o, H b = some o → H' b = some o
theorem Same.refl (H : Hp) : Same H H := fun _ _ h => h
theorem Same.trans {H H1 H2 : Hp} (a : Same H H1) (b : Same H1 H2) : Same H H2 := fun c o h => b c o (a c o h)
theorem Same.seq {K : PySem.W.Frag} {H H' : Hp} {a : Addr} {xs : List V} (e : Same H H') (h : SqL K H a xs) : SqL K H' a xs := by
  rcases h with (h | ⟨o, h⟩) | h
  · exact .inl (.inl (e _ _ h))
  · exact .inl (.inr ⟨o, e _ _ h⟩)
  · exact .inr h

section
variable {κ : Type} [DecidableEq κ]
end
end L2

namespace L2
open PySem PySem.Spec PyProof.Rows
open PySem.W (WData Codec OpenSpec Well WellAll ReadsW ReadsAllW)
mutual
/-- x stands for the datum d, lists and tuples all the way -/
inductive Dw (K : PySem.W.Frag) (H : Hp) : V → WData → Prop
  | non : Dw K H .non .none
  | bl (b : Bool) : Dw K H (.bl b) (.bool b)
  | int (i : Int) : Dw K H (.int i) (.int i)
  | str (x : Str) : Dw K H (.str x) (.str x)
  | byt (b : Array UInt8) : Dw K H (.byt b) (.bytes b.toList)
  | lst {a : Addr} {xs : List V} {ds : List WData} : SqL K H a xs → DwAll K H xs ds → Dw K H (.ref a) (.list ds)
  | tup {a : Addr} {xs : List V} {ds : List WData} : SqT K H a xs → DwAll K H xs ds → Dw K H (.ref a) (.tuple ds)
inductive DwAll (K : PySem.W.Frag) (H : Hp) : List V → List WData → Prop
  | nil : DwAll K H [] []
  | cons {v : V} {vs : List V} {d : WData} {ds : List WData} : Dw K H v d → DwAll K H vs ds → DwAll K H (v :: vs) (d :: ds)
end
theorem dw_ints {K : PySem.W.Frag} {H : Hp} : ∀ ns : List Int, DwAll K H (ns.map V.int) (ns.map WData.int)
  | [] => .nil
  | n :: r => .cons (.int n) (dw_ints r)
theorem ints_dw {K : PySem.W.Frag} {H : Hp} : ∀ (ns : List Int) (xs : List V), DwAll K H xs (ns.map WData.int) → xs = ns.map V.int
  | [], xs, h => by
    cases h
    rfl
  | n :: r, xs, h => by
    cases h with
    | cons h1 h2 =>
      cases h1
      rw [ints_dw r _ h2] <;> rfl
section
variable {P : Program} {w : World} {K : PySem.W.Frag} {H : Hp} {h : Heap} {R : PySem.W.WRecords} {cl : Str → Option Addr}
theorem sqL_at {a : Addr} {xs : List V} (hok : HOk P w H h) (KX : K.In h) (q : SqL K H a xs) : ∃ (its : List Value) (o : Obj) (n : Nat), Vals xs its ∧ h.get? a = some o ∧ o.cls = .type "list" ∧ o.data = .seq its.toArray n := by
  rcases q with q | ⟨o, its, n, e, hc, _, hd, _, hv⟩
  · obtain ⟨_, its, n, hv, e⟩ := (show ObjOk P w H h a (.lst xs) from q.ok hok)
    exact ⟨its, _, n, hv, e, rfl, rfl⟩
  · exact ⟨its.toList, o, n, hv, KX _ _ e, hc, by simp [hd]⟩
theorem sqT_at {a : Addr} {xs : List V} (hok : HOk P w H h) (KX : K.In h) (q : SqT K H a xs) : ∃ (its : List Value) (o : Obj) (n : Nat), Vals xs its ∧ h.get? a = some o ∧ o.cls = .type "tuple" ∧ o.data = .seq its.toArray n := by
  rcases q with q | ⟨o, its, n, e, hc, hd, _, hv⟩
  · obtain ⟨_, its, hv, o, e, hc, n, hd⟩ := (show ObjOk P w H h a (.tup xs) from q.ok hok)
    exact ⟨its, o, n, hv, e, hc, hd⟩
  · exact ⟨its.toList, o, n, hv, KX _ _ e, hc, by simp [hd]⟩
mutual
theorem Dw.reads (hok : HOk P w H h) (KX : K.In h) : ∀ (d : WData) (v : V) (u : Value), Dw K H v d → RelV v u → ∃ as, ReadsW R cl h u d as
  | .none, _, _, x, r => by
    cases x
    cases r
    exact ⟨_, ReadsW.none⟩
  | .bool b, _, _, x, r => by
    cases x
    cases r
    exact ⟨_, ReadsW.bool b⟩
  | .int i, _, _, x, r => by
    cases x
    obtain ⟨t, rfl⟩ := r
    exact ⟨_, ReadsW.int i t⟩
  | .str s, _, _, x, r => by
    cases x
    obtain ⟨t, rfl⟩ := r
    exact ⟨_, ReadsW.str s t⟩
  | .bytes b, _, _, x, r => by
    cases x
    obtain ⟨t, rfl⟩ := r
    exact ⟨_, ReadsW.bytes _ t⟩
  | .list ds, _, _, x, r => by
    cases x with
    | lst hs ha =>
      cases r
      obtain ⟨its, o, n, rv, ho, hc, hd⟩ := sqL_at hok KX hs
      obtain ⟨as, hr⟩ := Dw.readsAll hok KX ds _ its ha rv
      exact ⟨_, ReadsW.list ho hc hd hr⟩
  | .tuple ds, _, _, x, r => by
    cases x with
    | tup hs ha =>
      cases r
      obtain ⟨its, o, n, rv, ho, hc, hd⟩ := sqT_at hok KX hs
      obtain ⟨as, hr⟩ := Dw.readsAll hok KX ds _ its ha rv
      exact ⟨_, ReadsW.tuple ho hc hd hr⟩
  | .float _, _, _, x, _ => by cases x
  | .dict _, _, _, x, _ => by cases x
  | .bytearray _, _, _, x, _ => by cases x
  | .set _, _, _, x, _ => by cases x
  | .frozenset _, _, _, x, _ => by cases x
  | .obj _ _, _, _, x, _ => by cases x
theorem Dw.readsAll (hok : HOk P w H h) (KX : K.In h) : ∀ (ds : List WData) (vs : List V) (us : List Value), DwAll K H vs ds → Vals vs us → ∃ as, ReadsAllW R cl h us ds as
  | [], _, _, x, r => by
    cases x
    cases r
    exact ⟨_, ReadsAllW.nil⟩
  | d :: ds, _, _, x, r => by
    cases x with
    | cons h1 h2 =>
      cases r with
      | cons r1 r2 =>
        obtain ⟨as, q1⟩ := Dw.reads hok KX d _ _ h1 r1
        obtain ⟨bs, q2⟩ := Dw.readsAll hok KX ds _ _ h2 r2
        exact ⟨_, ReadsAllW.cons q1 q2⟩
end
end
mutual
/-- data that a codec tells -/
def plW : WData → Bool
  | .none => true
  | .bool _ => true
  | .int _ => true
  | .str _ => true
  | .bytes _ => true
  | .list xs => plWs xs
  | .tuple xs => plWs xs
  | _ => false
def plWs : List WData → Bool
  | [] => true
  | x :: r => plW x && plWs r
end
theorem plWs_map {α : Type} {f : α → WData} (h : ∀ a, plW (f a) = true) : ∀ l : List α, plWs (l.map f) = true
  | [] => rfl
  | x :: r => by
    show (plW (f x) && plWs (r.map f)) = true
    rw [h x, plWs_map h r] <;> rfl
theorem pl_enc : ∀ (c : Codec) (a : c.denote), plW (c.enc a) = true
  | .unit, _ => rfl
  | .bool, _ => rfl
  | .int _ _, _ => rfl
  | .nat _ _, _ => rfl
  | .u8, _ => rfl
  | .bytes _ _, _ => rfl
  | .text _ _ _ _, _ => rfl
  | .list _ _ c, a => plWs_map (fun x => pl_enc c x) a
  | .pair c d, a => by
    show (plW (c.enc a.1) && (plW (d.enc a.2) && true)) = true
    rw [pl_enc c a.1, pl_enc d a.2] <;> rfl
  | .triple c d e, a => by
    show (plW (c.enc a.1) && (plW (d.enc a.2.1) && (plW (e.enc a.2.2) && true))) = true
    rw [pl_enc c a.1, pl_enc d a.2.1, pl_enc e a.2.2] <;> rfl
  | .option c, none => rfl
  | .option c, some x => pl_enc c x
theorem pl_encAll : ∀ (cs : List Codec) (a : Codec.denoteAll cs), plWs (Codec.encAll cs a) = true
  | [], _ => rfl
  | c :: cs, a => by
    show (plW (c.enc a.1) && plWs (Codec.encAll cs a.2)) = true
    rw [pl_enc c a.1, pl_encAll cs a.2] <;> rfl
theorem weight_mem : ∀ {xs : List WData} {d : WData}, d ∈ xs → d.weight ≤ WData.weightAll xs
  | [], d, h => absurd h (by simp)
  | x :: r, d, h => by
    show d.weight ≤ x.weight + 1 + WData.weightAll r
    rcases List.mem_cons.mp h with e | m
    · rw [e]
      omega
    · have z := weight_mem m
      omega
def toV : Value → V
  | .none => .non
  | .bool b => .bl b
  | .int i _ => .int i
  | .str x _ => .str x
  | .bytes b _ => .byt b
  | .ref a => .ref a
  | _ => .non
/-- a value of the arguments, its objects among A -/
def OkU (A : List Addr) : Value → Prop
  | .none => True
  | .bool _ => True
  | .int _ _ => True
  | .str _ _ => True
  | .bytes _ _ => True
  | .ref a => a ∈ A
  | _ => False
theorem OkU.mono {A B : List Addr} (h : ∀ a ∈ A, a ∈ B) : ∀ {u : Value}, OkU A u → OkU B u := fun {u} x => by
  cases u with
  | ref a => exact h a x
  | none => trivial
  | bool b => trivial
  | int i t => trivial
  | str s t => trivial
  | bytes b t => trivial
  | _ => exact False.elim x
theorem relV_toV {A : List Addr} {u : Value} (x : OkU A u) : RelV (toV u) u := by
  cases u with
  | ref a => rfl
  | none => rfl
  | bool b => rfl
  | int i t => exact ⟨t, rfl⟩
  | str s t => exact ⟨t, rfl⟩
  | bytes b t => exact ⟨t, rfl⟩
  | _ => exact False.elim x
theorem vals_toV {A : List Addr} : ∀ {vs : List Value}, (∀ u ∈ vs, OkU A u) → Vals (vs.map toV) vs
  | [], _ => .nil
  | u :: r, h => .cons (relV_toV (h u (List.mem_cons_self ..))) (vals_toV fun x hx => h x (List.mem_cons_of_mem _ hx))
/-- an object of the arguments -/
def ArgOb (h : Heap) (A : List Addr) (a : Addr) : Prop := ∃ vs : List Value, vs.length ≤ sizeLine ∧ (∀ u ∈ vs, OkU A u) ∧
  (h.get? a = some { cls := .type "list", data := .seq vs.toArray } ∨ h.get? a = some { cls := .type "tuple", data := .seq vs.toArray })
theorem ArgOb.mono {h : Heap} {A B : List Addr} {a : Addr} (k : ∀ a ∈ A, a ∈ B) (x : ArgOb h A a) : ArgOb h B a := by
  obtain ⟨vs, h1, h2, h3⟩ := x
  exact ⟨vs, h1, fun u hu => (h2 u hu).mono k, h3⟩
theorem wellAll_len {P : Params} {h : Heap} : ∀ {vs : List Value} {ds : List WData}, WellAll P h vs ds → vs.length = ds.length
  | _, _, .nil => rfl
  | _, _, .cons _ b => by
    show _ + 1 = _ + 1
    rw [wellAll_len b]
theorem well_list {P : Params} {h : Heap} {v : Value} {ds : List WData} (x : Well P h v (.list ds)) : ∃ (a : Addr) (vs : List Value), v = .ref a ∧ h.get? a = some { cls := .type "list", data := .seq vs.toArray } ∧ WellAll P h vs ds := by
  cases x with
  | list ho hall => exact ⟨_, _, rfl, ho, hall⟩
theorem well_tuple {P : Params} {h : Heap} {v : Value} {ds : List WData} (x : Well P h v (.tuple ds)) : ∃ (a : Addr) (vs : List Value), v = .ref a ∧ h.get? a = some { cls := .type "tuple", data := .seq vs.toArray } ∧ WellAll P h vs ds := by
  cases x with
  | tuple ho hall => exact ⟨_, _, rfl, ho, hall⟩
theorem well_cons {P : Params} {h : Heap} {us : List Value} {d : WData} {ds : List WData} (x : WellAll P h us (d :: ds)) : ∃ (v : Value) (vs : List Value), us = v :: vs ∧ Well P h v d ∧ WellAll P h vs ds := by
  cases x with
  | cons a b => exact ⟨_, _, rfl, a, b⟩
theorem line_of {n : Nat} (h : n ≤ 1048576) : n ≤ sizeLine := Nat.le_trans h (by decide)
section
variable {P : Params} {h : Heap}
mutual
theorem area_one : ∀ (d : WData) (v : Value), Well P h v d → plW d = true → d.weight ≤ 1048576 → ∃ A : List Addr, OkU A v ∧ ∀ a ∈ A, ArgOb h A a
  | .none, _, x, _, _ => by
    cases x
    exact ⟨[], trivial, fun a m => absurd m (by simp)⟩
  | .bool b, _, x, _, _ => by
    cases x
    exact ⟨[], trivial, fun a m => absurd m (by simp)⟩
  | .int i, _, x, _, _ => by
    cases x
    exact ⟨[], trivial, fun a m => absurd m (by simp)⟩
  | .str s, _, x, _, _ => by
    cases x
    exact ⟨[], trivial, fun a m => absurd m (by simp)⟩
  | .bytes b, _, x, _, _ => by
    cases x
    exact ⟨[], trivial, fun a m => absurd m (by simp)⟩
  | .list ds, _, x, p, z => by
    obtain ⟨a, vs, rfl, ho, hall⟩ := well_list x
    have z2 : WData.weightAll ds ≤ 1048576 := z
    obtain ⟨A, h1, h2⟩ := area_all ds _ hall p fun d hd => Nat.le_trans (weight_mem hd) z2
    have k : ∀ b ∈ A, b ∈ a :: A := fun b hb => List.mem_cons_of_mem _ hb
    refine ⟨a :: A, List.mem_cons_self .., fun b hb => ?_⟩
    rcases List.mem_cons.mp hb with e | m
    · rw [e]
      exact ⟨vs, line_of (by rw [wellAll_len hall]; exact Nat.le_trans (PySem.W.length_le_weightAllW ds) z2), fun u hu => (h1 u hu).mono k, .inl ho⟩
    · exact (h2 b m).mono k
  | .tuple ds, _, x, p, z => by
    obtain ⟨a, vs, rfl, ho, hall⟩ := well_tuple x
    have z2 : WData.weightAll ds ≤ 1048576 := z
    obtain ⟨A, h1, h2⟩ := area_all ds _ hall p fun d hd => Nat.le_trans (weight_mem hd) z2
    have k : ∀ b ∈ A, b ∈ a :: A := fun b hb => List.mem_cons_of_mem _ hb
    refine ⟨a :: A, List.mem_cons_self .., fun b hb => ?_⟩
    rcases List.mem_cons.mp hb with e | m
    · rw [e]
      exact ⟨vs, line_of (by rw [wellAll_len hall]; exact Nat.le_trans (PySem.W.length_le_weightAllW ds) z2), fun u hu => (h1 u hu).mono k, .inr ho⟩
    · exact (h2 b m).mono k
  | .float _, _, _, p, _ => Bool.noConfusion (show false = true from p)
  | .dict _, _, _, p, _ => Bool.noConfusion (show false = true from p)
  | .bytearray _, _, _, p, _ => Bool.noConfusion (show false = true from p)
  | .set _, _, _, p, _ => Bool.noConfusion (show false = true from p)
  | .frozenset _, _, _, p, _ => Bool.noConfusion (show false = true from p)
  | .obj _ _, _, _, p, _ => Bool.noConfusion (show false = true from p)
theorem area_all : ∀ (ds : List WData) (vs : List Value), WellAll P h vs ds → plWs ds = true → (∀ d ∈ ds, d.weight ≤ 1048576) → ∃ A : List Addr, (∀ u ∈ vs, OkU A u) ∧ ∀ a ∈ A, ArgOb h A a
  | [], _, x, _, _ => by
    cases x
    exact ⟨[], fun u m => absurd m (by simp), fun a m => absurd m (by simp)⟩
  | d :: ds, _, x, p, z => by
    obtain ⟨v, vs, rfl, x1, x2⟩ := well_cons x
    have q : plW d = true ∧ plWs ds = true := Bool.and_eq_true_iff.mp p
    obtain ⟨A, a1, a2⟩ := area_one d v x1 q.1 (z d (List.mem_cons_self ..))
    obtain ⟨B, b1, b2⟩ := area_all ds vs x2 q.2 fun e he => z e (List.mem_cons_of_mem _ he)
    have kA : ∀ b ∈ A, b ∈ A ++ B := fun b hb => List.mem_append.mpr (.inl hb)
    have kB : ∀ b ∈ B, b ∈ A ++ B := fun b hb => List.mem_append.mpr (.inr hb)
    refine ⟨A ++ B, fun u hu => ?_, fun b hb => ?_⟩
    · rcases List.mem_cons.mp hu with e | m
      · rw [e]
        exact a1.mono kA
      · exact (b1 u m).mono kB
    · rcases List.mem_append.mp hb with m | m
      · exact (a2 b m).mono kA
      · exact (b2 b m).mono kB
end
end
/-- what is tracked of an argument's object -/
def hoOf (o : Obj) : Option HO := match o.data with
  | .seq vs _ => if (o.cls == Value.type "list") = true then some (.frz o (.lst (vs.toList.map toV))) else some (.frz o (.tup (vs.toList.map toV)))
  | _ => none
def argH (K : PySem.W.Frag) (h : Heap) (A : List Addr) : Hp := fun b => if b ∈ A then (if (K.lookup b).isNone = true then (h.get? b).bind hoOf else none) else none
/-- nothing is tracked but what is known to the object -/
def OnlyF (H : Hp) : Prop := ∀ b, H b = none ∨ ∃ o u, H b = some (.frz o u) ∧ ((∃ xs, u = .lst xs) ∨ ∃ xs, u = .tup xs)
theorem hoOf_lst (vs : List Value) : hoOf { cls := .type "list", data := .seq vs.toArray } = some (.frz { cls := .type "list", data := .seq vs.toArray } (.lst (vs.map toV))) := by
  show (if (Value.type "list" == Value.type "list") = true then some (HO.frz { cls := .type "list", data := .seq vs.toArray } (.lst (vs.toArray.toList.map toV))) else some (HO.frz { cls := .type "list", data := .seq vs.toArray } (.tup (vs.toArray.toList.map toV)))) = _
  rw [if_pos (beq_self_eq_true _)]
theorem hoOf_tup (vs : List Value) : hoOf { cls := .type "tuple", data := .seq vs.toArray } = some (.frz { cls := .type "tuple", data := .seq vs.toArray } (.tup (vs.map toV))) := by
  show (if (Value.type "tuple" == Value.type "list") = true then some (HO.frz { cls := .type "tuple", data := .seq vs.toArray } (.lst (vs.toArray.toList.map toV))) else some (HO.frz { cls := .type "tuple", data := .seq vs.toArray } (.tup (vs.toArray.toList.map toV)))) = _
  rw [if_neg (by decide)]
section
variable {P : Program} {w : World} {K : PySem.W.Frag} {h : Heap} {A : List Addr}
theorem argH_at {b : Addr} {o : Obj} (hb : b ∈ A) (hk : K.lookup b = none) (e : h.get? b = some o) : argH K h A b = hoOf o := by
  unfold argH
  rw [if_pos hb, hk, if_pos (show (none : Option Obj).isNone = true from rfl), e] <;> rfl
theorem of_argH {b : Addr} {u : HO} (q : argH K h A b = some u) : b ∈ A ∧ K.lookup b = none := by
  unfold argH at q
  by_cases hb : b ∈ A
  · rw [if_pos hb] at q
    cases hk : K.lookup b with
    | none => exact ⟨hb, rfl⟩
    | some o =>
      rw [hk, if_neg (by simp)] at q
      cases q
  · rw [if_neg hb] at q
    cases q
/-- what stands tracked -/
theorem argH_is (ar : ∀ a ∈ A, ArgOb h A a) {b : Addr} {u : HO} (q : argH K h A b = some u) : K.lookup b = none ∧ ∃ vs : List Value, vs.length ≤ sizeLine ∧ (∀ u ∈ vs, OkU A u) ∧
    ((h.get? b = some { cls := .type "list", data := .seq vs.toArray } ∧ u = .frz { cls := .type "list", data := .seq vs.toArray } (.lst (vs.map toV))) ∨
     (h.get? b = some { cls := .type "tuple", data := .seq vs.toArray } ∧ u = .frz { cls := .type "tuple", data := .seq vs.toArray } (.tup (vs.map toV)))) := by
  obtain ⟨hb, hk⟩ := of_argH q
  obtain ⟨vs, h1, h2, h3⟩ := ar b hb
  refine ⟨hk, vs, h1, h2, ?_⟩
  rcases h3 with e | e
  · rw [argH_at hb hk e, hoOf_lst] at q
    exact .inl ⟨e, (Option.some.inj q).symm⟩
  · rw [argH_at hb hk e, hoOf_tup] at q
    exact .inr ⟨e, (Option.some.inj q).symm⟩
theorem argH_only (ar : ∀ a ∈ A, ArgOb h A a) : OnlyF (argH K h A) := fun b => by
  cases q : argH K h A b with
  | none => exact .inl rfl
  | some u =>
    obtain ⟨_, vs, _, _, ⟨_, e⟩ | ⟨_, e⟩⟩ := argH_is ar q
    · exact .inr ⟨_, _, by rw [e], .inl ⟨_, rfl⟩⟩
    · exact .inr ⟨_, _, by rw [e], .inr ⟨_, rfl⟩⟩
theorem argH_ok (ar : ∀ a ∈ A, ArgOb h A a) : HOk P w (argH K h A) h := fun b u q => by
  obtain ⟨_, vs, h1, h2, ⟨e, rfl⟩ | ⟨e, rfl⟩⟩ := argH_is ar q
  · exact ⟨e, by rw [List.length_map]; exact h1, vs, _, vals_toV h2, e⟩
  · exact ⟨e, by rw [List.length_map]; exact h1, vs, vals_toV h2, _, e, rfl, _, rfl⟩
theorem seq_inj {c c' : Value} {vs us : List Value} (e : (some { cls := c, data := .seq vs.toArray } : Option Obj) = some { cls := c', data := .seq us.toArray }) : c = c' ∧ vs = us := by
  have e1 := Option.some.inj e
  have e2 : c = c' := congrArg Obj.cls e1
  have e3 : Data.seq vs.toArray = Data.seq us.toArray := congrArg Obj.data e1
  injection e3 with e4
  refine ⟨e2, ?_⟩
  have e5 := congrArg Array.toList e4
  simpa using e5
/-- a list argument -/
theorem argL (KX : K.In h) (ar : ∀ a ∈ A, ArgOb h A a) {a : Addr} {vs : List Value} (ha : a ∈ A) (e : h.get? a = some { cls := .type "list", data := .seq vs.toArray }) : (∀ u ∈ vs, OkU A u) ∧ SqL K (argH K h A) a (vs.map toV) := by
  obtain ⟨us, h1, h2, h3⟩ := ar a ha
  have hu : us = vs := by
    rcases h3 with q | q
    · rw [e] at q
      exact (seq_inj q).2.symm
    · rw [e] at q
      exact absurd (Value.type.inj (seq_inj q).1) (by decide)
  subst hu
  refine ⟨h2, ?_⟩
  cases hk : K.lookup a with
  | none => exact .inl (.inr ⟨_, by rw [argH_at ha hk e, hoOf_lst]⟩)
  | some o =>
    have e2 := KX a o hk
    rw [e] at e2
    obtain rfl := Option.some.inj e2
    exact .inr ⟨_, us.toArray, _, hk, rfl, rfl, rfl, by rw [List.size_toArray]; exact h1, by simpa using vals_toV h2⟩
theorem argT (KX : K.In h) (ar : ∀ a ∈ A, ArgOb h A a) {a : Addr} {vs : List Value} (ha : a ∈ A) (e : h.get? a = some { cls := .type "tuple", data := .seq vs.toArray }) : (∀ u ∈ vs, OkU A u) ∧ SqT K (argH K h A) a (vs.map toV) := by
  obtain ⟨us, h1, h2, h3⟩ := ar a ha
  have hu : us = vs := by
    rcases h3 with q | q
    · rw [e] at q
      exact absurd (Value.type.inj (seq_inj q).1) (by decide)
    · rw [e] at q
      exact (seq_inj q).2.symm
  subst hu
  refine ⟨h2, ?_⟩
  cases hk : K.lookup a with
  | none => exact .inl (.inr ⟨_, by rw [argH_at ha hk e, hoOf_tup]⟩)
  | some o =>
    have e2 := KX a o hk
    rw [e] at e2
    obtain rfl := Option.some.inj e2
    exact .inr ⟨_, us.toArray, _, hk, rfl, rfl, by rw [List.size_toArray]; exact h1, by simpa using vals_toV h2⟩
mutual
theorem dw_one {Pm : Params} (KX : K.In h) (ar : ∀ a ∈ A, ArgOb h A a) : ∀ (d : WData) (v : Value), Well Pm h v d → plW d = true → OkU A v → Dw K (argH K h A) (toV v) d
  | .none, _, x, _, _ => by
    cases x
    exact .non
  | .bool b, _, x, _, _ => by
    cases x
    exact .bl b
  | .int i, _, x, _, _ => by
    cases x
    exact .int i
  | .str s, _, x, _, _ => by
    cases x
    exact .str s
  | .bytes b, _, x, _, _ => by
    cases x
    have z := Dw.byt (K := K) (H := argH K h A) b.toArray
    exact z
  | .list ds, _, x, p, hu => by
    obtain ⟨a, vs, rfl, ho, hall⟩ := well_list x
    obtain ⟨h2, hs⟩ := argL KX ar hu ho
    exact .lst hs (dw_all KX ar ds _ hall p h2)
  | .tuple ds, _, x, p, hu => by
    obtain ⟨a, vs, rfl, ho, hall⟩ := well_tuple x
    obtain ⟨h2, hs⟩ := argT KX ar hu ho
    exact .tup hs (dw_all KX ar ds _ hall p h2)
  | .float _, _, _, p, _ => Bool.noConfusion (show false = true from p)
  | .dict _, _, _, p, _ => Bool.noConfusion (show false = true from p)
  | .bytearray _, _, _, p, _ => Bool.noConfusion (show false = true from p)
  | .set _, _, _, p, _ => Bool.noConfusion (show false = true from p)
  | .frozenset _, _, _, p, _ => Bool.noConfusion (show false = true from p)
  | .obj _ _, _, _, p, _ => Bool.noConfusion (show false = true from p)
theorem dw_all {Pm : Params} (KX : K.In h) (ar : ∀ a ∈ A, ArgOb h A a) : ∀ (ds : List WData) (vs : List Value), WellAll Pm h vs ds → plWs ds = true → (∀ u ∈ vs, OkU A u) → DwAll K (argH K h A) (vs.map toV) ds
  | [], _, x, _, _ => by
    cases x
    exact .nil
  | d :: ds, _, x, p, hu => by
    obtain ⟨v, vs, rfl, x1, x2⟩ := well_cons x
    have q : plW d = true ∧ plWs ds = true := Bool.and_eq_true_iff.mp p
    exact .cons (dw_one KX ar d v x1 q.1 (hu _ (List.mem_cons_self ..))) (dw_all KX ar ds vs x2 q.2 fun u m => hu u (List.mem_cons_of_mem _ m))
end
end
theorem spec_call {P : Program} {w : World} {K : PySem.W.Frag} {mg mb : Str → Option Value} {CX : CXT} {k : Nat} {fa : Addr} {fd : FuncData} {ps : List Str} {sp : Sp} {s₁ : Shared} {vals : List Value} {ds : List WData} {R : PySem.W.WRecords} {cl : Str → Option Addr} {d0 : WData}
    (KX : K.In s₁.heap) (hns : s₁.heap.Ns mainGlobals mg) (hb : s₁.heap.Ns builtinsNs mb) (hbb : ∀ x : Str, x ≠ "__name__" → mb x = bootBuiltins x) (hlim : s₁.heap.NoLimit) (hg : s₁.gens = #[])
    (hwl : WellAll w.params s₁.heap vals ds) (hpl : plWs ds = true) (hwt : ∀ d ∈ ds, d.weight ≤ 1048576) (hr : Room k callerA)
    (F : ∀ base : Heap, K.In base → base.Ns mainGlobals mg → FnOk P w K mg base CX k fa fd ps sp) (hbind : ∀ (s : Shared) (us : List Value), us.length = ps.length → BindsTo s fd ⟨us, []⟩ (ps.zip us)) (hlen : ds.length = ps.length)
    (hsp : ∀ (H : Hp) (xs : List V), OnlyF H → DwAll K H xs ds → sp xs H (fun v H' => Dw K H' v d0) fun _ _ _ => False)
    (hCX : ∀ H e s', CX [] H s₁ (fun _ _ _ => False) e s' → False) :
    codeAny (model P w) callerA (.call (.ref fa) ⟨vals, []⟩) (fun r s' => ∃ u as, r = .ok (.ret u) ∧ ReadsW R cl s'.heap u d0 as ∧ OldK s₁.heap s'.heap ∧ s'.os = s₁.os ∧ AllBare s'.gens) s₁ := by
  obtain ⟨A, ho, ar⟩ := area_all ds vals hwl hpl hwt
  have hO : OnlyF (argH K s₁.heap A) := argH_only ar
  have hok : HOk P w (argH K s₁.heap A) s₁.heap := argH_ok ar
  have hS := dw_all KX ar ds vals hwl hpl ho
  have hV := vals_toV ho
  have hK : ∀ b u, argH K s₁.heap A b = some u → K.lookup b = none := fun b u q => (argH_is ar q).1
  have noA : ∀ {b : Addr} {o : Obj} {es : Array DictEntry} {ep : Nat}, s₁.heap.get? b = some o → o.data = .dict es ep → argH K s₁.heap A b = none := fun {b o es ep} e d => by
    cases q : argH K s₁.heap A b with
    | none => rfl
    | some u =>
      obtain ⟨_, vs, _, _, ⟨e2, _⟩ | ⟨e2, _⟩⟩ := argH_is ar q
      · rw [e2] at e
        cases e
        have d' : Data.seq vs.toArray _ = Data.dict es ep := d
        cases d'
      · rw [e2] at e
        cases e
        have d' : Data.seq vs.toArray _ = Data.dict es ep := d
        cases d'
  generalize argH K s₁.heap A = H at hO hok hS hK noA
  have base_of : ∀ {b : Addr} {o : Obj}, s₁.heap.get? b = some o → H b = none → (hidT s₁.heap H).get? b = some o := fun e n => hidT_get e n
  have nsK : ∀ {b : Addr} {m : Str → Option Value}, s₁.heap.Ns b m → (hidT s₁.heap H).Ns b m := fun {b m} ⟨o, es, ep, e, d, r⟩ => ⟨o, es, ep, base_of e (noA e d), d, r⟩
  have nK : ∀ b o, K.lookup b = some o → H b = none := fun b o e => by
    cases q : H b with
    | none => rfl
    | some u =>
      rw [hK b u q] at e
      cases e
  have hKb : K.In (hidT s₁.heap H) := fun b o e => base_of (KX b o e) (nK b o e)
  have hM : Mod K mg (hidT s₁.heap H) := ⟨hKb, nsK hns, ⟨mb, nsK hb, hbb⟩, let ⟨mc, h1, h2⟩ := hlim; ⟨mc, nsK h1, h2⟩⟩
  have e0 : Env0 P w K mg (hidT s₁.heap H) callerA [] s₁ H := ⟨rfl, hM, fun b o e => of_hidT e, Nat.le_of_eq (hidT_size _ _), trivial, fun b hb => absurd (show b ∈ ([] : List Addr) from hb) (by simp), hok, .of_eq hg⟩
  have hl : vals.length = ps.length := by rw [wellAll_len hwl]; exact hlen
  refine codeAny_mono ((F _ hKb (nsK hns)).run callerA [] s₁ H ⟨vals, []⟩ vals (vals.map toV) _ _ hr e0 (hbind s₁ vals hl) hV (hsp H _ hO hS)) fun r s' x => ?_
  cases r with
  | error e => exact (hCX H e s' x).elim
  | ok fl =>
    cases fl with
    | next => exact False.elim x
    | brk => exact False.elim x
    | cont => exact False.elim x
    | ret u =>
      obtain ⟨v, H', os, bare, un, hok', r', q⟩ := x
      have kept : ∀ b o, s₁.heap.get? b = some o → s'.heap.get? b = some o := fun b o e => by
        cases q2 : H b with
        | none => exact un.keep b o e q2 (by intro z; exact absurd (show b ∈ ([] : List Addr) from z) (by simp)) (by simp)
        | some u2 =>
          rcases hO b with z | ⟨ob, u3, z, _⟩
          · rw [q2] at z
            cases z
          · have z2 := un.frzs b ob _ z
            obtain ⟨e1, _⟩ := hok b _ z
            obtain ⟨e2, _⟩ := hok' b _ z2
            rw [e] at e1
            cases e1
            exact e2
      have KX' : K.In s'.heap := fun b o e => kept b o (KX b o e)
      obtain ⟨as, hrd⟩ := Dw.reads (R := R) (cl := cl) hok' KX' d0 v u q r'
      exact ⟨u, as, rfl, hrd, OldK.of_keep kept, os, bare⟩
theorem layable_weight {ds : List WData} (h : WData.layableAll ds = true) : ∀ d ∈ ds, d.weight ≤ 1048576 := fun d hd =>
  (PySem.W.layableW_iff.mp (List.all_eq_true.mp h d hd)).2.2
theorem encAll_len : ∀ (cs : List Codec) (a : Codec.denoteAll cs), (Codec.encAll cs a).length = cs.length
  | [], _ => rfl
  | c :: cs, a => by
    show (Codec.encAll cs a.2).length + 1 = cs.length + 1
    rw [encAll_len cs a.2]
/-- the goal that k_headS leaves (case hc), from the promise of the row's def: whatever the arguments that the codecs let and the row asks for, the def gives what stands for enc (f ..) -/
theorem walk_spec {r : OpenSpec} {k : Nat} {q : Program} {loose : List Str} {XP : (Str → Option Value) → Heap → Prop} {YP : World → Heap → Prop} {d : DefRec} {K : Params → PySem.W.Frag} {CX : World → CXT} {ps : List Str} {sp : World → Sp}
    (hwell : r.wellSaid = true) (hdf : d.params.defaults = []) (hlen : r.args.length = ps.length) (hr : Room k callerA)
    (hY : ∀ (w : World) (h : Heap), YP w h → (K w.params).In h)
    (F : ∀ (w : World) (mg : Str → Option Value) (fa : Addr) (h : Heap), YP w h → (K w.params).In h → h.Ns mainGlobals mg → mg d.name = some (.ref fa) →
      ∃ fd : FuncData, (∀ (s : Shared) (us : List Value), us.length = ps.length → BindsTo s fd ⟨us, []⟩ (ps.zip us)) ∧
        ∀ base : Heap, (K w.params).In base → base.Ns mainGlobals mg → FnOk r.prog w (K w.params) mg base (CX w) k fa fd ps (sp w))
    (hsp : ∀ (w : World) (H : Hp) (xs : List V) (a : Codec.denoteAll r.args), OnlyF H → Codec.withinAll r.args a = true → Codec.app r.args r.asked a = true → DwAll (K w.params) H xs (Codec.encAll r.args a) →
      sp w xs H (fun v H' => Dw (K w.params) H' v (r.ret.enc (Codec.app r.args r.f a))) fun _ _ _ => False)
    (hCX : ∀ (w : World) (H : Hp) (s : Shared) (e : Value) (s' : Shared), CX w [] H s (fun _ _ _ => False) e s' → False) :
    PySem.W.WalkOS q loose XP YP r d [] (fun f vs => PySem.call f vs) := by
  intro w s_0 s₁ mg mb G Y fa o pm cd doc dV kV ho hd hcd hD hmg hg args vals as hpre hlay hrd hwl hlo
  obtain ⟨a, e1, e2⟩ := PySem.W.os_pre_some hpre
  obtain ⟨e3, hwi⟩ := Codec.encAll_of_decAll r.args args a e1
  subst e3
  have KX := hY w _ Y
  obtain ⟨fd, hb, hF⟩ := F w mg fa _ Y KX G.T.g hmg
  refine PySem.W.enter_call (codeAny_mono (spec_call (R := []) (cl := classAt s_0.heap) (d0 := r.ret.enc (Codec.app r.args r.f a)) KX G.T.g G.T.b G.T.builtins G.T.nolimit hg hwl (pl_encAll _ _) (layable_weight hlay) hr hF hb (by rw [encAll_len]; exact hlen)
    (fun H xs hO hS => hsp w H xs a hO hwi e2 hS) fun H e s' => hCX w H s₁ e s') fun r' s' hq => ?_)
  obtain ⟨u, as', rfl, h1, h2, h3, h4⟩ := hq
  exact ⟨.inl ⟨u, _, as', rfl, fun _ => rfl, h1, (OpenSpec.post_iff hwell hwi _ _).mpr rfl, fun z => Bool.noConfusion (show false = true from z)⟩, h2, h3, h4⟩
/-- the same where the promise hangs on the written part alone -/
theorem walk_specK {r : OpenSpec} {k : Nat} {q : Program} {loose : List Str} {XP : (Str → Option Value) → Heap → Prop} {YP : World → Heap → Prop} {d : DefRec} {K : Params → PySem.W.Frag} {CX : CXT} {ps : List Str} {sp : PySem.W.Frag → Sp}
    (hwell : r.wellSaid = true) (hdf : d.params.defaults = []) (hlen : r.args.length = ps.length) (hr : Room k callerA)
    (hY : ∀ (w : World) (h : Heap), YP w h → (K w.params).In h)
    (F : ∀ (w : World) (mg : Str → Option Value) (fa : Addr) (h : Heap), YP w h → (K w.params).In h → h.Ns mainGlobals mg → mg d.name = some (.ref fa) →
      ∃ fd : FuncData, (∀ (s : Shared) (us : List Value), us.length = ps.length → BindsTo s fd ⟨us, []⟩ (ps.zip us)) ∧
        ∀ base : Heap, (K w.params).In base → base.Ns mainGlobals mg → FnOk r.prog w (K w.params) mg base CX k fa fd ps (sp (K w.params)))
    (hsp : ∀ (K : PySem.W.Frag) (H : Hp) (xs : List V) (a : Codec.denoteAll r.args), OnlyF H → Codec.withinAll r.args a = true → Codec.app r.args r.asked a = true → DwAll K H xs (Codec.encAll r.args a) →
      sp K xs H (fun v H' => Dw K H' v (r.ret.enc (Codec.app r.args r.f a))) fun _ _ _ => False)
    (hCX : ∀ (H : Hp) (s : Shared) (e : Value) (s' : Shared), CX [] H s (fun _ _ _ => False) e s' → False) :
    PySem.W.WalkOS q loose XP YP r d [] (fun f vs => PySem.call f vs) :=
  walk_spec (K := K) (CX := fun _ => CX) (sp := fun w => sp (K w.params)) hwell hdf hlen hr hY F (fun w H xs a h1 h2 h3 h4 => hsp (K w.params) H xs a h1 h2 h3 h4) fun _ H s e s' => hCX H s e s'
end L2

set_option linter.unusedVariables false
namespace Sig
open Sp18

structure Fmt (F : Format) : Prop where
  hp : 3 ≤ F.p
  hw : 2 ≤ F.w
theorem fmt_s : Fmt single := ⟨by decide, by decide⟩
theorem fmt_d : Fmt double := ⟨by decide, by decide⟩

/-- the fraction's unit; the sign's weight -/
abbrev PW (F : Format) : Nat := 2 ^ (F.p - 1)
abbrev HB (F : Format) : Nat := 2 ^ (F.bits - 1)
theorem pw_pos (F : Format) : 0 < PW F := Nat.two_pow_pos _
theorem hb_pos (F : Format) : 0 < HB F := Nat.two_pow_pos _
theorem hb_eq {F : Format} (h : Fmt F) : HB F = 2 ^ F.w * PW F := by
  unfold HB PW Format.bits
  rw [← Nat.pow_add]
  congr 1
  have := h.hp
  omega
theorem top_eq (F : Format) : top F = (2 ^ F.w - 1) * PW F := rfl
theorem top_add {F : Format} (h : Fmt F) : top F + PW F = HB F := by
  rw [hb_eq h, top_eq, Nat.sub_mul, Nat.one_mul]
  have h1 : 1 * PW F ≤ 2 ^ F.w * PW F := Nat.mul_le_mul_right _ (Nat.two_pow_pos _)
  omega
theorem top_lt {F : Format} (h : Fmt F) : top F < HB F := by
  have := top_add h
  have := pw_pos F
  omega
theorem pw_lt_top {F : Format} (h : Fmt F) : 3 * PW F ≤ top F := by
  rw [top_eq]
  refine Nat.mul_le_mul_right _ ?_
  have h1 : 2 ^ 2 ≤ 2 ^ F.w := Nat.pow_le_pow_right (by decide) h.hw
  omega

def sgn (F : Format) (b : Nat) : Bool := b / HB F % 2 == 1
def mag (F : Format) (b : Nat) : Nat := b % HB F
def mant (F : Format) (a : Nat) : Nat := if a / PW F = 0 then a % PW F else PW F + a % PW F
def expo (F : Format) (a : Nat) : Int := if a / PW F = 0 then F.least else F.least + ((a / PW F : Nat) : Int) - 1
theorem of_eq (F : Format) (b : Nat) : of F b = if top F < mag F b then .none else if mag F b = top F then .inf (sgn F b) else .fin (sgn F b) (mant F (mag F b)) (expo F (mag F b)) := by
  unfold of sgn mag mant expo
  dsimp only
  split
  · rfl
  · split
    · rfl
    · split <;> rfl
theorem of_nan {F : Format} {b : Nat} (h : top F < mag F b) : of F b = .none := by rw [of_eq, if_pos h]
theorem of_inf {F : Format} {b : Nat} (h : mag F b = top F) : of F b = .inf (sgn F b) := by rw [of_eq, if_neg (by omega), if_pos h]
theorem of_fin {F : Format} {b : Nat} (h : mag F b < top F) : of F b = .fin (sgn F b) (mant F (mag F b)) (expo F (mag F b)) := by rw [of_eq, if_neg (by omega), if_neg (by omega)]
theorem mag_lt (F : Format) (b : Nat) : mag F b < HB F := Nat.mod_lt _ (hb_pos F)
theorem bits_split {F : Format} {b : Nat} (h : b < 2 * HB F) : b = signBit F (sgn F b) + mag F b := by
  unfold signBit sgn mag
  have hp := hb_pos F
  have h2 : b / HB F < 2 := by rw [Nat.div_lt_iff_lt_mul hp]; omega
  have e := Nat.div_add_mod b (HB F)
  have h3 : b / HB F = 0 ∨ b / HB F = 1 := by
    generalize b / HB F = q at h2
    omega
  rcases h3 with h3 | h3
  · rw [h3] at e ⊢
    simp
    simp at e
    exact e.symm
  · rw [h3] at e ⊢
    simp
    simp at e
    exact e.symm
theorem signBit_t (F : Format) : signBit F true = HB F := by unfold signBit; rw [if_pos rfl]
theorem signBit_f (F : Format) : signBit F false = 0 := by unfold signBit; rw [if_neg (by decide)]
theorem sgn_of {F : Format} {s : Bool} {a : Nat} (h : a < HB F) : sgn F (signBit F s + a) = s := by
  have hp := hb_pos F
  unfold sgn
  cases s with
  | true =>
    rw [signBit_t, Nat.add_div_left _ hp, Nat.div_eq_of_lt h]
    rfl
  | false =>
    rw [signBit_f, Nat.zero_add, Nat.div_eq_of_lt h]
    rfl
theorem mag_of {F : Format} {s : Bool} {a : Nat} (h : a < HB F) : mag F (signBit F s + a) = a := by
  unfold mag
  cases s with
  | true => rw [signBit_t, Nat.add_mod_left, Nat.mod_eq_of_lt h]
  | false => rw [signBit_f, Nat.zero_add, Nat.mod_eq_of_lt h]
theorem signBit_le (F : Format) (s : Bool) : signBit F s ≤ HB F := by
  cases s with
  | true => rw [signBit_t]; exact Nat.le_refl _
  | false => rw [signBit_f]; exact Nat.zero_le _
theorem inf_eq (F : Format) (s : Bool) : infinite F s = signBit F s + top F := rfl
theorem none_lt {F : Format} (h : Fmt F) : NONE F < HB F ∧ top F < NONE F := by
  unfold NONE
  have h1 := top_add h
  have e : PW F = 2 * 2 ^ (F.p - 2) := by
    unfold PW
    have := h.hp
    rw [show F.p - 1 = (F.p - 2) + 1 by omega, Nat.pow_succ]
    omega
  have h2 : 0 < 2 ^ (F.p - 2) := Nat.two_pow_pos _
  omega
theorem bits_eq {F : Format} (h : Fmt F) : 2 ^ F.bits = 2 * HB F := by
  unfold HB
  have : F.bits = F.bits - 1 + 1 := by unfold Format.bits; have := h.hp; omega
  rw [this, Nat.pow_succ, Nat.add_sub_cancel]
  omega
theorem plain_eq {F : Format} (hF : Fmt F) {b : Nat} (h : b < 2 * HB F) : plain F b = if top F < mag F b then NONE F else b := by
  unfold plain
  have e := bits_eq hF
  by_cases h1 : top F < mag F b
  · rw [of_nan h1, if_pos h1]
  · rw [if_neg h1]
    by_cases h2 : mag F b = top F
    · rw [of_inf h2]
      dsimp only
      rw [e, Nat.mod_eq_of_lt h]
    · rw [of_fin (by omega)]
      dsimp only
      rw [e, Nat.mod_eq_of_lt h]
theorem mag_none {F : Format} (hF : Fmt F) : mag F (NONE F) = NONE F := Nat.mod_eq_of_lt (none_lt hF).1
/-- plain numbers: NONE is the only NaN -/
theorem plain_ne {F : Format} (hF : Fmt F) {b : Nat} (h : b < 2 * HB F) (h1 : ¬ top F < mag F b) : plain F b ≠ NONE F := by
  rw [plain_eq hF h, if_neg h1]
  intro e
  rw [e, mag_none hF] at h1
  exact h1 (none_lt hF).2
theorem neg_eq {F : Format} (hF : Fmt F) {b : Nat} (h : b < 2 * HB F) : neg F b = if top F < mag F b then NONE F else signBit F (!sgn F b) + mag F b := by
  unfold neg
  dsimp only
  by_cases h1 : top F < mag F b
  · rw [plain_eq hF h, if_pos h1, if_pos rfl, if_pos h1]
  · have h2 := plain_ne hF h h1
    rw [if_neg h2, if_neg h1, plain_eq hF h, if_neg h1]
    have e := bits_split h
    have m := mag_lt F b
    cases hs : sgn F b with
    | true =>
      rw [hs, signBit_t] at e
      rw [if_neg (by show ¬ b < HB F; omega)]
      show b - HB F = signBit F false + _
      rw [signBit_f]
      omega
    | false =>
      rw [hs, signBit_f] at e
      rw [if_pos (by show b < HB F; omega)]
      show b + HB F = signBit F true + _
      rw [signBit_t]
      omega
theorem of_neg {F : Format} (hF : Fmt F) {b : Nat} (h : b < 2 * HB F) (h1 : ¬ top F < mag F b) : sgn F (neg F b) = (!sgn F b) ∧ mag F (neg F b) = mag F b := by
  rw [neg_eq hF h, if_neg h1]
  exact ⟨sgn_of (mag_lt F b), mag_of (mag_lt F b)⟩

theorem mant_zero {F : Format} {a : Nat} : mant F a = 0 ↔ a = 0 := by
  unfold mant
  have hp := pw_pos F
  have e := Nat.div_add_mod a (PW F)
  split
  · rename_i h
    rw [h] at e
    simp at e
    omega
  · rename_i h
    constructor
    · intro h2; omega
    · intro h2; subst h2; simp at h
theorem mant_lt (F : Format) (a : Nat) : mant F a < 2 * PW F := by
  unfold mant
  have := Nat.mod_lt a (pw_pos F)
  split <;> omega
theorem expo_ge (F : Format) (a : Nat) : F.least ≤ expo F a := by
  unfold expo
  split
  · exact Int.le_refl _
  · rename_i h
    generalize a / PW F = q at h
    omega
/-- the value in the least units -/
def val (F : Format) (a : Nat) : Nat := mant F a * 2 ^ (expo F a - F.least).toNat
theorem val_zero (F : Format) : val F 0 = 0 := by
  unfold val
  rw [mant_zero.mpr rfl, Nat.zero_mul]
theorem val_eq (F : Format) (a : Nat) : val F a = if a / PW F = 0 then a % PW F else (PW F + a % PW F) * 2 ^ (a / PW F - 1) := by
  unfold val mant expo
  split
  · simp
  · rename_i h
    congr 2
    generalize a / PW F = q at h
    omega
theorem val_step (F : Format) (a : Nat) : val F a < val F (a + 1) := by
  have hp := pw_pos F
  rw [val_eq, val_eq]
  have hm := Nat.mod_lt a hp
  by_cases h : a % PW F + 1 < PW F
  · have e1 : (a + 1) / PW F = a / PW F := by
      have e := Nat.div_add_mod a (PW F)
      have e' : a + 1 = (a % PW F + 1) + PW F * (a / PW F) := by omega
      rw [e', Nat.add_mul_div_left _ _ hp, Nat.div_eq_of_lt h, Nat.zero_add]
    have e2 : (a + 1) % PW F = a % PW F + 1 := by
      have e := Nat.div_add_mod a (PW F)
      have f := Nat.div_add_mod (a + 1) (PW F)
      rw [e1] at f
      omega
    rw [e1, e2]
    split
    · omega
    · exact Nat.mul_lt_mul_of_pos_right (by omega) (Nat.two_pow_pos _)
  · have h' : a % PW F + 1 = PW F := by omega
    have e := Nat.div_add_mod a (PW F)
    have e' : a + 1 = PW F * (a / PW F + 1) := by rw [Nat.mul_add, Nat.mul_one]; omega
    have e1 : (a + 1) / PW F = a / PW F + 1 := by rw [e', Nat.mul_div_cancel_left _ hp]
    have e2 : (a + 1) % PW F = 0 := by rw [e', Nat.mul_mod_right]
    rw [e1, e2, if_neg (Nat.succ_ne_zero (a / PW F)), Nat.add_sub_cancel, Nat.add_zero]
    split
    · rename_i h0
      rw [h0, Nat.pow_zero]
      omega
    · rename_i h0
      obtain ⟨k, hk⟩ : ∃ k, a / PW F = k + 1 := ⟨a / PW F - 1, by generalize a / PW F = q at h0; omega⟩
      rw [hk, Nat.add_sub_cancel, Nat.pow_succ, Nat.mul_comm (2 ^ k) 2, ← Nat.mul_assoc]
      exact Nat.mul_lt_mul_of_pos_right (by omega) (Nat.two_pow_pos _)
theorem val_mono {F : Format} {a b : Nat} (h : a < b) : val F a < val F b := by
  obtain ⟨k, rfl⟩ : ∃ k, b = a + 1 + k := ⟨b - a - 1, by omega⟩
  clear h
  induction k with
  | zero => exact val_step F a
  | succ k ih => exact Nat.lt_trans ih (val_step F (a + 1 + k))
theorem scaled_val {F : Format} {s : Bool} {a : Nat} {d : Int} (hd : F.least ≤ d) (he : d ≤ expo F a) : scaled s (mant F a) (expo F a) d * (2 ^ (d - F.least).toNat : Nat) = signed s (val F a) := by
  unfold scaled signed val
  have e : (expo F a - F.least).toNat = (expo F a - d).toNat + (d - F.least).toNat := by omega
  rw [e, Nat.pow_add, ← Nat.mul_assoc]
  split
  · rw [Int.neg_mul]; rfl
  · rfl
theorem lower_le (e f : Int) : lower e f ≤ e ∧ lower e f ≤ f ∧ (lower e f = e ∨ lower e f = f) := by
  unfold lower
  split <;> omega
theorem lower_ge {F : Format} (a b : Nat) : F.least ≤ lower (expo F a) (expo F b) := by
  have h1 := expo_ge F a
  have h2 := expo_ge F b
  rcases (lower_le (expo F a) (expo F b)).2.2 with e | e <;> rw [e] <;> assumption
end Sig

set_option linter.unusedVariables false
namespace Sig
open Sp18

theorem nearest_py {m d : Nat} (more : Bool) (hm : more = false) (hd : 0 < d) : nearest m (d : Int) more = (m + 2 ^ (d - 1) - 1 + m / 2 ^ d % 2) / 2 ^ d := by
  subst hm
  unfold nearest
  rw [if_neg (by omega)]
  simp only [Int.toNat_natCast]
  obtain ⟨k, rfl⟩ : ∃ k, d = k + 1 := ⟨d - 1, by omega⟩
  rw [Nat.add_sub_cancel]
  have hk : 0 < 2 ^ k := Nat.two_pow_pos k
  have e2 : 2 ^ (k + 1) = 2 * 2 ^ k := by rw [Nat.pow_succ]; omega
  rw [e2]
  generalize 2 ^ k = h at hk
  have hp : 0 < 2 * h := by omega
  have e := Nat.div_add_mod m (2 * h)
  have hr := Nat.mod_lt m hp
  generalize m / (2 * h) = q at e
  generalize m % (2 * h) = r at e hr
  have e3 : m + h - 1 + q % 2 = (r + h - 1 + q % 2) + 2 * h * q := by omega
  rw [e3, Nat.add_mul_div_left _ _ hp]
  by_cases c : 2 * h < 2 * r ∨ (2 * r = 2 * h ∧ (false = true ∨ q % 2 = 1))
  · rw [if_pos c]
    have : (r + h - 1 + q % 2) / (2 * h) = 1 := by
      rw [Nat.div_eq_iff hp]
      rcases c with c | ⟨c, c1 | c1⟩
      · omega
      · exact absurd c1 (by decide)
      · omega
    omega
  · rw [if_neg c]
    have : (r + h - 1 + q % 2) / (2 * h) = 0 := by
      rw [Nat.div_eq_zero_iff]
      right
      have c1 : ¬ 2 * h < 2 * r := fun z => c (.inl z)
      have c2 : ¬ (2 * r = 2 * h ∧ q % 2 = 1) := fun z => c (.inr ⟨z.1, .inr z.2⟩)
      omega
    omega
/-- the program's drop -/
def dropOf (F : Format) (m : Nat) (e : Int) : Int := if F.least - e > ((Nat.log2 m + 1 : Nat) : Int) - ((F.p - 1 : Nat) : Int) - 1 then F.least - e else ((Nat.log2 m + 1 : Nat) : Int) - ((F.p - 1 : Nat) : Int) - 1
theorem round_drop (F : Format) (s : Bool) (m : Nat) (e : Int) (more : Bool) : 0 ≤ e + dropOf F m e - F.least ∧
    round F s m e more = signBit F s + min ((e + dropOf F m e - F.least).toNat * PW F + nearest m (dropOf F m e) more) (top F) := by
  have hu : (if (Nat.log2 m : Int) + e - ((F.p - 1 : Nat) : Int) < F.least then F.least else (Nat.log2 m : Int) + e - ((F.p - 1 : Nat) : Int)) = e + dropOf F m e := by
    unfold dropOf
    split <;> split <;> omega
  refine ⟨?_, ?_⟩
  · unfold dropOf
    split <;> omega
  · unfold round
    dsimp only
    rw [hu]
    have e1 : e + dropOf F m e - e = dropOf F m e := by omega
    rw [e1]
    split
    · rename_i h
      rw [Nat.min_eq_right h]
      rfl
    · rename_i h
      rw [Nat.min_eq_left (Nat.le_of_lt (Nat.lt_of_not_le h))]
theorem round_lt {F : Format} (hF : Fmt F) (s : Bool) (m : Nat) (e : Int) (more : Bool) : round F s m e more < 2 * HB F := by
  rw [(round_drop F s m e more).2]
  have h1 := signBit_le F s
  have h2 := top_lt hF
  have h3 := Nat.min_le_right ((e + dropOf F m e - F.least).toNat * PW F + nearest m (dropOf F m e) more) (top F)
  omega
theorem log2_dbl {n x : Nat} (hn : 0 < n) (hx : x < 2) : Nat.log2 (2 * n + x) = Nat.log2 n + 1 := by
  have h0 : n ≠ 0 := by omega
  have h1 := Nat.log2_self_le h0
  have h2 : n < 2 ^ (Nat.log2 n + 1) := Nat.lt_log2_self
  rw [Nat.log2_eq_iff (by omega)]
  have e1 : 2 ^ (Nat.log2 n + 1) = 2 * 2 ^ Nat.log2 n := by rw [Nat.pow_succ]; omega
  have e2 : 2 ^ (Nat.log2 n + 1 + 1) = 4 * 2 ^ Nat.log2 n := by rw [Nat.pow_succ, Nat.pow_succ]; omega
  rw [e1] at h2
  rw [e1, e2]
  generalize 2 ^ Nat.log2 n = k at h1 h2 ⊢
  omega
theorem nearest_dbl {n x d : Nat} {more : Bool} (hx : x < 2) (hd : 0 < d) : nearest (2 * n + x) ((d : Int) + 1) more = nearest n d (x == 1 || more) := by
  unfold nearest
  rw [if_neg (show ¬ (d : Int) + 1 ≤ 0 by omega), if_neg (show ¬ (d : Int) ≤ 0 by omega)]
  dsimp only
  have e0 : ((d : Int) + 1).toNat = d + 1 := by omega
  rw [e0, Int.toNat_natCast]
  obtain ⟨c, rfl⟩ : ∃ c, d = c + 1 := ⟨d - 1, by omega⟩
  have hk : 0 < 2 ^ c := Nat.two_pow_pos c
  rw [Nat.pow_succ 2 (c + 1), Nat.pow_succ]
  generalize 2 ^ c = h at hk
  have hp : 0 < h * 2 := by omega
  have e := Nat.div_add_mod n (h * 2)
  have hr := Nat.mod_lt n hp
  have q1 : (2 * n + x) / (h * 2 * 2) = n / (h * 2) := by
    rw [Nat.mul_comm (h * 2) 2, ← Nat.div_div_eq_div_mul]
    congr 1
    omega
  have r1 : (2 * n + x) % (h * 2 * 2) = 2 * (n % (h * 2)) + x := by
    have f := Nat.div_add_mod (2 * n + x) (h * 2 * 2)
    rw [q1] at f
    have g : h * 2 * 2 * (n / (h * 2)) = 2 * (h * 2 * (n / (h * 2))) := by
      rw [Nat.mul_comm (h * 2) 2, Nat.mul_assoc]
    omega
  rw [q1, r1]
  generalize n / (h * 2) = q at e
  generalize n % (h * 2) = r at e hr
  have h01 : x = 0 ∨ x = 1 := by omega
  rcases h01 with rfl | rfl
  · have c1 : (h * 2 * 2 < 2 * (2 * r + 0) ∨ 2 * (2 * r + 0) = h * 2 * 2 ∧ (more = true ∨ q % 2 = 1)) ↔ (h * 2 < 2 * r ∨ 2 * r = h * 2 ∧ (((0 : Nat) == 1 || more) = true ∨ q % 2 = 1)) := by
      have : (((0 : Nat) == 1 || more) = true) ↔ more = true := by simp
      rw [this]
      constructor
      · rintro (z | ⟨z, w⟩)
        · left; omega
        · right; exact ⟨by omega, w⟩
      · rintro (z | ⟨z, w⟩)
        · left; omega
        · right; exact ⟨by omega, w⟩
    by_cases c : h * 2 < 2 * r ∨ 2 * r = h * 2 ∧ (((0 : Nat) == 1 || more) = true ∨ q % 2 = 1)
    · rw [if_pos c, if_pos (c1.mpr c)]
    · rw [if_neg c, if_neg fun z => c (c1.mp z)]
  · have c1 : (h * 2 * 2 < 2 * (2 * r + 1) ∨ 2 * (2 * r + 1) = h * 2 * 2 ∧ (more = true ∨ q % 2 = 1)) ↔ (h * 2 < 2 * r ∨ 2 * r = h * 2 ∧ (((1 : Nat) == 1 || more) = true ∨ q % 2 = 1)) := by
      have : (((1 : Nat) == 1 || more) = true) ↔ True := by simp
      rw [this]
      constructor
      · rintro (z | ⟨z, w⟩)
        · by_cases hh : h * 2 < 2 * r
          · left; exact hh
          · right; exact ⟨by omega, .inl trivial⟩
        · omega
      · rintro (z | ⟨z, w⟩)
        · left; omega
        · left; omega
    by_cases c : h * 2 < 2 * r ∨ 2 * r = h * 2 ∧ (((1 : Nat) == 1 || more) = true ∨ q % 2 = 1)
    · rw [if_pos c, if_pos (c1.mpr c)]
    · rw [if_neg c, if_neg fun z => c (c1.mp z)]
theorem round_dbl {F : Format} (hF : Fmt F) {s : Bool} {n x : Nat} {e : Int} {more : Bool} (hn : 2 ^ F.p ≤ n) (hx : x < 2) : round F s (2 * n + x) (e - 1) more = round F s n e (x == 1 || more) := by
  have hn0 : 0 < n := Nat.lt_of_lt_of_le (Nat.two_pow_pos _) hn
  have hl : F.p ≤ Nat.log2 n := (Nat.le_log2 (by omega)).mpr hn
  have hp := hF.hp
  have hdr : dropOf F (2 * n + x) (e - 1) = dropOf F n e + 1 := by
    unfold dropOf
    rw [log2_dbl hn0 hx]
    split <;> split <;> omega
  have hd1 : 1 ≤ dropOf F n e := by
    unfold dropOf
    split <;> omega
  obtain ⟨d, hd⟩ : ∃ d : Nat, dropOf F n e = (d : Int) := ⟨(dropOf F n e).toNat, by omega⟩
  rw [(round_drop F s (2 * n + x) (e - 1) more).2, (round_drop F s n e _).2, hdr, hd, nearest_dbl hx (by omega)]
  congr 3
  congr 2
  omega

theorem div_step {F : Format} (hF : Fmt F) {s : Bool} {A n : Nat} {e : Int} (hn : 0 < n) (h : 2 ^ F.p ≤ A / n) :
    round F s (2 * A / n) (e - 1) (2 * A % n != 0) = round F s (A / n) e (A % n != 0) := by
  have e1 := Nat.div_add_mod A n
  have hr := Nat.mod_lt A hn
  by_cases c : n ≤ 2 * (A % n)
  · have q2 : 2 * A / n = 2 * (A / n) + 1 := by
      have : 2 * A = (2 * (A % n) - n) + n * (2 * (A / n) + 1) := by
        rw [Nat.mul_add, Nat.mul_one, Nat.mul_left_comm]
        omega
      rw [this, Nat.add_mul_div_left _ _ hn, Nat.div_eq_of_lt (by omega), Nat.zero_add]
    rw [q2, round_dbl hF h (by decide)]
    have : (A % n != 0) = true := by
      have : A % n ≠ 0 := by omega
      simpa using this
    rw [this]
    rfl
  · have q2 : 2 * A / n = 2 * (A / n) + 0 := by
      have : 2 * A = (2 * (A % n)) + n * (2 * (A / n)) := by
        rw [Nat.mul_left_comm]
        omega
      rw [this, Nat.add_mul_div_left _ _ hn, Nat.div_eq_of_lt (by omega), Nat.zero_add, Nat.add_zero]
    have r2 : 2 * A % n = 2 * (A % n) := by
      have f := Nat.div_add_mod (2 * A) n
      rw [q2, Nat.add_zero, Nat.mul_left_comm] at f
      omega
    rw [q2, r2, round_dbl hF h (by decide)]
    congr 1
    by_cases z : A % n = 0
    · rw [z]; rfl
    · have a1 : (2 * (A % n) != 0) = true := by
        have : 2 * (A % n) ≠ 0 := by omega
        simpa using this
      have a2 : (A % n != 0) = true := by simpa using z
      rw [a1, a2]; rfl
theorem div_places {F : Format} (hF : Fmt F) {s : Bool} {m n : Nat} {e : Int} (hn : 0 < n) (k : Nat) (h : 2 ^ F.p ≤ m * 2 ^ k / n) : ∀ j : Nat,
    round F s (m * 2 ^ (k + j) / n) (e - ((k + j : Nat) : Int)) (m * 2 ^ (k + j) % n != 0) = round F s (m * 2 ^ k / n) (e - (k : Int)) (m * 2 ^ k % n != 0)
  | 0 => rfl
  | j + 1 => by
    have ih := div_places hF (s := s) (e := e) hn k h j
    have hk : 2 ^ F.p ≤ m * 2 ^ (k + j) / n := by
      refine Nat.le_trans h (Nat.div_le_div_right ?_)
      rw [Nat.pow_add, ← Nat.mul_assoc]
      exact Nat.le_mul_of_pos_right _ (Nat.two_pow_pos _)
    rw [← ih, ← div_step hF hn hk]
    have e1 : m * 2 ^ (k + (j + 1)) = 2 * (m * 2 ^ (k + j)) := by
      rw [← Nat.add_assoc, Nat.pow_succ, ← Nat.mul_assoc, Nat.mul_comm]
    rw [e1]
    congr 1
    omega
/-- the spec's quotient by the program's places -/
theorem div_round {F : Format} (hF : Fmt F) {s : Bool} {m n : Nat} {e : Int} (hm : 0 < m) (hn : 0 < n) (hn2 : n < 2 * PW F) :
    round F s (m * 2 ^ (F.p + 2 + Nat.log2 n) / n) (e - ((F.p + 2 + Nat.log2 n : Nat) : Int)) (m * 2 ^ (F.p + 2 + Nat.log2 n) % n != 0) =
    round F s (2 * (m * 2 ^ (2 * (F.p - 1) + 4) / n) + (if 0 < m * 2 ^ (2 * (F.p - 1) + 4) % n then 1 else 0)) (e - ((2 * (F.p - 1) + 4 : Nat) : Int) - 1) false := by
  have hp := hF.hp
  have hP : 2 * PW F = 2 ^ F.p := by
    unfold PW
    rw [Nat.mul_comm, ← Nat.pow_succ]
    congr 1
    omega
  rw [hP] at hn2
  have hl : Nat.log2 n < F.p := (Nat.log2_lt (by omega)).mpr hn2
  have hlt : n < 2 ^ (Nat.log2 n + 1) := Nat.lt_log2_self
  have h1 : 2 ^ F.p ≤ m * 2 ^ (F.p + 2 + Nat.log2 n) / n := by
    rw [Nat.le_div_iff_mul_le hn]
    have a : 2 ^ F.p * n ≤ 2 ^ F.p * 2 ^ (Nat.log2 n + 1) := Nat.mul_le_mul_left _ (Nat.le_of_lt hlt)
    rw [← Nat.pow_add] at a
    have b : 2 ^ (F.p + (Nat.log2 n + 1)) ≤ 2 ^ (F.p + 2 + Nat.log2 n) := Nat.pow_le_pow_right (by decide) (by omega)
    exact Nat.le_trans a (Nat.le_trans b (Nat.le_mul_of_pos_left _ hm))
  obtain ⟨j, hj⟩ : ∃ j, 2 * (F.p - 1) + 4 = F.p + 2 + Nat.log2 n + j := ⟨2 * (F.p - 1) + 4 - (F.p + 2 + Nat.log2 n), by omega⟩
  have h2 : 2 ^ F.p ≤ m * 2 ^ (2 * (F.p - 1) + 4) / n := by
    refine Nat.le_trans h1 (Nat.div_le_div_right (Nat.mul_le_mul_left _ (Nat.pow_le_pow_right (by decide) (by omega))))
  rw [round_dbl hF h2 (by split <;> decide), Bool.or_false]
  rw [← div_places hF (s := s) (e := e) hn _ h1 j, ← hj]
  congr 1
  generalize m * 2 ^ (2 * (F.p - 1) + 4) % n = r
  by_cases z : 0 < r
  · rw [if_pos z]
    have : r ≠ 0 := by omega
    simpa using this
  · rw [if_neg z]
    have : r = 0 := by omega
    rw [this]; rfl

end Sig

set_option linter.unusedVariables false
namespace Sig
open Sp18
variable {F : Format} {a b : Nat}

theorem none_lt2 (hF : Fmt F) : NONE F < 2 * HB F := by have := none_lt hF; omega
theorem inf_lt2 (hF : Fmt F) (s : Bool) : infinite F s < 2 * HB F := by
  have := top_lt hF
  have := signBit_le F s
  rw [inf_eq]
  omega
theorem sign_lt2 (hF : Fmt F) (s : Bool) : signBit F s < 2 * HB F := by
  have := hb_pos F
  have := signBit_le F s
  omega
theorem add_lt (hF : Fmt F) (a b : Nat) : add F a b < 2 * HB F := by
  unfold add
  split
  · exact none_lt2 hF
  · exact none_lt2 hF
  · split
    · exact inf_lt2 hF _
    · exact none_lt2 hF
  · exact inf_lt2 hF _
  · exact inf_lt2 hF _
  · dsimp only
    split
    · exact sign_lt2 hF _
    · exact round_lt hF _ _ _ _
theorem mul_lt (hF : Fmt F) (a b : Nat) : mul F a b < 2 * HB F := by
  unfold mul
  split
  · exact none_lt2 hF
  · exact none_lt2 hF
  · exact inf_lt2 hF _
  · split
    · exact none_lt2 hF
    · exact inf_lt2 hF _
  · split
    · exact none_lt2 hF
    · exact inf_lt2 hF _
  · split
    · exact sign_lt2 hF _
    · exact round_lt hF _ _ _ _
theorem div_lt (hF : Fmt F) (a b : Nat) : div F a b < 2 * HB F := by
  unfold div
  split
  · exact none_lt2 hF
  · exact none_lt2 hF
  · exact none_lt2 hF
  · exact inf_lt2 hF _
  · exact sign_lt2 hF _
  · split
    · split
      · exact none_lt2 hF
      · exact inf_lt2 hF _
    · split
      · exact sign_lt2 hF _
      · exact round_lt hF _ _ _ _
theorem neg_lt (hF : Fmt F) (hb : b < 2 * HB F) : neg F b < 2 * HB F := by
  rw [neg_eq hF hb]
  split
  · exact none_lt2 hF
  · have := mag_lt F b
    have := signBit_le F (!sgn F b)
    have := hb_pos F
    cases h : sgn F b
    · simp only [Bool.not_false, signBit_t]
      omega
    · simp only [Bool.not_true, signBit_f]
      omega
theorem convert_lt {G : Format} (hG : Fmt G) (a : Nat) : convert F G a < 2 * HB G := by
  unfold convert
  split
  · exact none_lt2 hG
  · exact inf_lt2 hG _
  · split
    · exact sign_lt2 hG _
    · exact round_lt hG _ _ _ _
theorem ofInt_lt (hF : Fmt F) (z : Int) : ofInt F z < 2 * HB F := by
  unfold ofInt
  split
  · have := hb_pos F; omega
  · exact round_lt hF _ _ _ _

theorem inf_bits (hb : b < 2 * HB F) (h : mag F b = top F) : infinite F (sgn F b) = b := by
  rw [inf_eq, ← h]
  exact (bits_split hb).symm

theorem add_nan (h : top F < mag F a ∨ top F < mag F b) : add F a b = NONE F := by
  unfold add
  rcases h with h | h
  · rw [of_nan h]
  · rw [of_nan h]
    cases of F a <;> rfl
theorem add_inf_r (hb : b < 2 * HB F) (h1 : mag F a < top F) (h2 : mag F b = top F) : add F a b = b := by
  unfold add
  rw [of_fin h1, of_inf h2]
  exact inf_bits hb h2
theorem add_inf_l (ha : a < 2 * HB F) (h1 : mag F a = top F) (h2 : mag F b < top F) : add F a b = a := by
  unfold add
  rw [of_inf h1, of_fin h2]
  exact inf_bits ha h1
theorem add_inf_inf (ha : a < 2 * HB F) (h1 : mag F a = top F) (h2 : mag F b = top F) : add F a b = if sgn F a = sgn F b then a else NONE F := by
  unfold add
  rw [of_inf h1, of_inf h2]
  dsimp only
  rw [inf_bits ha h1]
/-- the sum in units of two to the lower power -/
def total (F : Format) (a b : Nat) : Int :=
  scaled (sgn F a) (mant F (mag F a)) (expo F (mag F a)) (lower (expo F (mag F a)) (expo F (mag F b))) + scaled (sgn F b) (mant F (mag F b)) (expo F (mag F b)) (lower (expo F (mag F a)) (expo F (mag F b)))
theorem add_fin (h1 : mag F a < top F) (h2 : mag F b < top F) : add F a b = if total F a b = 0 then signBit F (sgn F a && sgn F b)
    else round F (decide (total F a b < 0)) (total F a b).natAbs (lower (expo F (mag F a)) (expo F (mag F b))) false := by
  unfold add
  rw [of_fin h1, of_fin h2]
  rfl
theorem sub_eq (hF : Fmt F) (hb : b < 2 * HB F) : sub F a b = add F a (signBit F (!sgn F b) + mag F b) := by
  unfold sub
  by_cases h : top F < mag F b
  · rw [add_nan (b := neg F b) (.inr ?_), add_nan (b := signBit F (!sgn F b) + mag F b) (.inr ?_)]
    · rw [mag_of (mag_lt F b)]; exact h
    · rw [neg_eq hF hb, if_pos h, mag_none hF]; exact (none_lt hF).2
  · rw [neg_eq hF hb, if_neg h]

theorem mul_nan (h : top F < mag F a ∨ top F < mag F b) : mul F a b = NONE F := by
  unfold mul
  rcases h with h | h
  · rw [of_nan h]
  · rw [of_nan h]
    cases of F a <;> rfl
theorem mul_inf (hF : Fmt F) (h1 : mag F a ≤ top F) (h2 : mag F b ≤ top F) (h : mag F a = top F ∨ mag F b = top F) :
    mul F a b = if mag F a = 0 ∨ mag F b = 0 then NONE F else infinite F (sgn F a != sgn F b) := by
  have ht : 0 < top F := by have := pw_lt_top hF; have := pw_pos F; omega
  unfold mul
  by_cases ha : mag F a = top F
  · by_cases hb : mag F b = top F
    · rw [of_inf ha, of_inf hb, if_neg (by omega)]
    · rw [of_inf ha, of_fin (by omega)]
      dsimp only
      by_cases z : mag F b = 0
      · rw [if_pos (mant_zero.mpr z), if_pos (.inr z)]
      · rw [if_neg fun q => z (mant_zero.mp q), if_neg (by omega)]
  · have hb : mag F b = top F := h.resolve_left ha
    rw [of_fin (b := a) (by omega), of_inf hb]
    dsimp only
    by_cases z : mag F a = 0
    · rw [if_pos (mant_zero.mpr z), if_pos (.inl z)]
    · rw [if_neg fun q => z (mant_zero.mp q), if_neg (by omega)]
theorem mul_fin (h1 : mag F a < top F) (h2 : mag F b < top F) : mul F a b = if mag F a = 0 ∨ mag F b = 0 then signBit F (sgn F a != sgn F b)
    else round F (sgn F a != sgn F b) (mant F (mag F a) * mant F (mag F b)) (expo F (mag F a) + expo F (mag F b)) false := by
  unfold mul
  rw [of_fin h1, of_fin h2]
  dsimp only
  by_cases z : mag F a = 0 ∨ mag F b = 0
  · rw [if_pos z, if_pos]
    rcases z with z | z
    · rw [mant_zero.mpr z, Nat.zero_mul]
    · rw [mant_zero.mpr z, Nat.mul_zero]
  · rw [if_neg z, if_neg]
    intro q
    rcases Nat.mul_eq_zero.mp q with q | q
    · exact z (.inl (mant_zero.mp q))
    · exact z (.inr (mant_zero.mp q))

theorem div_nan (h : top F < mag F a ∨ top F < mag F b) : div F a b = NONE F := by
  unfold div
  rcases h with h | h
  · rw [of_nan h]
  · rw [of_nan h]
    cases of F a <;> rfl
theorem div_same (hF : Fmt F) (h : mag F a = mag F b) (h2 : mag F a = 0 ∨ mag F a = top F) : div F a b = NONE F := by
  have ht : 0 < top F := by have := pw_lt_top hF; have := pw_pos F; omega
  unfold div
  rcases h2 with z | z
  · rw [of_fin (b := a) (by omega), of_fin (b := b) (by omega)]
    dsimp only
    rw [← h, z, if_pos (mant_zero.mpr rfl), if_pos (mant_zero.mpr rfl)]
  · rw [of_inf z, of_inf (by omega)]
theorem div_zero (hF : Fmt F) (h1 : mag F a ≤ top F) (h2 : mag F b ≤ top F) (hs : ¬ (mag F a = mag F b ∧ (mag F a = 0 ∨ mag F a = top F))) (h : mag F a = 0 ∨ mag F b = top F) :
    div F a b = signBit F (sgn F a != sgn F b) := by
  have ht : 0 < top F := by have := pw_lt_top hF; have := pw_pos F; omega
  unfold div
  by_cases hb : mag F b = top F
  · rw [of_fin (b := a) (by omega), of_inf hb]
  · have ha : mag F a = 0 := h.resolve_right hb
    rw [of_fin (b := a) (by omega), of_fin (b := b) (by omega)]
    dsimp only
    rw [if_neg fun q => hs ⟨by rw [mant_zero.mp q, ha], .inl ha⟩, if_pos (mant_zero.mpr ha)]
theorem div_inf (hF : Fmt F) (h1 : mag F a ≤ top F) (h2 : mag F b ≤ top F) (hs : ¬ (mag F a = 0 ∨ mag F b = top F)) (h : mag F b = 0 ∨ mag F a = top F) :
    div F a b = infinite F (sgn F a != sgn F b) := by
  unfold div
  by_cases ha : mag F a = top F
  · rw [of_inf ha, of_fin (b := b) (by omega)]
  · have hb : mag F b = 0 := h.resolve_right ha
    rw [of_fin (b := a) (by omega), of_fin (b := b) (by omega)]
    dsimp only
    rw [if_pos (mant_zero.mpr hb), if_neg fun q => hs (.inl (mant_zero.mp q))]
theorem div_fin (hF : Fmt F) (h1 : mag F a < top F) (h2 : mag F b < top F) (ha : mag F a ≠ 0) (hb : mag F b ≠ 0) :
    div F a b = round F (sgn F a != sgn F b) (2 * (mant F (mag F a) * 2 ^ (2 * (F.p - 1) + 4) / mant F (mag F b)) + (if 0 < mant F (mag F a) * 2 ^ (2 * (F.p - 1) + 4) % mant F (mag F b) then 1 else 0))
      (expo F (mag F a) - expo F (mag F b) - ((2 * (F.p - 1) + 4 : Nat) : Int) - 1) false := by
  have hm : 0 < mant F (mag F a) := Nat.pos_of_ne_zero fun q => ha (mant_zero.mp q)
  have hn : 0 < mant F (mag F b) := Nat.pos_of_ne_zero fun q => hb (mant_zero.mp q)
  unfold div
  rw [of_fin h1, of_fin h2]
  dsimp only
  rw [if_neg (by omega), if_neg (by omega)]
  exact div_round hF hm hn (mant_lt F _)

end Sig

set_option linter.unusedVariables false
namespace Sig
open Sp18 PySem PyProof.Rows
variable {F : Format} {a b : Nat}

theorem nat_xor_add_and (m : Nat) : ∀ n : Nat, (m ^^^ n) + 2 * (m &&& n) = m + n := by
  induction m using Nat.strongRecOn with
  | ind m ih =>
    intro n
    by_cases h0 : m = 0
    · subst h0; simp
    · have ih' := ih (m / 2) (by omega) (n / 2)
      rw [← Nat.xor_div_two, ← Nat.and_div_two] at ih'
      have o1 := @Nat.xor_mod_two_eq_one m n
      have a1 := @Nat.and_mod_two_eq_one m n
      omega
theorem and_nat (a b : Nat) : Builtin.bitAnd (a : Int) (b : Int) = ((a &&& b : Nat) : Int) := by
  rw [bitAnd_pp (Int.natCast_nonneg a) (Int.natCast_nonneg b), Int.toNat_natCast, Int.toNat_natCast]
theorem xor_nat (a b : Nat) : Builtin.bitXor (a : Int) (b : Int) = ((a ^^^ b : Nat) : Int) := by
  rw [bitXor_and, and_nat]
  have := nat_xor_add_and a b
  omega
theorem and_mask (a n : Nat) : Builtin.bitAnd (a : Int) (((2 ^ n : Nat) : Int) - 1) = ((a % 2 ^ n : Nat) : Int) := by
  have h : 0 < 2 ^ n := Nat.two_pow_pos n
  have e : ((2 ^ n : Nat) : Int) - 1 = ((2 ^ n - 1 : Nat) : Int) := by omega
  rw [e, and_nat, Nat.and_two_pow_sub_one_eq_mod]
theorem sgn_test (F : Format) (a : Nat) : sgn F a = a.testBit (F.bits - 1) := by
  unfold sgn
  rw [Nat.testBit_eq_decide_div_mod_eq]
  by_cases h : a / HB F % 2 = 1
  · rw [decide_eq_true h, h]; rfl
  · rw [decide_eq_false h]
    exact beq_eq_false_iff_ne.mpr h
theorem and_pow (a n : Nat) : a &&& 2 ^ n = if a.testBit n = true then 2 ^ n else 0 := by
  apply Nat.eq_of_testBit_eq
  intro i
  rw [Nat.testBit_and, Nat.testBit_two_pow]
  by_cases h : n = i
  · subst h
    cases c : a.testBit n
    · simp
    · simp [Nat.testBit_two_pow_self]
  · rw [decide_eq_false h, Bool.and_false]
    split
    · rw [Nat.testBit_two_pow, decide_eq_false h]
    · simp
theorem and_hb (F : Format) (a : Nat) : a &&& HB F = signBit F (a.testBit (F.bits - 1)) := by
  unfold HB
  rw [and_pow]
  rfl
theorem p_size (F : Format) (a : Nat) : Builtin.bitAnd (a : Int) (((HB F : Nat) : Int) - 1) = ((mag F a : Nat) : Int) := and_mask a _
theorem p_sign (F : Format) (a : Nat) : Builtin.bitAnd (a : Int) ((HB F : Nat) : Int) = ((signBit F (sgn F a) : Nat) : Int) := by
  rw [and_nat, and_hb, sgn_test]
theorem p_xors (F : Format) (a b : Nat) : Builtin.bitAnd (Builtin.bitXor (a : Int) (b : Int)) ((HB F : Nat) : Int) = ((signBit F (sgn F a != sgn F b) : Nat) : Int) := by
  rw [xor_nat, and_nat, and_hb, Nat.testBit_xor, sgn_test, sgn_test]
theorem p_ands (F : Format) (a b : Nat) : Builtin.bitAnd (Builtin.bitAnd (a : Int) (b : Int)) ((HB F : Nat) : Int) = ((signBit F (sgn F a && sgn F b) : Nat) : Int) := by
  rw [and_nat, and_nat, and_hb, Nat.testBit_and, sgn_test, sgn_test]
theorem p_opp (ha : a < 2 * HB F) : Builtin.bitXor (a : Int) ((HB F : Nat) : Int) = ((signBit F (!sgn F a) + mag F a : Nat) : Int) := by
  rw [bitXor_and, p_sign]
  have e := bits_split ha
  cases h : sgn F a
  · rw [h, signBit_f] at e
    simp only [Bool.not_false, signBit_t, signBit_f]
    omega
  · rw [h, signBit_t] at e
    simp only [Bool.not_true, signBit_t, signBit_f]
    omega
theorem and_sign_mag (s : Bool) {x : Nat} (hx : x < HB F) : signBit F s &&& x = 0 := by
  cases s with
  | false => rw [signBit_f]; simp
  | true =>
    rw [signBit_t, Nat.and_comm, and_hb]
    have : x.testBit (F.bits - 1) = false := Nat.testBit_lt_two_pow hx
    rw [this, signBit_f]
theorem p_or (s : Bool) {x : Nat} (hx : x < HB F) : Builtin.bitOr ((signBit F s : Nat) : Int) (x : Int) = ((signBit F s + x : Nat) : Int) := by
  rw [bitOr_and, and_nat, and_sign_mag s hx]
  omega
theorem p_hidden (F : Format) (a : Nat) : Builtin.bitOr (Builtin.bitAnd (a : Int) (((PW F : Nat) : Int) - 1)) ((PW F : Nat) : Int) = ((PW F + a % PW F : Nat) : Int) := by
  have e : Builtin.bitAnd (a : Int) (((PW F : Nat) : Int) - 1) = ((a % PW F : Nat) : Int) := and_mask a _
  rw [e, bitOr_and, and_nat]
  have h : a % PW F &&& PW F = 0 := by
    unfold PW
    rw [and_pow, Nat.testBit_lt_two_pow (Nat.mod_lt _ (Nat.two_pow_pos _))]
    rfl
  rw [h]
  omega
theorem p_bits {m : Nat} (h : 0 < m) : Builtin.Int.intBits (m : Int) = Nat.log2 m + 1 := by
  unfold Builtin.Int.intBits
  have : ((m : Int) == 0) = false := by
    have : (m : Int) ≠ 0 := by omega
    simpa using this
  rw [this]
  rfl
/-- a differs from its size just where the sign is set -/
theorem ne_size (ha : a < 2 * HB F) : ((a : Int) = ((mag F a : Nat) : Int)) ↔ sgn F a = false := by
  have e := bits_split ha
  have hp := hb_pos F
  cases h : sgn F a
  · rw [h, signBit_f] at e
    simp
    omega
  · rw [h, signBit_t] at e
    simp
    omega
theorem p_shr (a n : Nat) : (a : Int) / 2 ^ n = ((a / 2 ^ n : Nat) : Int) := by
  rw [show (2 : Int) ^ n = ((2 ^ n : Nat) : Int) by simp]
  exact (Int.natCast_ediv a (2 ^ n)).symm
end Sig

set_option linter.unusedVariables false
namespace Sig
open Sp18
open Sp18Neutral (fmt)
def F01 (f : Int) : Prop := f = 0 ∨ f = 1
def Std (F : Format) : Prop := F = single ∨ F = double
theorem F01.std {f : Int} (h : F01 f) : Std (fmt f) := by
  rcases h with rfl | rfl
  · exact .inl rfl
  · exact .inr rfl
theorem Std.ok {F : Format} (h : Std F) : Fmt F := by
  rcases h with rfl | rfl
  · exact fmt_s
  · exact fmt_d
theorem F01.ok {f : Int} (h : F01 f) : Fmt (fmt f) := h.std.ok
section
variable {F : Format} (hF : Std F) {a b : Nat}
include hF
theorem p_bd : 24 ≤ F.p ∧ F.p ≤ 53 := by rcases hF with rfl | rfl <;> decide
theorem least_bd : -1074 ≤ F.least ∧ F.least ≤ -149 := by rcases hF with rfl | rfl <;> decide
theorem pw_bd : 2 * PW F ≤ 2 ^ 53 := by rcases hF with rfl | rfl <;> decide
theorem mant_bd (a : Nat) : mant F a < 2 ^ 53 := by
  have := mant_lt F a
  have := pw_bd hF
  omega
theorem expo_bd (h : a < HB F) : -1074 ≤ expo F a ∧ expo F a ≤ 1024 := by
  have h1 := expo_ge F a
  have h2 := least_bd hF
  refine ⟨by omega, ?_⟩
  have h3 : a / PW F < 2 ^ F.w := by
    rw [Nat.div_lt_iff_lt_mul (pw_pos F), ← hb_eq hF.ok]
    exact h
  have h4 : F.least + ((2 ^ F.w : Nat) : Int) ≤ 1024 := by rcases hF with rfl | rfl <;> decide
  unfold expo
  generalize a / PW F = q at h3
  generalize 2 ^ F.w = W at h3 h4
  split <;> omega
end
theorem log2_bd {n k : Nat} (h : n < 2 ^ k) : Nat.log2 n ≤ k := by
  by_cases h0 : n = 0
  · subst h0
    have : Nat.log2 0 = 0 := by decide
    omega
  · exact Nat.le_of_lt ((Nat.log2_lt h0).mpr h)
theorem mag_mag (F : Format) (a : Nat) : mag F (mag F a) = mag F a := Nat.mod_mod _ _
theorem sgn_mag (F : Format) (a : Nat) : sgn F (mag F a) = false := by
  unfold sgn
  rw [Nat.div_eq_of_lt (mag_lt F a)]
  rfl
theorem mag_small {F : Format} {a : Nat} (h : a < HB F) : mag F a = a := Nat.mod_eq_of_lt h
/-- the sum as the program has it -/
theorem scaled_py {s : Bool} {m : Nat} {e d : Int} : scaled s m e d = if s = true then -((m : Int) * 2 ^ (e - d).toNat) else (m : Int) * 2 ^ (e - d).toNat := by
  unfold scaled signed
  have : ((m * 2 ^ (e - d).toNat : Nat) : Int) = (m : Int) * 2 ^ (e - d).toNat := by
    rw [Int.natCast_mul, Int.natCast_pow]
    rfl
  rw [this]
theorem scaled_bd {s : Bool} {m : Nat} {e d : Int} (hm : m < 2 ^ 53) (h : (e - d).toNat ≤ 2100) : (scaled s m e d).natAbs < 2 ^ 2153 := by
  have e1 : (scaled s m e d).natAbs = m * 2 ^ (e - d).toNat := by
    unfold scaled signed
    split
    · rw [Int.natAbs_neg]; rfl
    · rfl
  have e2 : (2 : Nat) ^ 2153 = 2 ^ 53 * 2 ^ 2100 := by rw [← Nat.pow_add]
  rw [e1, e2]
  refine Nat.lt_of_lt_of_le (Nat.mul_lt_mul_of_pos_right hm (Nat.two_pow_pos _)) (Nat.mul_le_mul_left _ (Nat.pow_le_pow_right (by decide) h))
theorem total_bd {F : Format} (hF : Std F) (a b : Nat) : Nat.log2 (total F a b).natAbs ≤ 2154 := by
  have ha := expo_bd hF (mag_lt F a)
  have hb := expo_bd hF (mag_lt F b)
  obtain ⟨l1, l2, l3⟩ := lower_le (expo F (mag F a)) (expo F (mag F b))
  have h1 := scaled_bd (s := sgn F a) (e := expo F (mag F a)) (d := lower (expo F (mag F a)) (expo F (mag F b))) (mant_bd hF (mag F a)) (by omega)
  have h2 := scaled_bd (s := sgn F b) (e := expo F (mag F b)) (d := lower (expo F (mag F a)) (expo F (mag F b))) (mant_bd hF (mag F b)) (by omega)
  refine log2_bd ?_
  unfold total
  have h3 := Int.natAbs_add_le (scaled (sgn F a) (mant F (mag F a)) (expo F (mag F a)) (lower (expo F (mag F a)) (expo F (mag F b)))) (scaled (sgn F b) (mant F (mag F b)) (expo F (mag F b)) (lower (expo F (mag F a)) (expo F (mag F b))))
  rw [show (2 : Nat) ^ 2154 = 2 ^ 2153 + 2 ^ 2153 by rw [Nat.pow_succ]; omega]
  generalize (2 : Nat) ^ 2153 = B at h1 h2
  omega
/-- the program's rounding, one way and the other -/
theorem rounded_pos {F : Format} {s : Bool} {m : Nat} {e : Int} (h : 0 < dropOf F m e) :
    (e + dropOf F m e - F.least) * 2 ^ ((F.p - 1 : Nat) : Int).toNat + ((m : Int) + 1 * 2 ^ (dropOf F m e - 1).toNat - 1 + (m : Int) / 2 ^ (dropOf F m e).toNat % 2) / 2 ^ (dropOf F m e).toNat
      = (((e + dropOf F m e - F.least).toNat * PW F + nearest m (dropOf F m e) false : Nat) : Int) := by
  have h0 := (round_drop F s m e false).1
  obtain ⟨d, hd⟩ : ∃ d : Nat, dropOf F m e = (d : Int) := ⟨(dropOf F m e).toNat, by omega⟩
  obtain ⟨u, hu⟩ : ∃ u : Nat, e + dropOf F m e - F.least = (u : Int) := ⟨(e + dropOf F m e - F.least).toNat, by omega⟩
  rw [hu]
  rw [hd] at h ⊢
  have hd1 : ((d : Int) - 1).toNat = d - 1 := by omega
  rw [nearest_py false rfl (by omega), hd1, Int.toNat_natCast, Int.toNat_natCast, Int.toNat_natCast]
  have hp : 0 < 2 ^ (d - 1) := Nat.two_pow_pos _
  have hk : 0 < 2 ^ d := Nat.two_pow_pos _
  have e1 : (m : Int) / 2 ^ d % 2 = ((m / 2 ^ d % 2 : Nat) : Int) := by
    rw [p_shr]
    rfl
  have e2 : (m : Int) + 1 * 2 ^ (d - 1) - 1 + ((m / 2 ^ d % 2 : Nat) : Int) = ((m + 2 ^ (d - 1) - 1 + m / 2 ^ d % 2 : Nat) : Int) := by
    have : (2 : Int) ^ (d - 1) = ((2 ^ (d - 1) : Nat) : Int) := by simp
    rw [this]
    omega
  rw [e1, e2, p_shr]
  have e3 : (u : Int) * 2 ^ (F.p - 1) = ((u * PW F : Nat) : Int) := by
    unfold PW
    simp
  rw [e3]
  rfl
theorem rounded_neg {F : Format} {s : Bool} {m : Nat} {e : Int} (h : ¬ 0 < dropOf F m e) :
    (e + dropOf F m e - F.least) * 2 ^ ((F.p - 1 : Nat) : Int).toNat + (m : Int) * 2 ^ (-dropOf F m e).toNat
      = (((e + dropOf F m e - F.least).toNat * PW F + nearest m (dropOf F m e) false : Nat) : Int) := by
  have h0 := (round_drop F s m e false).1
  obtain ⟨u, hu⟩ : ∃ u : Nat, e + dropOf F m e - F.least = (u : Int) := ⟨(e + dropOf F m e - F.least).toNat, by omega⟩
  unfold nearest
  rw [if_pos (by omega), hu, Int.toNat_natCast, Int.toNat_natCast]
  unfold PW
  simp
end Sig

namespace Sig
open Sp18
open Sp18Neutral (fmt nats)
theorem among_iff {op : Int} {n : Nat} : among op n = true ↔ 0 ≤ op ∧ op < n := by
  unfold among
  simp
/-- what is asked of a row -/
theorem row_iff {F : Int} {l : List Int} (hF : F01 F) : Sp18Neutral.row F l = true → ∀ z ∈ l, 0 ≤ z ∧ z < ((2 * HB (fmt F) : Nat) : Int) := by
  intro h z hz
  unfold Sp18Neutral.row at h
  rw [Bool.and_eq_true, List.all_eq_true] at h
  have h1 := h.2 z hz
  rw [Bool.and_eq_true] at h1
  have h2 := of_decide_eq_true h1.1
  have h3 := of_decide_eq_true h1.2
  refine ⟨h2, ?_⟩
  rcases hF with rfl | rfl
  · have : ((2 * HB (fmt 0) : Nat) : Int) = 4294967296 := by decide
    rw [this]
    simpa using h3
  · have : ((2 * HB (fmt 1) : Nat) : Int) = 18446744073709551616 := by decide
    rw [this]
    simpa using h3
theorem isFmt_iff {F : Int} : Sp18Neutral.isFmt F = true → F01 F := by
  unfold Sp18Neutral.isFmt F01
  simp
end Sig

set_option linter.unusedVariables false
namespace Sig
open Sp18
variable {F : Format} {a b : Nat}
theorem sign_ne (F : Format) (s : Bool) : signBit F (!s) ≠ signBit F s := by
  have := hb_pos F
  cases s
  · simp only [Bool.not_false, signBit_t, signBit_f]; omega
  · simp only [Bool.not_true, signBit_t, signBit_f]; omega
theorem endless_eq (ha : a < 2 * HB F) (hb : b < 2 * HB F) (h : top F ≤ mag F a ∨ top F ≤ mag F b) : add F a b =
    if top F < mag F a then NONE F else if top F < mag F b then NONE F else if ¬ mag F a = top F then b else if b = signBit F (!sgn F a) + mag F a then NONE F else a := by
  by_cases c1 : top F < mag F a
  · rw [if_pos c1, add_nan (.inl c1)]
  rw [if_neg c1]
  by_cases c2 : top F < mag F b
  · rw [if_pos c2, add_nan (.inr c2)]
  rw [if_neg c2]
  by_cases c3 : mag F a = top F
  · rw [if_neg (fun z => z c3)]
    by_cases c4 : mag F b = top F
    · rw [add_inf_inf ha c3 c4]
      have e := bits_split hb
      by_cases c5 : sgn F a = sgn F b
      · rw [if_pos c5, if_neg]
        intro z
        have h2 := sign_ne F (sgn F b)
        rw [c5] at z
        omega
      · rw [if_neg c5, if_pos]
        have e2 : sgn F b = !sgn F a := by
          clear e
          revert c5
          generalize sgn F a = s
          generalize sgn F b = t
          intro c5
          cases s <;> cases t <;> first | rfl | exact absurd rfl c5
        rw [← e2]
        omega
    · rw [add_inf_l ha c3 (by omega), if_neg]
      intro z
      have := mag_of (F := F) (s := !sgn F a) (mag_lt F a)
      rw [← z] at this
      omega
  · rw [if_pos c3]
    exact add_inf_r hb (by omega) (by omega)
theorem add_fin2 (h1 : mag F a < top F) (h2 : mag F b < top F) : add F a b = if total F a b = 0 then signBit F (sgn F a && sgn F b)
    else if total F a b < 0 then round F true (-total F a b).toNat (lower (expo F (mag F a)) (expo F (mag F b))) false else round F false (total F a b).toNat (lower (expo F (mag F a)) (expo F (mag F b))) false := by
  rw [add_fin h1 h2]
  split
  · rfl
  · split
    · rename_i h
      rw [decide_eq_true h]
      congr 1
      omega
    · rename_i h
      rw [decide_eq_false h]
      congr 1
      omega
theorem mul_eq (hF : Fmt F) : mul F a b =
    if top F ≤ mag F a ∨ top F ≤ mag F b then (if top F < mag F a ∨ top F < mag F b ∨ mag F a = 0 ∨ mag F b = 0 then NONE F else signBit F (sgn F a != sgn F b) + top F)
    else if mag F a = 0 ∨ mag F b = 0 then signBit F (sgn F a != sgn F b)
    else round F (sgn F a != sgn F b) (mant F (mag F a) * mant F (mag F b)) (expo F (mag F a) + expo F (mag F b)) false := by
  by_cases c : top F ≤ mag F a ∨ top F ≤ mag F b
  · rw [if_pos c]
    by_cases c1 : top F < mag F a ∨ top F < mag F b
    · rw [mul_nan c1, if_pos (c1.elim .inl fun z => .inr (.inl z))]
    · rw [mul_inf hF (by omega) (by omega) (by omega)]
      by_cases c2 : mag F a = 0 ∨ mag F b = 0
      · rw [if_pos c2, if_pos (.inr (.inr c2))]
      · rw [if_neg c2, if_neg (by omega)]
        rfl
  · rw [if_neg c, mul_fin (by omega) (by omega)]
theorem div_eq (hF : Fmt F) : div F a b =
    if top F < mag F a ∨ top F < mag F b then NONE F
    else if mag F a = mag F b ∧ (mag F a = 0 ∨ mag F a = top F) then NONE F
    else if mag F a = 0 ∨ mag F b = top F then signBit F (sgn F a != sgn F b)
    else if mag F b = 0 ∨ mag F a = top F then signBit F (sgn F a != sgn F b) + top F
    else round F (sgn F a != sgn F b) (2 * (mant F (mag F a) * 2 ^ (2 * (F.p - 1) + 4) / mant F (mag F b)) + (if 0 < mant F (mag F a) * 2 ^ (2 * (F.p - 1) + 4) % mant F (mag F b) then 1 else 0))
      (expo F (mag F a) - expo F (mag F b) - ((2 * (F.p - 1) + 4 : Nat) : Int) - 1) false := by
  by_cases c : top F < mag F a ∨ top F < mag F b
  · rw [if_pos c, div_nan c]
  rw [if_neg c]
  by_cases c1 : mag F a = mag F b ∧ (mag F a = 0 ∨ mag F a = top F)
  · rw [if_pos c1, div_same hF c1.1 c1.2]
  rw [if_neg c1]
  by_cases c2 : mag F a = 0 ∨ mag F b = top F
  · rw [if_pos c2, div_zero hF (by omega) (by omega) c1 c2]
  rw [if_neg c2]
  by_cases c3 : mag F b = 0 ∨ mag F a = top F
  · rw [if_pos c3, div_inf hF (by omega) (by omega) c2 c3]
    rfl
  rw [if_neg c3, div_fin hF (by omega) (by omega) (by omega) (by omega)]
theorem sign_or_lt (s : Bool) {x : Nat} (hx : x < HB F) : signBit F s + x < 2 * HB F := by
  have := signBit_le F s
  omega
end Sig

set_option linter.unusedVariables false
namespace Sig
open Sp18
variable {F : Format} {a b : Nat}
theorem cast_shl (a k : Nat) : (a : Int) * 2 ^ k = ((a * 2 ^ k : Nat) : Int) := by
  rw [Int.natCast_mul, Int.natCast_pow]
  rfl
theorem cast_div (a b : Nat) : (a : Int) / (b : Int) = ((a / b : Nat) : Int) := rfl
theorem cast_mod (a b : Nat) : (a : Int) % (b : Int) = ((a % b : Nat) : Int) := rfl
theorem cast_rest (q r : Nat) : (2 * (q : Int) + if 0 < (r : Int) then 1 else 0) = ((2 * q + if 0 < r then 1 else 0 : Nat) : Int) := by
  split <;> split <;> omega
theorem quot_bd (hF : Std F) {a b : Nat} (ha : 0 < a) (ha2 : a < 2 ^ 53) (hb : 0 < b) (hb2 : b < 2 * PW F) :
    0 < a * 2 ^ (2 * (F.p - 1) + 4) / b ∧ Nat.log2 (2 * (a * 2 ^ (2 * (F.p - 1) + 4) / b) + (if 0 < a * 2 ^ (2 * (F.p - 1) + 4) % b then 1 else 0)) ≤ 300 := by
  have hp := p_bd hF
  have h1 : 2 * PW F ≤ 2 ^ (2 * (F.p - 1) + 4) := by
    rw [show 2 * PW F = 2 ^ (F.p - 1 + 1) by rw [Nat.pow_succ, Nat.mul_comm]]
    exact Nat.pow_le_pow_right (by decide) (by omega)
  have h2 : 2 ^ (2 * (F.p - 1) + 4) ≤ a * 2 ^ (2 * (F.p - 1) + 4) := Nat.le_mul_of_pos_left _ ha
  refine ⟨Nat.div_pos (by omega) hb, log2_bd ?_⟩
  have h3 : a * 2 ^ (2 * (F.p - 1) + 4) < 2 ^ 53 * 2 ^ 108 := by
    refine Nat.lt_of_lt_of_le (Nat.mul_lt_mul_of_pos_right ha2 (Nat.two_pow_pos _)) (Nat.mul_le_mul_left _ (Nat.pow_le_pow_right (by decide) (by omega)))
  have h4 := Nat.div_le_self (a * 2 ^ (2 * (F.p - 1) + 4)) b
  have h5 : (2 : Nat) ^ 300 = 2 ^ 139 * (2 ^ 53 * 2 ^ 108) := by rw [← Nat.pow_add, ← Nat.pow_add]
  have h6 : 4 ≤ (2 : Nat) ^ 139 := by decide
  have h7 : 4 * (2 ^ 53 * 2 ^ 108) ≤ (2 : Nat) ^ 300 := by rw [h5]; exact Nat.mul_le_mul_right _ h6
  generalize (2 : Nat) ^ 53 * 2 ^ 108 = B at h3 h7
  generalize (2 : Nat) ^ 300 = C at h7 ⊢
  split <;> omega
theorem lower_py (e f : Int) : (if f < e then f else e) = lower e f := by
  unfold lower
  split <;> split <;> omega
theorem total_py2 (ha : a < 2 * HB F) (hb : b < 2 * HB F) :
    (if (!decide (a = mag F a)) = true then -(((mant F (mag F a) : Nat) : Int) * 2 ^ (expo F (mag F a) - lower (expo F (mag F a)) (expo F (mag F b))).toNat) else ((mant F (mag F a) : Nat) : Int) * 2 ^ (expo F (mag F a) - lower (expo F (mag F a)) (expo F (mag F b))).toNat) +
    (if (!decide (b = mag F b)) = true then -(((mant F (mag F b) : Nat) : Int) * 2 ^ (expo F (mag F b) - lower (expo F (mag F a)) (expo F (mag F b))).toNat) else ((mant F (mag F b) : Nat) : Int) * 2 ^ (expo F (mag F b) - lower (expo F (mag F a)) (expo F (mag F b))).toNat) = total F a b := by
  have e1 : (!decide (a = mag F a)) = sgn F a := by
    have := ne_size ha
    rw [Int.natCast_inj] at this
    cases h : sgn F a with
    | false => rw [decide_eq_true (this.mpr h)]; rfl
    | true => rw [decide_eq_false fun z => by rw [this.mp z] at h; cases h]; rfl
  have e2 : (!decide (b = mag F b)) = sgn F b := by
    have := ne_size hb
    rw [Int.natCast_inj] at this
    cases h : sgn F b with
    | false => rw [decide_eq_true (this.mpr h)]; rfl
    | true => rw [decide_eq_false fun z => by rw [this.mp z] at h; cases h]; rfl
  rw [e1, e2]
  unfold total
  rw [scaled_py, scaled_py]
end Sig

set_option linter.unusedVariables false
namespace Sig
open Sp18
variable {F : Format} {a b : Nat}
end Sig

set_option linter.unusedVariables false
namespace Sig
open Sp18
open Sp18Neutral (fmt nats)
theorem small_iff {op : Int} (h : Sp18Neutral.small op = true) : 0 ≤ op := by
  unfold Sp18Neutral.small NeutralIO.within at h
  rw [Bool.and_eq_true] at h
  exact of_decide_eq_true h.1
end Sig

set_option linter.unusedVariables false
namespace Sig
open Sp18
open Sp18Neutral (fmt nats)
variable {F : Format} {a b : Nat}
end Sig

set_option linter.unusedVariables false
namespace Sig
open Sp18
open Sp18Neutral (fmt nats)
variable {F : Format} {a b c d : Nat}
end Sig

set_option linter.all false
namespace Sig
open Sp18
open Sp18Neutral (fmt nats)
variable {F G : Format} {a b : Nat}
theorem conv_eq (F G : Format) (a : Nat) (hF : Fmt F) : convert F G a = if top F < mag F a then NONE G else if mag F a = 0 then signBit G (sgn F a) else if mag F a = top F then signBit G (sgn F a) + top G
    else round G (sgn F a) (mant F (mag F a)) (expo F (mag F a)) false := by
  have hp := pw_lt_top hF
  have hpw := pw_pos F
  unfold convert
  by_cases c1 : top F < mag F a
  · rw [if_pos c1, of_nan c1]
  rw [if_neg c1]
  by_cases c2 : mag F a = top F
  · rw [of_inf c2, if_neg (by omega), if_pos c2]
    rfl
  rw [of_fin (by omega)]
  by_cases c3 : mag F a = 0
  · rw [if_pos c3]
    show (if mant F (mag F a) = 0 then _ else _) = _
    rw [if_pos (mant_zero.mpr c3)]
  · rw [if_neg c3, if_neg c2]
    show (if mant F (mag F a) = 0 then _ else _) = _
    rw [if_neg (fun z => c3 (mant_zero.mp z))]
end Sig

set_option linter.all false
namespace Sig
open Sp18
open Sp18Neutral (fmt nats)
end Sig

set_option linter.all false
namespace Sig
open Sp18
open Sp18Neutral (fmt nats)
variable {F : Format}
theorem nats_getD (a : List Int) (i : Nat) : (nats a).getD i 0 = (a.getD i 0).toNat := by
  unfold nats
  rw [List.getD_eq_getElem?_getD, List.getD_eq_getElem?_getD, List.getElem?_map]
  cases a[i]? <;> rfl
end Sig

set_option linter.all false
namespace Sig
open Sp18
open Sp18Neutral (fmt nats)
variable {F : Format}
end Sig

set_option linter.all false
namespace Sig
open Sp18
variable {F : Format}
/-- S is the size nearest to N by two to the k (in units of the least power), of two as near the even one -/
def near (F : Format) (S N k : Nat) : Prop :=
  (2 * N ≤ (val F S + val F (S + 1)) * 2 ^ k ∧ (2 * N = (val F S + val F (S + 1)) * 2 ^ k → S % 2 = 0)) ∧
  (∀ T, S = T + 1 → (val F T + val F S) * 2 ^ k ≤ 2 * N ∧ ((val F T + val F S) * 2 ^ k = 2 * N → S % 2 = 0))
theorem val_le {a b : Nat} (h : a ≤ b) : val F a ≤ val F b := by
  rcases Nat.lt_or_ge a b with c | c
  · exact Nat.le_of_lt (val_mono c)
  · rw [Nat.le_antisymm h c]; exact Nat.le_refl _
theorem near_mono {S T N M k : Nat} (h1 : near F S N k) (h2 : near F T M k) (h : N ≤ M) : S ≤ T := by
  rcases Nat.lt_or_ge T S with c | c
  · exfalso
    obtain ⟨U, rfl⟩ : ∃ U, S = U + 1 := ⟨S - 1, by omega⟩
    obtain ⟨a1, a2⟩ := h1.2 U rfl
    obtain ⟨b1, b2⟩ := h2.1
    have hp : 0 < 2 ^ k := Nat.two_pow_pos k
    have v1 : val F T ≤ val F U := val_le (by omega)
    have v2 : val F (T + 1) ≤ val F (U + 1) := val_le (by omega)
    have v3 : (val F T + val F (T + 1)) * 2 ^ k ≤ (val F U + val F (U + 1)) * 2 ^ k := Nat.mul_le_mul_right _ (by omega)
    have e1 : (val F U + val F (U + 1)) * 2 ^ k = 2 * N := by omega
    have e2 : 2 * M = (val F T + val F (T + 1)) * 2 ^ k := by omega
    have e3 : (val F T + val F (T + 1)) * 2 ^ k = (val F U + val F (U + 1)) * 2 ^ k := by omega
    have e4 := Nat.eq_of_mul_eq_mul_right hp e3
    have e5 : T = U := by
      rcases Nat.lt_or_ge T U with d | d
      · have := val_mono (F := F) d; omega
      · omega
    subst e5
    have := a2 e1
    have := b2 e2
    omega
  · exact c
theorem near_uniq {S T N k : Nat} (h1 : near F S N k) (h2 : near F T N k) : S = T := Nat.le_antisymm (near_mono h1 h2 (Nat.le_refl _)) (near_mono h2 h1 (Nat.le_refl _))
theorem near_self (S k : Nat) : near F S (val F S * 2 ^ k) k := by
  have hp : 0 < 2 ^ k := Nat.two_pow_pos k
  have e : 2 * (val F S * 2 ^ k) = (val F S + val F S) * 2 ^ k := by rw [Nat.add_mul]; omega
  have h1 := val_step F S
  have h2 : (val F S + val F S) * 2 ^ k < (val F S + val F (S + 1)) * 2 ^ k := Nat.mul_lt_mul_of_pos_right (by omega) hp
  refine ⟨⟨by omega, fun z => by omega⟩, fun T hT => ?_⟩
  subst hT
  have h3 := val_step F T
  have h4 : (val F T + val F (T + 1)) * 2 ^ k < (val F (T + 1) + val F (T + 1)) * 2 ^ k := Nat.mul_lt_mul_of_pos_right (by omega) hp
  exact ⟨by omega, fun z => by omega⟩
theorem near_le {S N k c : Nat} (h : near F S N k) (hc : N ≤ val F c * 2 ^ k) : S ≤ c := near_mono h (near_self c k) hc
theorem near_ge {S N k c : Nat} (h : near F S N k) (hc : val F c * 2 ^ k ≤ N) : c ≤ S := near_mono (near_self c k) h hc
theorem near_scale {S N k : Nat} (j : Nat) : near F S N k ↔ near F S (N * 2 ^ j) (k + j) := by
  have hp : 0 < 2 ^ j := Nat.two_pow_pos j
  unfold near
  have e : ∀ x : Nat, x * 2 ^ (k + j) = x * 2 ^ k * 2 ^ j := fun x => by rw [Nat.pow_add, Nat.mul_assoc]
  have e2 : 2 * (N * 2 ^ j) = 2 * N * 2 ^ j := by rw [Nat.mul_assoc]
  simp only [e, e2, Nat.mul_le_mul_right_iff hp]
  have i : ∀ x y : Nat, x * 2 ^ j = y * 2 ^ j ↔ x = y := fun x y => ⟨fun h => Nat.eq_of_mul_eq_mul_right hp h, fun h => by rw [h]⟩
  simp only [i]
theorem val_pack {U m : Nat} (hm : m ≤ 2 * PW F) (h : U = 0 ∨ PW F ≤ m) : val F (U * PW F + m) = m * 2 ^ U := by
  have hp := pw_pos F
  rw [val_eq]
  rcases Nat.lt_or_ge m (PW F) with c | c
  · have : U = 0 := by omega
    subst this
    rw [Nat.zero_mul, Nat.zero_add, if_pos (Nat.div_eq_of_lt c), Nat.mod_eq_of_lt c, Nat.pow_zero, Nat.mul_one]
  · rcases Nat.lt_or_ge m (2 * PW F) with d | d
    · have e1 : U * PW F + m = (U + 1) * PW F + (m - PW F) := by rw [Nat.add_mul]; omega
      have e2 : (U * PW F + m) / PW F = U + 1 := by
        rw [e1, Nat.add_comm, Nat.add_mul_div_right _ _ hp, Nat.div_eq_of_lt (by omega), Nat.zero_add]
      have e3 : (U * PW F + m) % PW F = m - PW F := by
        rw [e1, Nat.add_comm, Nat.add_mul_mod_self_right, Nat.mod_eq_of_lt (by omega)]
      rw [e2, if_neg (by omega), e3, Nat.add_sub_cancel]
      congr 1
      omega
    · have e0 : m = 2 * PW F := by omega
      have e1 : U * PW F + m = (U + 2) * PW F := by rw [Nat.add_mul]; omega
      have e2 : (U * PW F + m) / PW F = U + 2 := by rw [e1, Nat.mul_div_cancel _ hp]
      have e3 : (U * PW F + m) % PW F = 0 := by rw [e1, Nat.mul_mod_left]
      rw [e2, if_neg (by omega), e3, e0, Nat.add_zero, show U + 2 - 1 = U + 1 by omega, Nat.pow_succ]
      generalize 2 ^ U = y
      generalize PW F = x
      rw [Nat.mul_comm y 2, ← Nat.mul_assoc, Nat.mul_comm x 2]
theorem even_pack (hF : Fmt F) (U m : Nat) : (U * PW F + m) % 2 = m % 2 := by
  have : PW F = 2 * 2 ^ (F.p - 2) := by
    have := hF.hp
    unfold PW
    rw [show F.p - 1 = (F.p - 2) + 1 by omega, Nat.pow_succ, Nat.mul_comm]
  rw [this]
  have e : U * (2 * 2 ^ (F.p - 2)) = 2 * (U * 2 ^ (F.p - 2)) := by
    generalize 2 ^ (F.p - 2) = y
    rw [← Nat.mul_assoc, Nat.mul_comm U 2, Nat.mul_assoc]
  rw [e]
  omega
/-- q and a rest r of 2 to the d, to the nearest -/
theorem near_core (hF : Fmt F) {U q r d : Nat} (hr : r < 2 ^ d) (hd : 0 < d) (hq : q < 2 * PW F) (h : U = 0 ∨ PW F ≤ q) :
    near F (U * PW F + (if 2 ^ d < 2 * r ∨ (2 * r = 2 ^ d ∧ q % 2 = 1) then q + 1 else q)) ((q * 2 ^ d + r) * 2 ^ U) d := by
  have hp := pw_pos F
  have hD : 0 < 2 ^ d := Nat.two_pow_pos d
  have hU : 0 < 2 ^ U := Nat.two_pow_pos U
  obtain ⟨m, hm⟩ : ∃ m, m = (if 2 ^ d < 2 * r ∨ (2 * r = 2 ^ d ∧ q % 2 = 1) then q + 1 else q) := ⟨_, rfl⟩
  rw [← hm]
  have hmq : (m = q + 1 ∧ 2 ^ d ≤ 2 * r ∧ (2 * r = 2 ^ d → m % 2 = 0)) ∨ (m = q ∧ 2 * r ≤ 2 ^ d ∧ (2 * r = 2 ^ d → m % 2 = 0)) := by
    by_cases c : 2 ^ d < 2 * r ∨ (2 * r = 2 ^ d ∧ q % 2 = 1)
    · rw [if_pos c] at hm; left; refine ⟨hm, by omega, fun z => by omega⟩
    · rw [if_neg c] at hm; right; refine ⟨hm, by omega, fun z => by omega⟩
  have hm2 : m ≤ 2 * PW F := by omega
  have hmU : U = 0 ∨ PW F ≤ m := by omega
  have ev := even_pack hF U m
  have vS := val_pack (U := U) hm2 hmU
  have vS1 : (m + 1) * 2 ^ U ≤ val F (U * PW F + m + 1) := by
    rcases Nat.lt_or_ge m (2 * PW F) with c | c
    · rw [Nat.add_assoc, val_pack (U := U) (m := m + 1) (by omega) (by omega)]
      exact Nat.le_refl _
    · have e0 : m = 2 * PW F := by omega
      have e1 : U * PW F + m + 1 = (U + 1) * PW F + (PW F + 1) := by rw [Nat.add_mul]; omega
      rw [e1, val_pack (U := U + 1) (m := PW F + 1) (by omega) (by omega), e0, Nat.pow_succ]
      generalize 2 ^ U = y
      rw [Nat.mul_comm y 2, ← Nat.mul_assoc]
      exact Nat.mul_le_mul_right _ (by omega)
  -- everything by 2 ^ U
  have k1 : ∀ x y : Nat, x * 2 ^ U * 2 ^ d = x * 2 ^ d * 2 ^ U := fun x y => by rw [Nat.mul_assoc, Nat.mul_comm (2 ^ U), ← Nat.mul_assoc]
  have two : 2 * ((q * 2 ^ d + r) * 2 ^ U) = (2 * (q * 2 ^ d) + 2 * r) * 2 ^ U := by rw [← Nat.mul_assoc, Nat.mul_add]
  have dm : (2 * m + 1) * 2 ^ d = 2 * (m * 2 ^ d) + 2 ^ d := by rw [Nat.add_mul, Nat.one_mul, Nat.mul_assoc]
  have mq : m * 2 ^ d = q * 2 ^ d + (if m = q then 0 else 2 ^ d) := by
    rcases hmq with ⟨e, _⟩ | ⟨e, _⟩
    · rw [e, if_neg (by omega), Nat.add_mul, Nat.one_mul]
    · rw [e, if_pos rfl, Nat.add_zero]
  have up : (2 * m + 1) * 2 ^ d * 2 ^ U ≤ (val F (U * PW F + m) + val F (U * PW F + m + 1)) * 2 ^ d := by
    rw [← k1 _ 0]
    refine Nat.mul_le_mul_right _ ?_
    rw [vS]
    have : (2 * m + 1) * 2 ^ U = m * 2 ^ U + (m + 1) * 2 ^ U := by rw [← Nat.add_mul]; congr 1; omega
    omega
  refine ⟨⟨?_, fun z => ?_⟩, fun T hT => ?_⟩
  · refine Nat.le_trans ?_ up
    rw [two]
    refine Nat.mul_le_mul_right _ ?_
    rw [dm, mq]
    split
    · next c => rcases hmq with ⟨e, _⟩ | ⟨e, e2, _⟩ <;> omega
    · omega
  · rw [ev]
    rw [← z, two] at up
    have up2 := Nat.le_of_mul_le_mul_right up hU
    rw [dm, mq] at up2
    rcases hmq with ⟨e, e2, e3⟩ | ⟨e, e2, e3⟩
    · rw [if_neg (by omega)] at up2
      omega
    · rw [if_pos e] at up2
      exact e3 (by omega)
  · -- below
    have hm0 : 0 < m := by
      rcases Nat.eq_zero_or_pos m with c | c
      · have : U = 0 := by omega
        rw [c, this] at hT
        omega
      · exact c
    by_cases c : U = 0 ∨ PW F + 1 ≤ m
    · have eT : T = U * PW F + (m - 1) := by omega
      have vT : val F T = (m - 1) * 2 ^ U := by rw [eT]; exact val_pack (by omega) (by omega)
      have s : (val F T + val F (U * PW F + m)) * 2 ^ d = (2 * (m * 2 ^ d) - 2 ^ d) * 2 ^ U := by
        rw [vT, vS, ← Nat.add_mul, k1 _ 0]
        congr 1
        rw [show m - 1 + m = 2 * m - 1 by omega, Nat.sub_mul, Nat.one_mul, Nat.mul_assoc]
      rw [s, two]
      have mqm : 2 ^ d ≤ m * 2 ^ d := Nat.le_mul_of_pos_left _ hm0
      refine ⟨Nat.mul_le_mul_right _ ?_, fun z => ?_⟩
      · rw [mq]
        split
        · omega
        · rcases hmq with ⟨e, e2, _⟩ | ⟨e, _⟩ <;> omega
      · have z2 := Nat.eq_of_mul_eq_mul_right hU z
        rw [ev]
        rcases hmq with ⟨e, e2, e3⟩ | ⟨e, e2, e3⟩
        · rw [mq, if_neg (by omega)] at z2
          exact e3 (by omega)
        · rw [mq, if_pos e] at z2 mqm
          omega
    · have eU : U ≠ 0 := fun z => c (.inl z)
      have em : m = PW F := by omega
      have eq : q = PW F := by omega
      obtain ⟨W, rfl⟩ : ∃ W, U = W + 1 := ⟨U - 1, by omega⟩
      have vT : val F T < val F ((W + 1) * PW F + m) := by rw [hT]; exact val_step F T
      have lt : (val F T + val F ((W + 1) * PW F + m)) * 2 ^ d < (2 * m) * 2 ^ d * 2 ^ (W + 1) := by
        rw [← k1 _ 0]
        refine Nat.mul_lt_mul_of_pos_right ?_ hD
        rw [vS] at vT ⊢
        rw [Nat.mul_assoc]
        omega
      have ge : (2 * m) * 2 ^ d * 2 ^ (W + 1) ≤ (2 * (q * 2 ^ d) + 2 * r) * 2 ^ (W + 1) := by
        refine Nat.mul_le_mul_right _ ?_
        rw [eq, ← em, Nat.mul_assoc]
        omega
      rw [two]
      exact ⟨by omega, fun z => by omega⟩
/-- the size that round gives, ahead of the greatest -/
def szOf (F : Format) (n : Nat) (e : Int) : Nat := (e + dropOf F n e - F.least).toNat * PW F + nearest n (dropOf F n e) false
theorem round_sz (F : Format) (s : Bool) (n : Nat) (e : Int) : round F s n e false = signBit F s + min (szOf F n e) (top F) := (round_drop F s n e false).2
theorem two_p (hF : Fmt F) : 2 ^ F.p = 2 * PW F := by
  have := hF.hp
  unfold PW
  rw [← Nat.pow_succ']
  congr 1
  omega
theorem near_round (hF : Fmt F) {n : Nat} (hn : 0 < n) (e : Int) : near F (szOf F n e) (n * 2 ^ (e - F.least).toNat) (F.least - e).toNat := by
  have h0 := (round_drop F false n e false).1
  have hp := hF.hp
  have hp2 := two_p hF
  have hlo : 2 ^ Nat.log2 n ≤ n := Nat.log2_self_le (by omega)
  have hhi : n < 2 ^ (Nat.log2 n + 1) := Nat.lt_log2_self
  unfold szOf
  obtain ⟨d, hd⟩ : ∃ d, d = dropOf F n e := ⟨_, rfl⟩
  rw [← hd] at h0 ⊢
  obtain ⟨U, hU⟩ : ∃ U, U = (e + d - F.least).toNat := ⟨_, rfl⟩
  rw [← hU]
  have hdd : (d = F.least - e ∧ ((Nat.log2 n + 1 : Nat) : Int) - ((F.p - 1 : Nat) : Int) - 1 ≤ d ∧ U = 0) ∨ (d = ((Nat.log2 n + 1 : Nat) : Int) - ((F.p - 1 : Nat) : Int) - 1) := by
    unfold dropOf at hd
    split at hd
    · left; exact ⟨hd, by omega, by omega⟩
    · right; exact hd
  by_cases c : 0 < d
  · obtain ⟨k, hk⟩ : ∃ k : Nat, (k : Int) = d := ⟨d.toNat, by omega⟩
    have hk0 : 0 < k := by omega
    have key := near_core hF (U := U) (q := n / 2 ^ k) (r := n % 2 ^ k) (d := k) (Nat.mod_lt _ (Nat.two_pow_pos k)) hk0 ?_ ?_
    · have en : n / 2 ^ k * 2 ^ k + n % 2 ^ k = n := by rw [Nat.mul_comm]; exact Nat.div_add_mod n _
      rw [en] at key
      have e1 : nearest n d false = if 2 ^ k < 2 * (n % 2 ^ k) ∨ (2 * (n % 2 ^ k) = 2 ^ k ∧ n / 2 ^ k % 2 = 1) then n / 2 ^ k + 1 else n / 2 ^ k := by
        unfold nearest
        rw [if_neg (by omega), ← hk]
        simp
      rw [e1]
      rcases Nat.le_total k U with h | h
      · have a1 : (e - F.least).toNat = U - k := by omega
        have a2 : (F.least - e).toNat = 0 := by omega
        rw [a1, a2, near_scale k, Nat.zero_add, Nat.mul_assoc, ← Nat.pow_add, Nat.sub_add_cancel h]
        exact key
      · have a1 : (e - F.least).toNat = 0 := by omega
        have a2 : (F.least - e).toNat = k - U := by omega
        rw [a1, a2, Nat.pow_zero, Nat.mul_one, near_scale U, Nat.sub_add_cancel h]
        exact key
    · rw [Nat.div_lt_iff_lt_mul (Nat.two_pow_pos k), ← hp2, ← Nat.pow_add]
      refine Nat.lt_of_lt_of_le hhi (Nat.pow_le_pow_right (by decide) ?_)
      omega
    · rcases hdd with ⟨_, _, z⟩ | z
      · exact .inl z
      · right
        rw [Nat.le_div_iff_mul_le (Nat.two_pow_pos k)]
        unfold PW
        rw [← Nat.pow_add]
        refine Nat.le_trans (Nat.pow_le_pow_right (by decide) ?_) hlo
        omega
  · obtain ⟨k, hk⟩ : ∃ k : Nat, (k : Int) = -d := ⟨(-d).toNat, by omega⟩
    have e1 : nearest n d false = n * 2 ^ k := by
      unfold nearest
      rw [if_pos (by omega)]
      congr 2
      omega
    have hle : F.least ≤ e := by omega
    have m2 : n * 2 ^ k ≤ 2 * PW F := by
      rw [← hp2]
      refine Nat.le_of_lt (Nat.lt_of_lt_of_le (Nat.mul_lt_mul_of_pos_right hhi (Nat.two_pow_pos k)) ?_)
      rw [← Nat.pow_add]
      exact Nat.pow_le_pow_right (by decide) (by omega)
    have mU : U = 0 ∨ PW F ≤ n * 2 ^ k := by
      rcases hdd with ⟨_, _, z⟩ | z
      · exact .inl z
      · right
        refine Nat.le_trans ?_ (Nat.mul_le_mul_right _ hlo)
        unfold PW
        rw [← Nat.pow_add]
        exact Nat.pow_le_pow_right (by decide) (by omega)
    have v := val_pack (U := U) m2 mU
    rw [e1]
    have a2 : (F.least - e).toNat = 0 := by omega
    have e2 : n * 2 ^ (e - F.least).toNat = val F (U * PW F + n * 2 ^ k) * 2 ^ 0 := by
      rw [v, Nat.pow_zero, Nat.mul_one, Nat.mul_assoc, ← Nat.pow_add]
      congr 2
      omega
    rw [a2, e2]
    exact near_self _ 0
end Sig

set_option linter.all false
namespace Sig
open Sp18
variable {F : Format} {a b c : Nat}
abbrev LL (F : Format) : Nat := (-F.least).toNat
/-- a finite number's value, in units of the least power -/
def VV (F : Format) (a : Nat) : Int := signed (sgn F a) (val F (mag F a))
theorem least_neg (h : Std F) : F.least ≤ 0 := by have := least_bd h; omega
theorem min_lt2 (hF : Fmt F) (S : Nat) : min S (top F) < HB F := by have := top_lt hF; omega
theorem mul_near (hF : Std F) (h1 : mag F a < top F) (h2 : mag F b < top F) : ∃ S, mul F a b = signBit F (sgn F a != sgn F b) + min S (top F) ∧ near F S (val F (mag F a) * val F (mag F b)) (LL F) := by
  rw [mul_fin h1 h2]
  by_cases z : mag F a = 0 ∨ mag F b = 0
  · rw [if_pos z]
    refine ⟨0, by rw [Nat.zero_min]; rfl, ?_⟩
    have e : val F (mag F a) * val F (mag F b) = val F 0 * 2 ^ LL F := by
      rw [val_zero, Nat.zero_mul]
      rcases z with z | z
      · rw [z, val_zero, Nat.zero_mul]
      · rw [z, val_zero, Nat.mul_zero]
    rw [e]
    exact near_self 0 _
  · rw [if_neg z, round_sz]
    refine ⟨_, rfl, ?_⟩
    have m1 : mant F (mag F a) ≠ 0 := fun q => z (.inl (mant_zero.mp q))
    have m2 : mant F (mag F b) ≠ 0 := fun q => z (.inr (mant_zero.mp q))
    have key := near_round hF.ok (n := mant F (mag F a) * mant F (mag F b)) (Nat.pos_of_ne_zero (Nat.mul_ne_zero m1 m2)) (expo F (mag F a) + expo F (mag F b))
    have g1 := expo_ge F (mag F a)
    have g2 := expo_ge F (mag F b)
    have g3 := least_neg hF
    have ev : val F (mag F a) * val F (mag F b) = mant F (mag F a) * mant F (mag F b) * 2 ^ (expo F (mag F a) + expo F (mag F b) - 2 * F.least).toNat := by
      unfold val
      have : (expo F (mag F a) + expo F (mag F b) - 2 * F.least).toNat = (expo F (mag F a) - F.least).toNat + (expo F (mag F b) - F.least).toNat := by omega
      rw [this, Nat.pow_add]
      generalize 2 ^ (expo F (mag F a) - F.least).toNat = x
      generalize 2 ^ (expo F (mag F b) - F.least).toNat = y
      generalize mant F (mag F a) = m
      generalize mant F (mag F b) = n
      rw [Nat.mul_assoc, Nat.mul_assoc, ← Nat.mul_assoc x n y, Nat.mul_comm x n, Nat.mul_assoc]
    rw [ev]
    rcases Int.le_total F.least (expo F (mag F a) + expo F (mag F b)) with h | h
    · have a2 : (F.least - (expo F (mag F a) + expo F (mag F b))).toNat = 0 := by omega
      rw [a2, near_scale (LL F), Nat.mul_assoc, ← Nat.pow_add, Nat.zero_add] at key
      have : (expo F (mag F a) + expo F (mag F b) - F.least).toNat + LL F = (expo F (mag F a) + expo F (mag F b) - 2 * F.least).toNat := by unfold LL; omega
      rw [this] at key
      exact key
    · have a1 : (expo F (mag F a) + expo F (mag F b) - F.least).toNat = 0 := by omega
      rw [a1, Nat.pow_zero, Nat.mul_one, near_scale (expo F (mag F a) + expo F (mag F b) - 2 * F.least).toNat] at key
      have : (F.least - (expo F (mag F a) + expo F (mag F b))).toNat + (expo F (mag F a) + expo F (mag F b) - 2 * F.least).toNat = LL F := by unfold LL; omega
      rw [this] at key
      exact key
theorem total_VV (a b : Nat) : total F a b * (2 ^ (lower (expo F (mag F a)) (expo F (mag F b)) - F.least).toNat : Nat) = VV F a + VV F b := by
  obtain ⟨l1, l2, _⟩ := lower_le (expo F (mag F a)) (expo F (mag F b))
  have l3 := lower_ge (F := F) (mag F a) (mag F b)
  unfold total VV
  rw [Int.add_mul, scaled_val l3 l1, scaled_val l3 l2]
theorem add_near (hF : Std F) (h1 : mag F a < top F) (h2 : mag F b < top F) : (VV F a + VV F b = 0 ∧ add F a b = signBit F (sgn F a && sgn F b)) ∨
    (VV F a + VV F b ≠ 0 ∧ ∃ S, add F a b = signBit F (decide (VV F a + VV F b < 0)) + min S (top F) ∧ near F S (VV F a + VV F b).natAbs 0) := by
  have t := total_VV (F := F) a b
  have l3 := lower_ge (F := F) (mag F a) (mag F b)
  rw [add_fin h1 h2]
  have hp : (0 : Int) < ((2 ^ (lower (expo F (mag F a)) (expo F (mag F b)) - F.least).toNat : Nat) : Int) := by
    have := Nat.two_pow_pos (lower (expo F (mag F a)) (expo F (mag F b)) - F.least).toNat
    omega
  by_cases z : total F a b = 0
  · left
    rw [if_pos z]
    rw [z, Int.zero_mul] at t
    exact ⟨t.symm, rfl⟩
  · right
    rw [if_neg z, round_sz]
    have hne : VV F a + VV F b ≠ 0 := by
      rw [← t]
      exact Int.mul_ne_zero z (by omega)
    have hs : decide (total F a b < 0) = decide (VV F a + VV F b < 0) := by
      rw [decide_eq_decide, ← t]
      constructor
      · intro h
        exact Int.mul_neg_of_neg_of_pos h hp
      · intro h
        rcases Int.lt_or_le (total F a b) 0 with c | c
        · exact c
        · have := Int.mul_nonneg c (Int.le_of_lt hp)
          omega
    rw [hs]
    refine ⟨hne, _, rfl, ?_⟩
    have key := near_round hF.ok (n := (total F a b).natAbs) (by omega) (lower (expo F (mag F a)) (expo F (mag F b)))
    have a2 : (F.least - lower (expo F (mag F a)) (expo F (mag F b))).toNat = 0 := by omega
    have e2 : (VV F a + VV F b).natAbs = (total F a b).natAbs * 2 ^ (lower (expo F (mag F a)) (expo F (mag F b)) - F.least).toNat := by
      rw [← t, Int.natAbs_mul, Int.natAbs_natCast]
    rw [a2, ← e2] at key
    exact key
theorem mul_le (hF : Std F) (h1 : mag F a < top F) (h2 : mag F b < top F) (hc : c < top F) (h : val F (mag F a) * val F (mag F b) ≤ val F c * 2 ^ LL F) : mag F (mul F a b) ≤ c ∧ sgn F (mul F a b) = (sgn F a != sgn F b) := by
  obtain ⟨S, e, n⟩ := mul_near hF h1 h2
  have hS := near_le n h
  have ht := top_lt hF.ok
  rw [e, mag_of (min_lt2 hF.ok S), sgn_of (min_lt2 hF.ok S)]
  exact ⟨by omega, rfl⟩
theorem mul_ge (hF : Std F) (h1 : mag F a < top F) (h2 : mag F b < top F) (hc : c ≤ top F) (h : val F c * 2 ^ LL F ≤ val F (mag F a) * val F (mag F b)) : c ≤ mag F (mul F a b) := by
  obtain ⟨S, e, n⟩ := mul_near hF h1 h2
  have hS := near_ge n h
  rw [e, mag_of (min_lt2 hF.ok S)]
  omega
theorem mul_exact (hF : Std F) (h1 : mag F a < top F) (h2 : mag F b < top F) (hc : c ≤ top F) (h : val F (mag F a) * val F (mag F b) = val F c * 2 ^ LL F) : mag F (mul F a b) = c := by
  obtain ⟨S, e, n⟩ := mul_near hF h1 h2
  rw [h] at n
  have hS := near_uniq n (near_self c _)
  rw [e, mag_of (min_lt2 hF.ok S), hS]
  omega
theorem VV_abs (a : Nat) : (VV F a).natAbs = val F (mag F a) := by
  unfold VV signed
  split
  · rw [Int.natAbs_neg, Int.natAbs_natCast]
  · exact Int.natAbs_natCast _
theorem add_le (hF : Std F) (h1 : mag F a < top F) (h2 : mag F b < top F) (hc : c < top F) (h : (VV F a + VV F b).natAbs ≤ val F c) : mag F (add F a b) ≤ c := by
  have ht := top_lt hF.ok
  rcases add_near hF h1 h2 with ⟨_, e⟩ | ⟨_, S, e, n⟩
  · rw [e, ← Nat.add_zero (signBit F _), mag_of (hb_pos F)]
    omega
  · have hS := near_le n (by rw [Nat.pow_zero, Nat.mul_one]; exact h)
    rw [e, mag_of (min_lt2 hF.ok S)]
    omega
theorem add_le2 (hF : Std F) (h1 : mag F a < top F) (h2 : mag F b < top F) (hc : c < top F) (h : val F (mag F a) + val F (mag F b) ≤ val F c) : mag F (add F a b) ≤ c := by
  refine add_le hF h1 h2 hc ?_
  have := VV_abs (F := F) a
  have := VV_abs (F := F) b
  omega
theorem add_ge (hF : Std F) (h1 : mag F a < top F) (h2 : mag F b < top F) (hc : c ≤ top F) (h : (val F c : Int) ≤ VV F a + VV F b) (h0 : 0 < VV F a + VV F b) : c ≤ mag F (add F a b) ∧ sgn F (add F a b) = false := by
  have ht := top_lt hF.ok
  rcases add_near hF h1 h2 with ⟨z, e⟩ | ⟨_, S, e, n⟩
  · omega
  · have hS := near_ge n (c := c) (by rw [Nat.pow_zero, Nat.mul_one]; omega)
    rw [e, mag_of (min_lt2 hF.ok S), sgn_of (min_lt2 hF.ok S)]
    exact ⟨by omega, decide_eq_false (by omega)⟩
theorem add_pos (hF : Std F) (h1 : mag F a < top F) (h2 : mag F b < top F) (hs : sgn F a = false ∨ sgn F b = false) (h : 0 ≤ VV F a + VV F b) : sgn F (add F a b) = false := by
  rcases add_near hF h1 h2 with ⟨z, e⟩ | ⟨_, S, e, n⟩
  · rw [e, ← Nat.add_zero (signBit F _), sgn_of (hb_pos F)]
    rcases hs with s | s <;> rw [s]
    · rfl
    · exact Bool.and_false _
  · rw [e, sgn_of (min_lt2 hF.ok S)]
    exact decide_eq_false (by omega)
theorem sub_VV (hF : Std F) (hb : b < 2 * HB F) : ∃ b', sub F a b = add F a b' ∧ b' < 2 * HB F ∧ mag F b' = mag F b ∧ sgn F b' = (!sgn F b) ∧ VV F b' = - VV F b := by
  refine ⟨signBit F (!sgn F b) + mag F b, sub_eq hF.ok hb, sign_or_lt _ (mag_lt F b), mag_of (mag_lt F b), sgn_of (mag_lt F b), ?_⟩
  unfold VV signed
  rw [mag_of (mag_lt F b), sgn_of (mag_lt F b)]
  cases sgn F b <;> simp
theorem VV_pos (h : sgn F a = false) : VV F a = val F (mag F a) := by unfold VV signed; rw [h]; rfl
/-- a whole number below 2 ^ p, exactly -/
theorem ofInt_val (hF : Std F) {r : Nat} (h0 : 0 < r) (h : Nat.log2 r < F.p) : ofInt F (r : Int) < HB F ∧ val F (ofInt F (r : Int)) = r * 2 ^ LL F ∧ ofInt F (r : Int) < top F := by
  have hp := hF.ok.hp
  have hL : F.p - 1 ≤ LL F := by rcases hF with rfl | rfl <;> decide
  have ht := top_lt hF.ok
  unfold ofInt
  rw [if_neg (by omega), round_sz]
  have key := near_round hF.ok h0 0
  have a1 : ((0 : Int) - F.least).toNat = LL F := by unfold LL; omega
  have a2 : (F.least - (0 : Int)).toNat = 0 := by have := least_neg hF; omega
  have e0 : ((r : Nat) : Int).natAbs = r := Int.natAbs_natCast r
  rw [e0]
  rw [a1, a2] at key
  have m2 : r * 2 ^ (F.p - 1 - Nat.log2 r) ≤ 2 * PW F := by
    rw [← two_p hF.ok]
    refine Nat.le_of_lt (Nat.lt_of_lt_of_le (Nat.mul_lt_mul_of_pos_right Nat.lt_log2_self (Nat.two_pow_pos _)) ?_)
    rw [← Nat.pow_add]
    exact Nat.pow_le_pow_right (by decide) (by omega)
  have mU : PW F ≤ r * 2 ^ (F.p - 1 - Nat.log2 r) := by
    refine Nat.le_trans ?_ (Nat.mul_le_mul_right _ (Nat.log2_self_le (by omega)))
    unfold PW
    rw [← Nat.pow_add]
    exact Nat.pow_le_pow_right (by decide) (by omega)
  have v := val_pack (F := F) (U := LL F + Nat.log2 r - (F.p - 1)) m2 (.inr mU)
  have e2 : r * 2 ^ LL F = val F ((LL F + Nat.log2 r - (F.p - 1)) * PW F + r * 2 ^ (F.p - 1 - Nat.log2 r)) * 2 ^ 0 := by
    rw [v, Nat.pow_zero, Nat.mul_one, Nat.mul_assoc, ← Nat.pow_add]
    congr 2
    omega
  rw [e2] at key
  have eS := near_uniq key (near_self _ 0)
  have hlt : (LL F + Nat.log2 r - (F.p - 1)) * PW F + r * 2 ^ (F.p - 1 - Nat.log2 r) < top F := by
    have h1 : (LL F + Nat.log2 r - (F.p - 1)) * PW F ≤ LL F * PW F := Nat.mul_le_mul_right _ (by omega)
    have h2 : (LL F + 3) * PW F ≤ top F := by rcases hF with rfl | rfl <;> decide +kernel
    have h3 : (LL F + 3) * PW F = LL F * PW F + 3 * PW F := Nat.add_mul _ _ _
    have := pw_pos F
    omega
  have hs : decide (((r : Nat) : Int) < 0) = false := decide_eq_false (by omega)
  rw [eS, hs, signBit_f, Nat.zero_add, Nat.min_eq_left (by omega)]
  refine ⟨by omega, ?_, hlt⟩
  rw [e2, Nat.pow_zero, Nat.mul_one]
end Sig

set_option linter.all false
namespace Sig
open Sp18
variable {F : Format} {a b c : Nat}
/-- a quotient between powers of two -/
theorem div_near (hF : Std F) (h1 : mag F a < top F) (h2 : mag F b < top F) (ha : mag F a ≠ 0) (hb : mag F b ≠ 0) {j c : Nat} (hj : j ≤ 20) (hc : c < top F) (hv : val F c * 2 ^ j = 2 ^ LL F) :
    (2 ^ j * val F (mag F a) ≤ val F (mag F b) → mag F (div F a b) ≤ c) ∧ (val F (mag F a) ≤ val F (mag F b) → val F (mag F b) ≤ 2 ^ j * val F (mag F a) → c ≤ mag F (div F a b)) ∧ sgn F (div F a b) = (sgn F a != sgn F b) := by
  have hp := p_bd hF
  rw [div_fin hF.ok h1 h2 ha hb, round_sz]
  have ht := top_lt hF.ok
  rw [mag_of (min_lt2 hF.ok _), sgn_of (min_lt2 hF.ok _)]
  have mr0 : 0 < mant F (mag F a) := Nat.pos_of_ne_zero fun q => ha (mant_zero.mp q)
  have mn0 : 0 < mant F (mag F b) := Nat.pos_of_ne_zero fun q => hb (mant_zero.mp q)
  have mr1 := mant_bd hF (mag F a)
  have mn1 := mant_bd hF (mag F b)
  have mn2 := mant_lt F (mag F b)
  have pw2 : 2 * PW F ≤ 2 ^ F.p := by rw [two_p hF.ok]; exact Nat.le_refl _
  have er := expo_ge F (mag F a)
  have en := expo_ge F (mag F b)
  have er2 := expo_bd hF (mag_lt F a)
  have en2 := expo_bd hF (mag_lt F b)
  have hL := least_bd hF
  unfold val at *
  obtain ⟨mr, hmr⟩ : ∃ x, x = mant F (mag F a) := ⟨_, rfl⟩
  obtain ⟨mn, hmn⟩ : ∃ x, x = mant F (mag F b) := ⟨_, rfl⟩
  obtain ⟨α, hα⟩ : ∃ x : Nat, x = (expo F (mag F a) - F.least).toNat := ⟨_, rfl⟩
  obtain ⟨β, hβ⟩ : ∃ x : Nat, x = (expo F (mag F b) - F.least).toNat := ⟨_, rfl⟩
  obtain ⟨G, hG⟩ : ∃ x : Nat, x = 2 * (F.p - 1) + 4 := ⟨_, rfl⟩
  rw [← hmr, ← hmn, ← hα, ← hβ, ← hG]
  rw [← hmr] at mr0 mr1
  rw [← hmn] at mn0 mn1 mn2
  obtain ⟨x, hx⟩ : ∃ x, x = 2 * (mr * 2 ^ G / mn) + (if 0 < mr * 2 ^ G % mn then 1 else 0) := ⟨_, rfl⟩
  rw [← hx]
  obtain ⟨e', he'⟩ : ∃ e' : Int, e' = expo F (mag F a) - expo F (mag F b) - (G : Int) - 1 := ⟨_, rfl⟩
  rw [← he']
  have hdm := Nat.div_add_mod (mr * 2 ^ G) mn
  have hmod := Nat.mod_lt (mr * 2 ^ G) mn0
  have hGG : mn < 2 ^ G := Nat.lt_of_lt_of_le mn2 (Nat.le_trans pw2 (Nat.pow_le_pow_right (by decide) (by omega)))
  have hgr : 2 ^ G ≤ mr * 2 ^ G := Nat.le_mul_of_pos_left _ mr0
  have x0 : 0 < x := by
    have : 0 < mr * 2 ^ G / mn := Nat.div_pos (by omega) mn0
    omega
  have key := near_round hF.ok x0 e'
  have hvc : mant F c * 2 ^ (expo F c - F.least).toNat * 2 ^ j = 2 ^ LL F := hv
  refine ⟨fun h => ?_, fun h0 h => ?_, rfl⟩
  · -- above
    have h' : mr * 2 ^ (G + 1) * 2 ^ (j + α) ≤ mn * 2 ^ (β + G + 1) := by
      have := Nat.mul_le_mul_right (2 ^ (G + 1)) h
      rw [Nat.pow_add 2 j α, show β + G + 1 = β + (G + 1) by omega, Nat.pow_add 2 β (G + 1)]
      calc mr * 2 ^ (G + 1) * (2 ^ j * 2 ^ α) = 2 ^ j * (mr * 2 ^ α) * 2 ^ (G + 1) := by
            generalize 2 ^ (G + 1) = u; generalize 2 ^ j = v; generalize 2 ^ α = w
            rw [Nat.mul_comm v (mr * w), Nat.mul_assoc mr u, Nat.mul_assoc mr w v, Nat.mul_assoc mr (w * v) u, Nat.mul_comm u, Nat.mul_comm v w]
        _ ≤ mn * 2 ^ β * 2 ^ (G + 1) := this
        _ = mn * (2 ^ β * 2 ^ (G + 1)) := Nat.mul_assoc _ _ _
    have hg : j + α ≤ β + G := by
      rcases Nat.lt_or_ge (β + G) (j + α) with z | z
      · exfalso
        have q1 : 2 ^ (β + G + 1) ≤ 2 ^ (j + α) := Nat.pow_le_pow_right (by decide) (by omega)
        have q2 : mr * 2 ^ (G + 1) * 2 ^ (j + α) ≤ mn * 2 ^ (j + α) := Nat.le_trans h' (Nat.mul_le_mul_left _ q1)
        have q3 := Nat.le_of_mul_le_mul_right q2 (Nat.two_pow_pos _)
        rw [Nat.pow_succ, ← Nat.mul_assoc] at q3
        omega
      · exact z
    obtain ⟨g, hg2⟩ : ∃ g, β + G = j + α + g := ⟨β + G - (j + α), by omega⟩
    have h2' : mr * 2 ^ G ≤ mn * 2 ^ g := by
      rw [hg2, show j + α + g + 1 = g + 1 + (j + α) by omega, Nat.pow_add 2 (g + 1), ← Nat.mul_assoc] at h'
      have := Nat.le_of_mul_le_mul_right h' (Nat.two_pow_pos _)
      rw [Nat.pow_succ, Nat.pow_succ, ← Nat.mul_assoc, ← Nat.mul_assoc] at this
      omega
    have hx2 : x ≤ 2 ^ (g + 1) := by
      rw [Nat.pow_succ]
      have q1 : mr * 2 ^ G / mn ≤ 2 ^ g := by
        exact Nat.le_of_mul_le_mul_left (show mn * (mr * 2 ^ G / mn) ≤ mn * 2 ^ g by omega) mn0
      rcases Nat.lt_or_ge (mr * 2 ^ G / mn) (2 ^ g) with z | z
      · rw [hx]; split <;> omega
      · have e : mr * 2 ^ G / mn = 2 ^ g := by omega
        rw [e] at hdm
        rw [hx, e, if_neg (by omega)]
        omega
    have : szOf F x e' ≤ c := near_le key (by
      refine Nat.le_of_mul_le_mul_right (c := 2 ^ j) ?_ (Nat.two_pow_pos _)
      have e3 : val F c * 2 ^ (F.least - e').toNat * 2 ^ j = 2 ^ LL F * 2 ^ (F.least - e').toNat := by
        rw [Nat.mul_assoc, Nat.mul_comm (2 ^ (F.least - e').toNat), ← Nat.mul_assoc]
        rw [show val F c * 2 ^ j = 2 ^ LL F from hvc]
      rw [e3, Nat.mul_assoc, ← Nat.pow_add, ← Nat.pow_add]
      refine Nat.le_trans (Nat.mul_le_mul_right _ hx2) ?_
      rw [← Nat.pow_add]
      refine Nat.pow_le_pow_right (by decide) ?_
      unfold LL
      omega)
    omega
  · -- below
    have hab : α ≤ β + 53 := by
      rcases Nat.lt_or_ge (β + 53) α with z | z
      · exfalso
        have q1 : 2 ^ (53 + β) ≤ 2 ^ α := Nat.pow_le_pow_right (by decide) (by omega)
        have q2 : 1 * 2 ^ (53 + β) ≤ mr * 2 ^ α := Nat.mul_le_mul mr0 q1
        have q3 : mn * 2 ^ β < 2 ^ 53 * 2 ^ β := Nat.mul_lt_mul_of_pos_right mn1 (Nat.two_pow_pos _)
        rw [← Nat.pow_add] at q3
        omega
      · exact z
    have hab2 : α ≤ β + F.p := by
      rcases Nat.lt_or_ge (β + F.p) α with z | z
      · exfalso
        have q1 : 2 ^ (F.p + β) ≤ 2 ^ α := Nat.pow_le_pow_right (by decide) (by omega)
        have q2 : 1 * 2 ^ (F.p + β) ≤ mr * 2 ^ α := Nat.mul_le_mul mr0 q1
        have q3 : mn * 2 ^ β < 2 ^ F.p * 2 ^ β := Nat.mul_lt_mul_of_pos_right (by omega) (Nat.two_pow_pos _)
        rw [← Nat.pow_add] at q3
        omega
      · exact z
    obtain ⟨g, hg2⟩ : ∃ g, β + G = j + α + g := ⟨β + G - (j + α), by omega⟩
    have h2' : mn * 2 ^ g ≤ mr * 2 ^ G := by
      have q := Nat.mul_le_mul_right (2 ^ G) h
      have q2 : mn * 2 ^ g * 2 ^ (j + α) ≤ mr * 2 ^ G * 2 ^ (j + α) := by
        rw [Nat.mul_assoc, ← Nat.pow_add, show g + (j + α) = β + G by omega, Nat.pow_add 2 β, ← Nat.mul_assoc, Nat.pow_add 2 j α]
        refine Nat.le_trans q (Nat.le_of_eq ?_)
        generalize 2 ^ G = u; generalize 2 ^ j = v; generalize 2 ^ α = w
        rw [Nat.mul_comm v (mr * w), Nat.mul_assoc mr u, Nat.mul_assoc mr w v, Nat.mul_assoc mr (w * v) u, Nat.mul_comm u, Nat.mul_comm v w]
      exact Nat.le_of_mul_le_mul_right q2 (Nat.two_pow_pos _)
    have hx2 : 2 ^ (g + 1) ≤ x := by
      have q1 : 2 ^ g ≤ mr * 2 ^ G / mn := by
        rw [Nat.le_div_iff_mul_le mn0, Nat.mul_comm]
        exact h2'
      rw [Nat.pow_succ, hx]
      omega
    have : c ≤ szOf F x e' := near_ge key (by
      refine Nat.le_of_mul_le_mul_right (c := 2 ^ j) ?_ (Nat.two_pow_pos _)
      have e3 : val F c * 2 ^ (F.least - e').toNat * 2 ^ j = 2 ^ LL F * 2 ^ (F.least - e').toNat := by
        rw [Nat.mul_assoc, Nat.mul_comm (2 ^ (F.least - e').toNat), ← Nat.mul_assoc]
        rw [show val F c * 2 ^ j = 2 ^ LL F from hvc]
      rw [e3, Nat.mul_assoc, ← Nat.pow_add, ← Nat.pow_add]
      refine Nat.le_trans ?_ (Nat.mul_le_mul_right _ hx2)
      rw [← Nat.pow_add]
      refine Nat.pow_le_pow_right (by decide) ?_
      unfold LL
      omega)
    omega
end Sig

set_option linter.all false
namespace Sig
open Sp18
abbrev DD : Format := double
theorem sD : Std DD := .inr rfl
/-- half of it -/
theorem val_half {F : Format} {T : Nat} (h : 2 * PW F ≤ T) : 2 * val F (T - PW F) = val F T := by
  have hp := pw_pos F
  obtain ⟨q, hq⟩ : ∃ q, q = T / PW F := ⟨_, rfl⟩
  have hdm := Nat.div_add_mod T (PW F)
  have hlt := Nat.mod_lt T hp
  rw [← hq] at hdm
  have hq2 : 2 ≤ q := by rw [hq, Nat.le_div_iff_mul_le hp]; exact h
  have e1 : PW F * q = PW F * (q - 2) + 2 * PW F := by
    obtain ⟨k, rfl⟩ : ∃ k, q = k + 2 := ⟨q - 2, by omega⟩
    rw [Nat.add_sub_cancel, Nat.mul_add]
    omega
  have e2 : T = (q - 1) * PW F + (PW F + T % PW F) := by
    obtain ⟨k, rfl⟩ : ∃ k, q = k + 2 := ⟨q - 2, by omega⟩
    rw [show k + 2 - 1 = k + 1 by omega, Nat.add_mul, Nat.mul_comm k]
    rw [Nat.add_sub_cancel] at e1
    omega
  have e3 : T - PW F = (q - 2) * PW F + (PW F + T % PW F) := by
    rw [Nat.mul_comm (q - 2)]
    omega
  have v1 := val_pack (F := F) (U := q - 1) (m := PW F + T % PW F) (by omega) (by omega)
  have v2 := val_pack (F := F) (U := q - 2) (m := PW F + T % PW F) (by omega) (by omega)
  rw [← e2] at v1
  rw [← e3] at v2
  rw [v1, v2, show q - 1 = (q - 2) + 1 by omega, Nat.pow_succ]
  generalize 2 ^ (q - 2) = y
  generalize PW F + T % PW F = x
  rw [Nat.mul_comm y 2, Nat.mul_left_comm]
theorem one_val : val DD ONE = 2 ^ LL DD := by decide +kernel
/-- z within 5/8, h within ch: k + z h -/
theorem horn_step {z h k ch cn : Nat} (hz : mag DD z ≤ 0x3FE4000000000000) (hh : mag DD h ≤ ch) (hch : ch < top DD) (hk : mag DD k < top DD) (hcn : cn < top DD) (hv : val DD (mag DD k) + val DD ch ≤ val DD cn) : mag DD (add DD k (mul DD z h)) ≤ cn := by
  have hzt : mag DD z < top DD := Nat.lt_of_le_of_lt hz (by decide)
  have h1 := (mul_le sD hzt (show mag DD h < top DD by omega) hch (by
    have a1 : val DD (mag DD z) ≤ 2 ^ LL DD := Nat.le_trans (val_le hz) (by decide +kernel)
    have a2 : val DD (mag DD h) ≤ val DD ch := val_le hh
    rw [Nat.mul_comm (val DD ch)]
    exact Nat.mul_le_mul a1 a2)).1
  refine add_le2 sD hk (by omega) hcn ?_
  have := val_le (F := DD) h1
  omega
theorem sine_sum {z : Nat} (hz : mag DD z ≤ 0x3FE4000000000000) : mag DD (horner z SINE) ≤ 0x3FC8000000000000 := by
  have h6 : mag DD 0x3DE5D93A5ACFD57C ≤ 0x3DE5D93A5ACFD57C := by decide
  have h5 := horn_step (k := 0xBE5AE5E68A2B9CEB) (cn := 0x3E60000000000000) hz h6 (by decide) (by decide) (by decide) (by decide +kernel)
  have h4 := horn_step (k := 0x3EC71DE357B1FE7D) (cn := 0x3ED0000000000000) hz h5 (by decide) (by decide) (by decide) (by decide +kernel)
  have h3 := horn_step (k := 0xBF2A01A019C161D5) (cn := 0x3F30000000000000) hz h4 (by decide) (by decide) (by decide) (by decide +kernel)
  have h2 := horn_step (k := 0x3F8111111110F8A6) (cn := 0x3F90000000000000) hz h3 (by decide) (by decide) (by decide) (by decide +kernel)
  exact horn_step (k := 0xBFC5555555555549) (cn := 0x3FC8000000000000) hz h2 (by decide) (by decide) (by decide) (by decide +kernel)
theorem cosine_sum {z : Nat} (hz : mag DD z ≤ 0x3FE4000000000000) : mag DD (horner z COSINE) ≤ 0x3FB0000000000000 := by
  have h6 : mag DD 0xBDA8FAE9BE8838D4 ≤ 0x3DA8FAE9BE8838D4 := by decide
  have h5 := horn_step (k := 0x3E21EE9EBDB4B1C4) (cn := 0x3E30000000000000) hz h6 (by decide) (by decide) (by decide) (by decide +kernel)
  have h4 := horn_step (k := 0xBE927E4F809C52AD) (cn := 0x3EA0000000000000) hz h5 (by decide) (by decide) (by decide) (by decide +kernel)
  have h3 := horn_step (k := 0x3EFA01A019CB1590) (cn := 0x3F00000000000000) hz h4 (by decide) (by decide) (by decide) (by decide +kernel)
  have h2 := horn_step (k := 0xBF56C16C16C15177) (cn := 0x3F60000000000000) hz h3 (by decide) (by decide) (by decide) (by decide +kernel)
  exact horn_step (k := 0x3FA555555555554C) (cn := 0x3FB0000000000000) hz h2 (by decide) (by decide) (by decide) (by decide +kernel)
/-- r n-ths of a quarter: between 2^-13 and a quarter of pi -/
theorem share_bd {r n : Nat} (h0 : 0 < r) (h1 : 2 * r ≤ n) (h2 : n ≤ 8192) : 0x3F20000000000000 ≤ mag DD (share r n) ∧ mag DD (share r n) ≤ 0x3FE921FB54442D18 ∧ sgn DD (share r n) = false ∧ share r n < 2 * HB DD := by
  have lr : Nat.log2 r < DD.p := by
    have := log2_bd (k := 14) (show r < 2 ^ 14 by omega)
    exact Nat.lt_of_le_of_lt this (by decide)
  have ln : Nat.log2 n < DD.p := by
    have := log2_bd (k := 14) (show n < 2 ^ 14 by omega)
    exact Nat.lt_of_le_of_lt this (by decide)
  obtain ⟨a1, a2, a3⟩ := ofInt_val sD h0 lr
  obtain ⟨b1, b2, b3⟩ := ofInt_val sD (show 0 < n by omega) ln
  have ma := mag_small a1
  have mb := mag_small b1
  have sa : sgn DD (ofInt DD (r : Int)) = false := by have := sgn_mag DD (ofInt DD (r : Int)); rwa [ma] at this
  have sb : sgn DD (ofInt DD (n : Int)) = false := by have := sgn_mag DD (ofInt DD (n : Int)); rwa [mb] at this
  have hL : 0 < 2 ^ LL DD := Nat.two_pow_pos _
  have za : mag DD (ofInt DD (r : Int)) ≠ 0 := fun z => by
    rw [ma] at z
    rw [z, val_zero] at a2
    have : 0 < r * 2 ^ LL DD := Nat.mul_pos h0 hL
    omega
  have zb : mag DD (ofInt DD (n : Int)) ≠ 0 := fun z => by
    rw [mb] at z
    rw [z, val_zero] at b2
    have : 0 < n * 2 ^ LL DD := Nat.mul_pos (show 0 < n by omega) hL
    omega
  have d1 := div_near sD (by rw [ma]; exact a3) (by rw [mb]; exact b3) za zb (j := 1) (c := 0x3FE0000000000000) (by decide) (by decide) (by decide +kernel)
  have d13 := div_near sD (by rw [ma]; exact a3) (by rw [mb]; exact b3) za zb (j := 13) (c := 0x3F20000000000000) (by decide) (by decide) (by decide +kernel)
  rw [ma, mb, a2, b2] at d1 d13
  have up := d1.1 (by rw [← Nat.mul_assoc]; exact Nat.mul_le_mul_right _ (by omega))
  have lo := d13.2.1 (Nat.mul_le_mul_right _ (by omega)) (by rw [← Nat.mul_assoc]; exact Nat.mul_le_mul_right _ (by omega))
  have sg : sgn DD (div DD (ofInt DD (r : Int)) (ofInt DD (n : Int))) = false := by rw [d1.2.2, sa, sb]; rfl
  unfold share
  show _ ∧ _ ∧ _ ∧ mul DD _ _ < _
  obtain ⟨q, hq⟩ : ∃ q, q = div DD (ofInt DD (r : Int)) (ofInt DD (n : Int)) := ⟨_, rfl⟩
  rw [← hq] at up lo sg
  have ht : mag DD q < top DD := Nat.lt_of_le_of_lt up (by decide)
  have m := mul_le sD ht (b := QUARTER) (by decide) (c := 0x3FE921FB54442D18) (by decide) (by
    have := val_le (F := DD) up
    have e : val DD 0x3FE0000000000000 * val DD (mag DD QUARTER) ≤ val DD 0x3FE921FB54442D18 * 2 ^ LL DD := by decide +kernel
    exact Nat.le_trans (Nat.mul_le_mul_right _ this) e)
  have g := mul_ge sD ht (b := QUARTER) (by decide) (c := 0x3F20000000000000) (by decide) (by
    have := val_le (F := DD) lo
    have e : val DD 0x3F20000000000000 * 2 ^ LL DD ≤ val DD 0x3F20000000000000 * val DD (mag DD QUARTER) := by decide +kernel
    exact Nat.le_trans e (Nat.mul_le_mul_right _ this))
  have hs := m.2
  rw [sg] at hs
  show _ ≤ mag DD (mul DD (div DD (ofInt DD (r : Int)) (ofInt DD (n : Int))) QUARTER) ∧ mag DD (mul DD (div DD (ofInt DD (r : Int)) (ofInt DD (n : Int))) QUARTER) ≤ _ ∧ sgn DD (mul DD (div DD (ofInt DD (r : Int)) (ofInt DD (n : Int))) QUARTER) = false ∧ mul DD (div DD (ofInt DD (r : Int)) (ofInt DD (n : Int))) QUARTER < _
  rw [← hq]
  exact ⟨g, m.1, hs, mul_lt sD.ok _ _⟩
/-- what a small angle's sine and cosine are within -/
theorem sine_bd {t : Nat} (h1 : 0x3F20000000000000 ≤ mag DD t) (h2 : mag DD t ≤ 0x3FE921FB54442D18) (hs : sgn DD t = false) :
    0x3F10000000000000 ≤ mag DD (sine t) ∧ mag DD (sine t) ≤ ONE ∧ sgn DD (sine t) = false := by
  have ht : mag DD t < top DD := Nat.lt_of_le_of_lt h2 (by decide)
  obtain ⟨z, hz⟩ : ∃ z, z = mul DD t t := ⟨_, rfl⟩
  have z1 := mul_le sD ht ht (c := 0x3FE4000000000000) (by decide) (by
    have := val_le (F := DD) h2
    have e : val DD 0x3FE921FB54442D18 * val DD 0x3FE921FB54442D18 ≤ val DD 0x3FE4000000000000 * 2 ^ LL DD := by decide +kernel
    exact Nat.le_trans (Nat.mul_le_mul this this) e)
  rw [← hz] at z1
  have zt : mag DD z < top DD := Nat.lt_of_le_of_lt z1.1 (by decide)
  have hS := sine_sum z1.1
  obtain ⟨S, eS⟩ : ∃ S, S = horner z SINE := ⟨_, rfl⟩
  rw [← eS] at hS
  have St : mag DD S < top DD := Nat.lt_of_le_of_lt hS (by decide)
  have vz : val DD (mag DD z) ≤ 2 ^ LL DD := Nat.le_trans (val_le z1.1) (by decide +kernel)
  have u1 := (mul_le sD ht zt ht (Nat.mul_le_mul_left _ vz)).1
  have ut : mag DD (mul DD t z) < top DD := by omega
  have vS := val_le (F := DD) hS
  have vu := val_le (F := DD) u1
  have vt := val_le (F := DD) h2
  have hPW : 2 * PW DD ≤ mag DD t := Nat.le_trans (by decide) h1
  have half := val_half hPW
  have w1 := (mul_le sD ut St (c := mag DD t - PW DD) (by omega) (by
    have e : 2 * val DD 0x3FC8000000000000 ≤ 2 ^ LL DD := by decide +kernel
    have q1 : val DD (mag DD (mul DD t z)) * val DD (mag DD S) ≤ val DD (mag DD t) * val DD 0x3FC8000000000000 := Nat.mul_le_mul vu vS
    refine Nat.le_trans q1 ?_
    rw [← half, Nat.mul_comm 2, Nat.mul_assoc]
    exact Nat.mul_le_mul_left _ e)).1
  have w2 := (mul_le sD ut St (c := 0x3FC3000000000000) (by decide) (by
    have q1 : val DD (mag DD (mul DD t z)) * val DD (mag DD S) ≤ val DD 0x3FE921FB54442D18 * val DD 0x3FC8000000000000 := Nat.mul_le_mul (Nat.le_trans vu vt) vS
    exact Nat.le_trans q1 (by decide +kernel))).1
  obtain ⟨w, hw⟩ : ∃ w, w = mul DD (mul DD t z) S := ⟨_, rfl⟩
  rw [← hw] at w1 w2
  have wt : mag DD w < top DD := by omega
  have e : sine t = add DD t w := by rw [hw, eS, hz]; rfl
  have v1 := VV_pos hs
  have v2 := VV_abs (F := DD) w
  have x1 := val_le (F := DD) w1
  have x2 := val_le (F := DD) w2
  have lowT := val_le (F := DD) h1
  have c1 : val DD 0x3F10000000000000 * 2 = val DD 0x3F20000000000000 := by decide +kernel
  have c2 : 0 < val DD 0x3F10000000000000 := by decide +kernel
  have c3 : val DD 0x3FE921FB54442D18 + val DD 0x3FC3000000000000 ≤ val DD ONE := by decide +kernel
  rw [e]
  have g := add_ge sD ht wt (c := 0x3F10000000000000) (by decide) (by omega) (by omega)
  exact ⟨g.1, add_le2 sD ht wt (by decide) (by omega), g.2⟩
theorem cosine_bd {t : Nat} (h1 : 0x3F20000000000000 ≤ mag DD t) (h2 : mag DD t ≤ 0x3FE921FB54442D18) (hs : sgn DD t = false) :
    0x3F10000000000000 ≤ mag DD (cosine t) ∧ mag DD (cosine t) ≤ ONE ∧ sgn DD (cosine t) = false := by
  have ht : mag DD t < top DD := Nat.lt_of_le_of_lt h2 (by decide)
  obtain ⟨z, hz⟩ : ∃ z, z = mul DD t t := ⟨_, rfl⟩
  have z1 := mul_le sD ht ht (c := 0x3FE4000000000000) (by decide) (by
    have := val_le (F := DD) h2
    have e : val DD 0x3FE921FB54442D18 * val DD 0x3FE921FB54442D18 ≤ val DD 0x3FE4000000000000 * 2 ^ LL DD := by decide +kernel
    exact Nat.le_trans (Nat.mul_le_mul this this) e)
  have z2 := mul_ge sD ht ht (c := 0x3E50000000000000) (by decide) (by
    have := val_le (F := DD) h1
    have e : val DD 0x3E50000000000000 * 2 ^ LL DD ≤ val DD 0x3F20000000000000 * val DD 0x3F20000000000000 := by decide +kernel
    exact Nat.le_trans e (Nat.mul_le_mul this this))
  rw [← hz] at z1 z2
  have sz : sgn DD z = false := by rw [z1.2, hs]; rfl
  have zt : mag DD z < top DD := Nat.lt_of_le_of_lt z1.1 (by decide)
  have hC := cosine_sum z1.1
  obtain ⟨C, eC⟩ : ∃ C, C = horner z COSINE := ⟨_, rfl⟩
  rw [← eC] at hC
  have Ct : mag DD C < top DD := Nat.lt_of_le_of_lt hC (by decide)
  have vz : val DD (mag DD z) ≤ 2 ^ LL DD := Nat.le_trans (val_le z1.1) (by decide +kernel)
  have u1 := (mul_le sD zt zt zt (Nat.mul_le_mul_left _ vz)).1
  have ut : mag DD (mul DD z z) < top DD := by omega
  have vC := val_le (F := DD) hC
  have vu := val_le (F := DD) u1
  have hPW : 2 * PW DD ≤ mag DD z := Nat.le_trans (by decide) z2
  have half := val_half hPW
  have w1 := (mul_le sD ut Ct (c := mag DD z - PW DD) (by omega) (by
    have e : 2 * val DD 0x3FB0000000000000 ≤ 2 ^ LL DD := by decide +kernel
    have q1 : val DD (mag DD (mul DD z z)) * val DD (mag DD C) ≤ val DD (mag DD z) * val DD 0x3FB0000000000000 := Nat.mul_le_mul vu vC
    refine Nat.le_trans q1 ?_
    rw [← half, Nat.mul_comm 2, Nat.mul_assoc]
    exact Nat.mul_le_mul_left _ e)).1
  obtain ⟨v, hv⟩ : ∃ v, v = mul DD (mul DD z z) C := ⟨_, rfl⟩
  rw [← hv] at w1
  have vt : mag DD v < top DD := by omega
  have vlt : v < 2 * HB DD := by rw [hv]; exact mul_lt sD.ok _ _
  -- z by a half
  have hh := mul_exact sD zt (b := HALF) (by decide) (c := mag DD z - PW DD) (by omega) (by
    have e : val DD (mag DD HALF) * 2 = 2 ^ LL DD := by decide +kernel
    rw [← half, ← e, Nat.mul_comm 2, Nat.mul_assoc, Nat.mul_comm 2])
  have hhs := (mul_le sD zt (b := HALF) (by decide) (c := mag DD z) zt (by
    have e : val DD (mag DD HALF) ≤ 2 ^ LL DD := by decide +kernel
    exact Nat.mul_le_mul_left _ e)).2
  obtain ⟨y, hy⟩ : ∃ y, y = mul DD z HALF := ⟨_, rfl⟩
  rw [← hy] at hh hhs
  have sy : sgn DD y = false := by rw [hhs, sz]; rfl
  have yt : mag DD y < top DD := by omega
  -- w = y - v
  obtain ⟨v', ev, v'lt, mv, sv, vv⟩ := sub_VV (a := y) sD vlt
  have Vy := VV_pos sy
  have Vv := VV_abs (F := DD) v
  have x1 := val_le (F := DD) w1
  rw [hh] at Vy
  have v't : mag DD v' < top DD := by omega
  have wpos := add_pos sD yt v't (.inl sy) (by omega)
  have c1 : val DD 0x3FE4000000000000 ≤ val DD 0x3FE4000000000000 := Nat.le_refl _
  have vz2 := val_le (F := DD) z1.1
  have wle := add_le sD yt v't (c := 0x3FE4000000000000) (by decide) (by omega)
  obtain ⟨w, hw⟩ : ∃ w, w = sub DD y v := ⟨_, rfl⟩
  rw [← ev, ← hw] at wpos wle
  have wlt : w < 2 * HB DD := by rw [hw, ev]; exact add_lt sD.ok _ _
  have wt : mag DD w < top DD := Nat.lt_of_le_of_lt wle (by decide)
  obtain ⟨w', ew, w'lt, mw, sw, vw⟩ := sub_VV (a := ONE) sD wlt
  have Vw := VV_pos wpos
  have V1 : VV DD ONE = (val DD ONE : Nat) := by decide +kernel
  have w't : mag DD w' < top DD := by omega
  have wv := val_le (F := DD) wle
  have c2 : val DD 0x3F10000000000000 + val DD 0x3FE4000000000000 ≤ val DD ONE := by decide +kernel
  have c3 : 0 < val DD 0x3F10000000000000 := by decide +kernel
  have e : cosine t = add DD ONE w' := by rw [← ew, hw, hy, hv, eC, hz]; rfl
  rw [e]
  have g := add_ge sD (a := ONE) (by decide) w't (c := 0x3F10000000000000) (by decide) (by omega) (by omega)
  exact ⟨g.1, add_le sD (a := ONE) (by decide) w't (by decide) (by omega), g.2⟩
theorem ROOT_bd : 0x3F10000000000000 ≤ mag DD ROOT ∧ mag DD ROOT ≤ ONE ∧ sgn DD ROOT = false := by decide
theorem within_bd {n r : Nat} (h0 : 0 < r) (h1 : r < n) (h2 : n ≤ 8192) : (0x3F10000000000000 ≤ mag DD (within n r).1 ∧ mag DD (within n r).1 ≤ ONE ∧ sgn DD (within n r).1 = false) ∧ (0x3F10000000000000 ≤ mag DD (within n r).2 ∧ mag DD (within n r).2 ≤ ONE ∧ sgn DD (within n r).2 = false) := by
  unfold within
  by_cases c1 : 2 * r = n
  · rw [if_pos c1]; exact ⟨ROOT_bd, ROOT_bd⟩
  rw [if_neg c1]
  by_cases c2 : 2 * r < n
  · rw [if_pos c2]
    obtain ⟨s1, s2, s3, _⟩ := share_bd h0 (show 2 * r ≤ n by omega) h2
    exact ⟨cosine_bd s1 s2 s3, sine_bd s1 s2 s3⟩
  · rw [if_neg c2]
    obtain ⟨s1, s2, s3, _⟩ := share_bd (r := n - r) (by omega) (show 2 * (n - r) ≤ n by omega) h2
    exact ⟨sine_bd s1 s2 s3, cosine_bd s1 s2 s3⟩
end Sig

set_option linter.all false
namespace Sig
open Sp18
open Sp18Neutral (fmt nats)
variable {F : Format} {a b c : Nat}
theorem convert_self (hF : Std F) (ha : a < 2 * HB F) (h : mag F a ≤ top F) : convert F F a = a := by
  rw [conv_eq F F a hF.ok, if_neg (by omega)]
  have s := bits_split ha
  by_cases c1 : mag F a = 0
  · rw [if_pos c1]; omega
  rw [if_neg c1]
  by_cases c2 : mag F a = top F
  · rw [if_pos c2]; omega
  rw [if_neg c2, round_sz]
  have hm : 0 < mant F (mag F a) := Nat.pos_of_ne_zero fun q => c1 (mant_zero.mp q)
  have key := near_round hF.ok hm (expo F (mag F a))
  have g := expo_ge F (mag F a)
  have a2 : (F.least - expo F (mag F a)).toNat = 0 := by omega
  have e : mant F (mag F a) * 2 ^ (expo F (mag F a) - F.least).toNat = val F (mag F a) * 2 ^ 0 := by rw [Nat.pow_zero, Nat.mul_one]; rfl
  rw [a2, e] at key
  rw [near_uniq key (near_self _ 0), Nat.min_eq_left h]
  omega
theorem conv_lt {f : Int} (hf : F01 f) (a : Nat) : convert double (fmt f) a < 2 * HB (fmt f) := convert_lt hf.ok a
/-- finite, a number -/
def Ok (a : Nat) : Prop := a < 2 * HB DD ∧ mag DD a ≤ top DD
theorem neg_ok (h : Ok a) : Ok (neg DD a) := by
  refine ⟨neg_lt sD.ok h.1, ?_⟩
  rw [(of_neg sD.ok h.1 (by have := h.2; omega)).2]
  exact h.2
theorem sine_lt (t : Nat) : sine t < 2 * HB DD := add_lt sD.ok _ _
theorem cosine_lt (t : Nat) : cosine t < 2 * HB DD := add_lt sD.ok _ _
theorem within_ok {n r : Nat} (h0 : 0 < r) (h1 : r < n) (h2 : n ≤ 8192) : Ok (within n r).1 ∧ Ok (within n r).2 := by
  obtain ⟨⟨_, a2, _⟩, ⟨_, b2, _⟩⟩ := within_bd h0 h1 h2
  have o : ONE ≤ top DD := by decide
  have e : (within n r).1 < 2 * HB DD ∧ (within n r).2 < 2 * HB DD := by
    unfold within
    split
    · decide
    · split
      · exact ⟨cosine_lt _, sine_lt _⟩
      · exact ⟨sine_lt _, cosine_lt _⟩
  exact ⟨⟨e.1, Nat.le_trans a2 o⟩, ⟨e.2, Nat.le_trans b2 o⟩⟩
/-- the quarters -/
def quarter (q : Nat) : C := [(ONE, 0), (0, ONE), (neg double ONE, 0), (0, neg double ONE)].getD q (ONE, 0)
theorem angle_eq (n j : Nat) : angle n j = if 4 * j % n = 0 then quarter (4 * j / n % 4) else
    if 4 * j / n % 4 = 0 then within n (4 * j % n) else if 4 * j / n % 4 = 1 then (neg double (within n (4 * j % n)).2, (within n (4 * j % n)).1) else if 4 * j / n % 4 = 2 then (neg double (within n (4 * j % n)).1, neg double (within n (4 * j % n)).2) else ((within n (4 * j % n)).2, neg double (within n (4 * j % n)).1) := rfl
theorem quarter_ok (q : Nat) : Ok (quarter q).1 ∧ Ok (quarter q).2 := by
  match q with
  | 0 => unfold Ok; decide
  | 1 => unfold Ok; decide
  | 2 => unfold Ok; decide
  | 3 => unfold Ok; decide
  | q + 4 => show Ok ONE ∧ Ok 0; unfold Ok; decide
theorem angle_ok {n j : Nat} (h0 : 0 < n) (h2 : n ≤ 8192) : Ok (angle n j).1 ∧ Ok (angle n j).2 := by
  rw [angle_eq]
  by_cases c : 4 * j % n = 0
  · rw [if_pos c]; exact quarter_ok _
  rw [if_neg c]
  obtain ⟨w1, w2⟩ := within_ok (n := n) (r := 4 * j % n) (by omega) (Nat.mod_lt _ h0) h2
  split
  · exact ⟨w1, w2⟩
  · split
    · exact ⟨neg_ok w2, w1⟩
    · split
      · exact ⟨neg_ok w1, neg_ok w2⟩
      · exact ⟨w2, neg_ok w1⟩
theorem ok_neg (h : Ok a) : signBit DD (!sgn DD a) + mag DD a = neg DD a := by
  rw [neg_eq sD.ok h.1, if_neg (by have := h.2; omega)]
def windowOf (F : Format) (kind : Nat) (a : List Int) : List Int := (List.range a.length).map fun i => ((mul F (a.getD i 0).toNat (convert double F (windowAt a.length kind i)) : Nat) : Int)
theorem window_spec {f kind : Int} {a : List Int} : PySp18.window f kind a = if (0 ≤ kind ∧ kind < 3) ∧ 1 ≤ a.length ∧ a.length ≤ 8192 then 0 :: windowOf (fmt f) kind.toNat a else [-2] := by
  have e : PySp18.window f kind a = Sp18Neutral.told (if among kind 3 = true ∧ 1 ≤ (nats a).length ∧ (nats a).length ≤ LONGEST then writes ((List.range (nats a).length).map fun (i : Nat) => mul (fmt f) ((nats a).getD i 0) (convert double (fmt f) (windowAt (nats a).length kind.toNat i))) else only (-2)) := rfl
  have hl : (nats a).length = a.length := by unfold nats; rw [List.length_map]
  rw [e, hl]
  by_cases c : (0 ≤ kind ∧ kind < 3) ∧ 1 ≤ a.length ∧ a.length ≤ 8192
  · rw [if_pos ⟨among_iff.mpr c.1, c.2⟩, if_pos c]
    show (0 : Int) :: (Sp18Neutral.ints (List.map _ _) ++ []) = _
    rw [List.append_nil]
    unfold Sp18Neutral.ints windowOf
    rw [List.map_map]
    congr 1
    refine List.map_congr_left fun i _ => ?_
    show ((mul (fmt f) ((nats a).getD i 0) _ : Nat) : Int) = _
    rw [nats_getD]
  · rw [if_neg (fun z => c ⟨among_iff.mp z.1, z.2⟩), if_neg c]
    rfl
theorem window_asked {f op : Int} {a : List Int} (h : PySp18.window_asked f op a = true) : F01 f ∧ 0 ≤ op ∧ (∀ z ∈ a, 0 ≤ z ∧ z < ((2 * HB (fmt f) : Nat) : Int)) := by
  have e : PySp18.window_asked f op a = (Sp18Neutral.isFmt f && (Sp18Neutral.small op && Sp18Neutral.row f a)) := rfl
  rw [e, Bool.and_eq_true, Bool.and_eq_true] at h
  obtain ⟨h1, h2, h3⟩ := h
  have hF := isFmt_iff h1
  exact ⟨hF, small_iff h2, row_iff hF h3⟩
theorem angle_le {n j : Nat} (h0 : 0 < n) (h2 : n ≤ 8192) : mag DD (angle n j).1 ≤ ONE ∧ mag DD (angle n j).2 ≤ ONE := by
  rw [angle_eq]
  by_cases c : 4 * j % n = 0
  · rw [if_pos c]
    have : 4 * j / n % 4 < 4 := Nat.mod_lt _ (by decide)
    generalize 4 * j / n % 4 = q at this
    match q, this with
    | 0, _ => decide
    | 1, _ => decide
    | 2, _ => decide
    | 3, _ => decide
  rw [if_neg c]
  have hr := Nat.mod_lt (4 * j) h0
  obtain ⟨⟨_, a2, _⟩, ⟨_, b2, _⟩⟩ := within_bd (n := n) (r := 4 * j % n) (by omega) hr h2
  obtain ⟨w1, w2⟩ := within_ok (n := n) (r := 4 * j % n) (by omega) hr h2
  have n1 := (of_neg sD.ok w1.1 (by have := w1.2; omega)).2
  have n2 := (of_neg sD.ok w2.1 (by have := w2.2; omega)).2
  split
  · exact ⟨a2, b2⟩
  · split
    · exact ⟨by rw [n2]; exact b2, a2⟩
    · split
      · exact ⟨by rw [n1]; exact a2, by rw [n2]; exact b2⟩
      · exact ⟨b2, by rw [n1]; exact a2⟩
theorem lin_bd {k1 k2 c : Nat} (h1 : mag DD k1 < top DD) (h2 : mag DD k2 < top DD) (hc : mag DD c ≤ ONE) (hv : val DD (mag DD k1) + val DD (mag DD k2) ≤ val DD 0x4000000000000000) : mag DD (mul DD k2 c) ≤ mag DD k2 ∧ mag DD (sub DD k1 (mul DD k2 c)) ≤ 0x4000000000000000 := by
  have hct : mag DD c < top DD := Nat.lt_of_le_of_lt hc (by decide)
  have m := (mul_le sD h2 hct h2 (by
    have := val_le (F := DD) hc
    rw [one_val] at this
    exact Nat.mul_le_mul_left _ this)).1
  refine ⟨m, ?_⟩
  obtain ⟨b', e, _, mb, _, _⟩ := sub_VV (a := k1) sD (b := mul DD k2 c) (mul_lt sD.ok _ _)
  have := val_le (F := DD) m
  rw [e]
  refine add_le2 sD h1 (by omega) (by decide) ?_
  rw [mb]
  omega
theorem windowAt_ok {n i : Nat} (kind : Nat) (h0 : 0 < n) (h2 : n ≤ 8192) : Ok (windowAt n kind i) := by
  have a1 := (angle_le (n := n) (j := i) h0 h2).1
  have a2 := (angle_le (n := n) (j := 2 * i) h0 h2).1
  have t : (0x4000000000000000 : Nat) ≤ top DD := by decide
  unfold windowAt
  dsimp only
  split
  · exact ⟨add_lt sD.ok _ _, Nat.le_trans (lin_bd (by decide) (by decide) a1 (by decide +kernel)).2 t⟩
  · split
    · exact ⟨add_lt sD.ok _ _, Nat.le_trans (lin_bd (by decide) (by decide) a1 (by decide +kernel)).2 t⟩
    · have b1 := (lin_bd (k1 := 0x3FDAE147AE147AE1) (k2 := HALF) (by decide) (by decide) a1 (by decide +kernel)).2
      have b2 := (lin_bd (k1 := 0x3FDAE147AE147AE1) (k2 := 0x3FB47AE147AE147B) (by decide) (by decide) a2 (by decide +kernel)).1
      refine ⟨add_lt sD.ok _ _, Nat.le_trans (add_le2 sD (c := 0x4010000000000000) (Nat.lt_of_le_of_lt b1 (by decide)) (Nat.lt_of_le_of_lt b2 (by decide)) (by decide) ?_) (by decide)⟩
      have v1 := val_le (F := DD) b1
      have v2 := val_le (F := DD) b2
      have e : val DD 0x4000000000000000 + val DD (mag DD 0x3FB47AE147AE147B) ≤ val DD 0x4010000000000000 := by decide +kernel
      exact Nat.le_trans (Nat.add_le_add v1 v2) e
end Sig

set_option linter.all false
namespace Sig
open Sp18
variable {F : Format} {a b c : Nat}
end Sig

set_option linter.all false
set_option maxRecDepth 100000
set_option Elab.async false
namespace L2
open PySem PySem.Spec PyProof.Rows
open Sig
open Sp18Neutral (fmt)
/-- a def of the text that may be called by its name -/
structure Def (P : Program) (w : World) (K : PySem.W.Frag) (mg : Str → Option Value) (base : Heap) (x : Str) (k : Nat) (ps : List Str) (sp : Sp) : Prop where
  ex : ∃ (f : Addr) (fd : FuncData), FnOk P w K mg base CX0 k f fd ps sp ∧ mg x = some (.ref f) ∧ PySem.W.keepIn K (.ref f) = true ∧ Binds K fd ps []
/-- a table of the top: a tuple of two numbers, by the format -/
structure Tab (K : PySem.W.Frag) (mg : Str → Option Value) (x : Str) (g : Sp18.Format → Int) : Prop where
  ex : ∃ p, mg x = some (.ref p) ∧ ∀ H, SqT K H p [.int (g Sp18.single), .int (g Sp18.double)]
def tTab (g : Sp18.Format → Int) (te : TE) : TE := fun σ H Q => te σ H fun y H1 => ∃ f : Int, y = .int f ∧ F01 f ∧ Q (.int (g (fmt f))) H1
section
variable {X : Cx} {x : Str} {p pos : Pos} {e : Expr} {es : List Expr} {te : TE} {t : TA} {k : Nat} {ps : List Str} {sp : Sp}
theorem pe_def (D : Def X.prog X.w X.K X.mg X.base x k ps sp) (hg : Gl X x) (hr : Room k X.A) (hx : Passes CX0 X E0) (ha : PA X (e :: es) t) (hdb : (x == ("__debug__" : Str)) = false := by decide)
    (he : starEach (e :: es) X.env = (false, eval e X.env) :: starEach es X.env := by rfl) (hpl : (backTo pos (starEach es X.env)).any (·.1) = false := by rfl) :
    PE X (.Call (.Name x p) (e :: es) [] pos) (tCall sp [] E0 t) := by
  obtain ⟨f, fd, F, hm, hk, hb⟩ := D.ex
  exact pe_call F hr hg hm hk hb .nil hx ha hdb he hpl
theorem pe_tab {g : Sp18.Format → Int} (D : Tab X.K X.mg x g) (hg : Gl X x) (hb : PE X e te) (hs : PlainIx e) (hdb : (x == ("__debug__" : Str)) = false := by decide) :
    PE X (.Subscript (.Name x p) e pos) (tTab g te) := by
  obtain ⟨q, hm, hS⟩ := D.ex
  intro pins s σ H Q I h
  refine Subscript_ (thn (pe_glob (v := .ref q) hg hm rfl hdb pins s σ H (fun x H1 => x = .ref q ∧ H1 = H) I ⟨rfl, rfl⟩) fun v s1 ⟨x1, H1, I1, r1, e1, e2⟩ => ?_)
  subst e1 e2
  refine thn (hb pins s1 σ H1 _ I1 h) fun u s2 ⟨y, H2, I2, r2, f, e3, hf, q2⟩ => ?_
  subst e3
  have ha : atI [V.int (g Sp18.single), V.int (g Sp18.double)] f = some (V.int (g (fmt f))) := by
    rcases hf with rfl | rfl <;> rfl
  exact ix_tup _ e pins s2 σ H2 (.ref q) (.int f) v u Q I2 r1 r2 ⟨q, _, f, _, rfl, rfl, hS H2, ha, q2⟩ (hs _ _)
/-- a function that stands in a local -/
def tCallV (X : Cx) (i : Nat) (t : TA) : TE := fun σ H Q => ∃ g, σ[i]? = some (some (V.ref g)) ∧ ∃ (k : Nat) (fd : FuncData) (ps : List Str) (sp : Sp), FnOk X.prog X.w X.K X.mg X.base CX0 k g fd ps sp ∧ Room k X.A ∧
  PySem.W.keepIn X.K (.ref g) = true ∧ Binds X.K fd ps [] ∧ t σ H fun vs H1 => sp vs H1 Q E0
theorem pe_callV (i : Nat) (hv : PE X (.Name x p) (tVar i)) (hx : Passes CX0 X E0) (ha : PA X (e :: es) t)
    (he : starEach (e :: es) X.env = (false, eval e X.env) :: starEach es X.env := by rfl) (hpl : (backTo pos (starEach es X.env)).any (·.1) = false := by rfl) :
    PE X (.Call (.Name x p) (e :: es) [] pos) (tCallV X i t) := by
  intro pins s σ H Q I h
  obtain ⟨g, hi, k, fd, ps, sp, F, hr, hk, hb, h⟩ := h
  refine wpAny_Call_Name_kw (thn (hv pins s σ H (fun x1 H1 => x1 = .ref g ∧ H1 = H) I ⟨.ref g, hi, rfl, rfl⟩) fun v s1 ⟨x1, H1, I1, r1, e1, e2⟩ => ?_)
  subst e1 e2
  cases r1
  refine PySem.W.callWith_K (h₀ := X.base) I1.ok.mod.kin hk (thn (ha pos pins s1 σ H1 _ I1 h) fun us s2 ⟨vs, H2, I2, r, q⟩ => ⟨I2.kIn, ?_⟩) he hpl
  exact run_fn (dvs := []) (ds := []) F hr hb .nil hx I2 r (by rw [List.append_nil]; exact q)
/-- // and divmod by greater divisors -/
def CDivB (i j : Int) : Prop := 0 < j ∧ j.natAbs.log2 < 9000
theorem call_divmodB : CallR X (.builtin "divmod") (fun xs H Q => ∃ i j, xs = [.int i, .int j] ∧ CDivB i j ∧ ∀ p, H p = none → Q (.ref p) (upd H p (.tup [.int (i / j), .int (i % j)]))) := by
  intro pins s σ H xs us Q I r h
  obtain ⟨i, j, rfl, ⟨h1, h2⟩, q⟩ := h
  obtain ⟨u, w', rfl, ⟨t, rfl⟩, ⟨t', rfl⟩⟩ := vals2 r
  refine divmod_int (by omega) ?_ (.inl (PyProof.noPylong_of_log2 h2))
  rw [Int.fdiv_eq_ediv_of_nonneg i (by omega), Int.fmod_eq_emod_of_nonneg i (by omega)]
  have hn : H s.heap.objs.size = none := I.hok.fresh (Nat.le_refl _)
  refine ⟨.ref s.heap.objs.size, _, ?_, rfl, q _ hn⟩
  refine I.laid (fun b o e => Heap.get?_push_of_some _ e) (Nat.le_refl _) ⟨by simp only [List.length_cons, List.length_nil]; rw [sizeLine_eq]; decide, [.int (i / j) s.toks, .int (i % j) (s.toks + 1)], .cons ⟨_, rfl⟩ (.cons ⟨_, rfl⟩ .nil), ?_⟩
  exact ⟨_, Heap.get?_push_size s.heap rfl, rfl, 0, rfl⟩
/-- << of a number of any size, its bits counted -/
theorem mt_bits : MtR X "int.bit_length" (fun x xs H Q => ∃ i, x = .int i ∧ xs = [] ∧ Q (.int ((Builtin.Int.intBits i : Nat) : Int)) H) := by
  intro pins s σ H x xs v us Q I rx rs h
  obtain ⟨i, rfl, rfl, q⟩ := h
  obtain ⟨t, rfl⟩ := rx
  have e := rs.zero
  subst e
  exact call_int_bit_length ⟨.int _, H, I.tok _, ⟨_, rfl⟩, q⟩
end
theorem Same.new {H : Hp} {p : Addr} {o : HO} (h : H p = none) : Same H (upd H p o) := fun b u e => by
  rw [upd_ne (ne_of_none e h)]
  exact e
end L2

set_option linter.all false
set_option maxRecDepth 100000
set_option Elab.async false
namespace L2
open PySem PySem.Spec PyProof.Rows
def PlO : HO → Prop
  | .lst _ => True
  | .tup _ => True
  | .frz _ u => match u with
    | .lst _ => True
    | .tup _ => True
    | _ => False
  | .ins _ _ _ => True
  | .own _ => True
  | _ => False
/-- and no instance -/
def PlN : HO → Prop
  | .lst _ => True
  | .tup _ => True
  | _ => False
def Pl (H : Hp) : Prop := ∀ b o, H b = some o → PlO o
theorem Pl.put {H : Hp} {p : Addr} {o : HO} (h : Pl H) (ho : PlO o) : Pl (upd H p o) := fun b u e => by
  by_cases c : b = p
  · subst c
    rw [upd_same] at e
    cases e
    exact ho
  · rw [upd_ne c] at e
    exact h b u e
theorem Pl.tup {H : Hp} {p : Addr} {xs : List V} (h : Pl H) : Pl (upd H p (.tup xs)) := h.put trivial
theorem Pl.lst {H : Hp} {p : Addr} {xs : List V} (h : Pl H) : Pl (upd H p (.lst xs)) := h.put trivial
theorem objOk_pl {P : Program} {w : World} {H H' : Hp} {h : Heap} {a : Addr} {o : HO} (p : PlO o) (x : ObjOk P w H' h a o) (hi : ∀ C dx fs, o = .ins C dx fs → H dx = some (.own a)) : ObjOk P w H h a o := by
  cases o with
  | lst xs => exact x
  | tup xs => exact x
  | ins C dx fs => exact ⟨hi C dx fs rfl, x.2⟩
  | own y => exact x
  | frz o u =>
    cases u with
    | lst xs => exact x
    | tup xs => exact x
    | _ => exact p.elim
  | _ => exact p.elim
/-- what H2 holds beyond H is no instance -/
structure PlF (H H2 : Hp) : Prop where
  pl : Pl H2
  new : ∀ b o, H b = none → H2 b = some o → PlN o
theorem Pl.self {H : Hp} (h : Pl H) : PlF H H := ⟨h, fun b o e q => by rw [e] at q; cases q⟩
theorem Pl.tupF {H : Hp} {p : Addr} {xs : List V} (h : Pl H) : PlF H (upd H p (.tup xs)) := ⟨h.tup, fun b o e q => by
  by_cases c : b = p
  · subst c; rw [upd_same] at q; cases q; trivial
  · rw [upd_ne c, e] at q; cases q⟩
section
variable {P : Program} {w : World} {K : PySem.W.Frag} {mg : Str → Option Value} {base : Heap} {k : Nat} {f : Addr} {fd : FuncData} {ps : List Str} {sp sp' : Sp}
theorem FnOk.forget (F : FnOk P w K mg base CX0 k f fd ps sp) (h : ∀ vs H Q E, sp' vs H Q E → ∃ Q0, sp vs H Q0 E ∧ ∀ v H', Q0 v H' → ∃ H2, Same H H2 ∧ Same H2 H' ∧ PlF H H2 ∧ Q v H2) : FnOk P w K mg base CX0 k f fd ps sp' := by
  refine ⟨fun vs H Q E q => ?_, fun A outer s H args us vs Q E hr he hb hv hs => ?_⟩
  · obtain ⟨Q0, q0, _⟩ := h vs H Q E q
    exact F.len _ _ _ _ q0
  obtain ⟨Q0, q0, hQ⟩ := h vs H Q E hs
  refine codeAny_mono (F.run A outer s H args us vs Q0 E hr he hb hv q0) fun r s' hq => ?_
  cases r with
  | error e => exact hq
  | ok x =>
    cases x with
    | ret u =>
      obtain ⟨v, H', h1, h2, un, hok, rv, q⟩ := hq
      obtain ⟨H2, s1, s2, pl, q2⟩ := hQ v H' q
      refine ⟨v, H2, h1, h2, ⟨un.keep, un.slot, fun b o e n hx => ?_, un.there, fun b xs e => s1 _ _ e, fun b o u e => s1 _ _ e, fun b ps e => ⟨#[], by rw [Array.append_empty]; exact s1 _ _ e⟩⟩, fun a o e => ?_, rv, q2⟩
      · have n' := un.free b o e n hx
        cases c : H2 b with
        | none => rfl
        | some z => rw [s2 _ _ c] at n'; cases n'
      · refine objOk_pl (pl.pl a o e) (hok a o (s2 a o e)) fun C dx fs eo => ?_
        subst eo
        cases c : H a with
        | none => exact (pl.new a _ c e).elim
        | some o' =>
          have e2 := s1 a o' c
          rw [e] at e2
          cases e2
          exact s1 _ _ (he.hok a _ c).1
    | _ => exact hq
end
def tOrP (t u : TT) : TT := fun σ H Q => ∃ b1 b2, (∀ R : Bool → Hp → Prop, R b1 H → t σ H R) ∧ (∀ R : Bool → Hp → Prop, R b2 H → u σ H R) ∧ Q (b1 || b2) H
def tAndP (t u : TT) : TT := fun σ H Q => ∃ b1 b2, (∀ R : Bool → Hp → Prop, R b1 H → t σ H R) ∧ (∀ R : Bool → Hp → Prop, R b2 H → u σ H R) ∧ Q (b1 && b2) H
def tIfP (t : TT) (ta tb : TE) : TE := fun σ H Q => ∃ (c : Bool) (v : V), (∀ R : Bool → Hp → Prop, R c H → t σ H R) ∧ (if c = true then (∀ R : VK, R v H → ta σ H R) else (∀ R : VK, R v H → tb σ H R)) ∧ Q v H
section
variable {X : Cx} {a b : Expr} {rest : List Expr} {pos : Pos} {tA tB : TT} {ta tb : TE}
theorem pw_orP (ha : PT X a tA) (hb : PW X (.BoolOp .Or (b :: rest) pos) tB) : PW X (.BoolOp .Or (a :: b :: rest) pos) (tOrP tA tB) := fun whole pins s σ H Q I h => by
  obtain ⟨b1, b2, h1, h2, q⟩ := h
  refine pw_or ha hb whole pins s σ H Q I (h1 _ ?_)
  cases b1 with
  | true => rw [if_pos rfl]; exact q
  | false => rw [if_neg (by decide)]; exact h2 _ q
theorem pw_andP (ha : PT X a tA) (hb : PW X (.BoolOp .And (b :: rest) pos) tB) : PW X (.BoolOp .And (a :: b :: rest) pos) (tAndP tA tB) := fun whole pins s σ H Q I h => by
  obtain ⟨b1, b2, h1, h2, q⟩ := h
  refine pw_and ha hb whole pins s σ H Q I (h1 _ ?_)
  cases b1 with
  | true => rw [if_pos rfl]; exact h2 _ q
  | false => rw [if_neg (by decide)]; exact q
theorem pe_ifP {c : Expr} (hc : PT X c tA) (ha : PE X a ta) (hb : PE X b tb) : PE X (.IfExp c a b pos) (tIfP tA ta tb) := fun pins s σ H Q I h => by
  obtain ⟨c, v, h1, h2, q⟩ := h
  refine pe_ifExp hc ha hb pins s σ H Q I (h1 _ ?_)
  cases c with
  | true => rw [if_pos rfl] at h2 ⊢; exact h2 _ q
  | false => rw [if_neg (by decide)] at h2 ⊢; exact h2 _ q
end
theorem leibB {b c : Bool} {H : Hp} : (∀ R : Bool → Hp → Prop, R b H → R c H) ↔ b = c := ⟨fun h => h (fun x _ => b = x) rfl, fun h R r => h ▸ r⟩
theorem leibV {b c : V} {H : Hp} : (∀ R : VK, R b H → R c H) ↔ b = c := ⟨fun h => h (fun x _ => b = x) rfl, fun h R r => h ▸ r⟩
theorem leibBC {b : Bool} {H : Hp} {C : Prop} {D : (Bool → Hp → Prop) → Prop} : (∀ R : Bool → Hp → Prop, R b H → C ∧ D R) ↔ C ∧ ∀ R : Bool → Hp → Prop, R b H → D R := ⟨fun h => ⟨(h (fun _ _ => True) trivial).1, fun R r => (h R r).2⟩, fun h R r => ⟨h.1, h.2 R r⟩⟩
theorem leibVC {b : V} {H : Hp} {C : Prop} {D : VK → Prop} : (∀ R : VK, R b H → C ∧ D R) ↔ C ∧ ∀ R : VK, R b H → D R := ⟨fun h => ⟨(h (fun _ _ => True) trivial).1, fun R r => (h R r).2⟩, fun h R r => ⟨h.1, h.2 R r⟩⟩
theorem iteV {c : Prop} [Decidable c] {v x y : V} : (if c then v = x else v = y) ↔ v = if c then x else y := by split <;> rfl
theorem iteI {c : Prop} [Decidable c] {x y : Int} : (if c then V.int x else V.int y) = V.int (if c then x else y) := by split <;> rfl
end L2

set_option linter.all false
set_option maxRecDepth 100000
set_option Elab.async false
namespace L2
open PySem PySem.Spec PyProof.Rows
open Sig
open Sp18Neutral (fmt)
abbrev Nm (f a : Int) : Prop := 0 ≤ a ∧ a < ((2 * HB (fmt f) : Nat) : Int)
def spB1 (v : Sp18.Format → Nat → Bool) : Sp := fun vs H Q _ => ∃ f a : Int, vs = [.int f, .int a] ∧ F01 f ∧ Nm f a ∧ Pl H ∧ Q (.bl (v (fmt f) a.toNat)) H
def spI2 (v : Sp18.Format → Nat → Nat → Int) : Sp := fun vs H Q _ => ∃ f a b : Int, vs = [.int f, .int a, .int b] ∧ F01 f ∧ Nm f a ∧ Nm f b ∧ Pl H ∧ Q (.int (v (fmt f) a.toNat b.toNat)) H
def spI2S (v : Sp18.Format → Nat → Nat → Int) : Sp := fun vs H Q _ => ∃ f a b : Int, vs = [.int f, .int a, .int b] ∧ F01 f ∧ Nm f a ∧ Nm f b ∧ Pl H ∧ ∀ H', Same H H' → Q (.int (v (fmt f) a.toNat b.toNat)) H'
section
variable {P : Program} {w : World} {K : PySem.W.Frag} {mg : Str → Option Value} {base : Heap} {k : Nat} {f : Addr} {fd : FuncData} {ps : List Str}
theorem forgetI2 {v : Sp18.Format → Nat → Nat → Int} (F : FnOk P w K mg base CX0 k f fd ps (spI2S v)) : FnOk P w K mg base CX0 k f fd ps (spI2 v) :=
  F.forget fun vs H Q E ⟨f, a, b, e, hf, ha, hb, hP, q⟩ => ⟨fun x H' => x = .int (v (fmt f) a.toNat b.toNat) ∧ Same H H', ⟨f, a, b, e, hf, ha, hb, hP, fun H' s => ⟨rfl, s⟩⟩, fun x H' ⟨e1, s⟩ => ⟨H, Same.refl H, s, hP.self, e1 ▸ q⟩⟩
end
def sp_is_nan : Sp := spB1 fun F a => decide (Sp18.top F < mag F a)
def sp_parts : Sp := fun vs H Q _ => ∃ f a : Int, vs = [.int f, .int a] ∧ F01 f ∧ 0 ≤ a ∧ a < ((HB (fmt f) : Nat) : Int) ∧ Pl H ∧
  ∀ p, H p = none → Q (.ref p) (upd H p (.tup [.int (mant (fmt f) a.toNat : Nat), .int (expo (fmt f) a.toNat)]))
def sp_rounded : Sp := fun vs H Q _ => ∃ (f m e : Int) (s : Bool), vs = [.int f, .int (Sp18.signBit (fmt f) s : Nat), .int m, .int e] ∧ F01 f ∧ 0 < m ∧ Nat.log2 m.toNat ≤ 9000 ∧ -9000 ≤ e ∧ e ≤ 9000 ∧ Pl H ∧
  Q (.int (Sp18.round (fmt f) s m.toNat e false : Nat)) H
def sp_with_rest : Sp := fun vs H Q _ => ∃ m r : Int, vs = [.int m, .int r] ∧ Pl H ∧ Q (.int (2 * m + if 0 < r then 1 else 0)) H
def sp_add : Sp := spI2 fun F a b => ((Sp18.add F a b : Nat) : Int)
/-- where one of them is no finite number -/
def sp_add_endless : Sp := fun vs H Q _ => ∃ f a b : Int, vs = [.int f, .int a, .int b] ∧ F01 f ∧ Nm f a ∧ Nm f b ∧ (Sp18.top (fmt f) ≤ mag (fmt f) a.toNat ∨ Sp18.top (fmt f) ≤ mag (fmt f) b.toNat) ∧ Pl H ∧
  Q (.int (Sp18.add (fmt f) a.toNat b.toNat : Nat)) H
def sp_subtract : Sp := spI2 fun F a b => ((Sp18.sub F a b : Nat) : Int)
def sp_multiply : Sp := spI2 fun F a b => ((Sp18.mul F a b : Nat) : Int)
def sp_divide : Sp := spI2 fun F a b => ((Sp18.div F a b : Nat) : Int)
theorem toNat_lt {n : Nat} {N : Nat} (h : ((n : Nat) : Int) < (N : Int)) : n < N := by omega
end L2
namespace L2
open PySem PySem.Spec PyProof.Rows
open Sig
open Sp18Neutral (fmt)
theorem nm_of {f : Int} {n : Nat} (h : n < 2 * HB (fmt f)) : Nm f (n : Int) := ⟨Int.natCast_nonneg _, by omega⟩
theorem take_snocV {l : List V} {i : Nat} {x : V} (h : l[i]? = some x) : l.take (i + 1) = l.take i ++ [x] := by
  rw [List.take_add_one, h]
  rfl
theorem map_at {α β : Type} {l : List α} {g : α → β} {i : Nat} {y : β} (h : (l.map g)[i]? = some y) : ∃ x, l[i]? = some x ∧ y = g x := by
  rw [List.getElem?_map] at h
  cases e : l[i]? with
  | none => rw [e] at h; cases h
  | some x => rw [e] at h; exact ⟨x, rfl, (Option.some.inj h).symm⟩
end L2

set_option linter.all false
set_option maxRecDepth 100000
set_option Elab.async false
namespace L2
open PySem PySem.Spec PyProof.Rows
open Sig
open Sp18Neutral (fmt)
theorem two_le_line : 2 ≤ sizeLine := by show 2 ≤ sizeLine; decide
theorem line_of_le {n : Nat} (h : n ≤ 100000) : n ≤ sizeLine := Nat.le_trans h (by rw [sizeLine_eq]; decide)
theorem tab_mk {K : PySem.W.Frag} {h : Heap} {mg : Str → Option Value} {x : Str} {p : Addr} {g : Sp18.Format → Int} {od : Option Addr} {sl : Array (Option Value)} {a b : Int} {t u n : Nat} (X : K.In h) (G : h.Ns mainGlobals mg)
    (e : PySem.W.nsIn K mainGlobals x = some (some (.ref p))) (l : K.lookup p = some ⟨.type "tuple", od, .seq #[.int a t, .int b u] n, sl⟩) (ea : g Sp18.single = a) (eb : g Sp18.double = b) : Tab K mg x g := by
  subst ea eb
  exact ⟨p, PySem.W.mg_of X G e, fun H => .inr ⟨_, _, _, l, rfl, rfl, two_le_line, .cons ⟨_, rfl⟩ (.cons ⟨_, rfl⟩ .nil)⟩⟩
theorem vals_refs : ∀ fs : List Addr, Vals (fs.map V.ref) (fs.map Value.ref)
  | [] => .nil
  | f :: r => .cons rfl (vals_refs r)
/-- a function that a table holds -/
structure Held (P : Program) (w : World) (K : PySem.W.Frag) (mg : Str → Option Value) (base : Heap) (k : Nat) (sp : Sp) (g : Addr) : Prop where
  ex : ∃ (fd : FuncData) (ps : List Str), FnOk P w K mg base CX0 k g fd ps sp ∧ PySem.W.keepIn K (.ref g) = true ∧ Binds K fd ps []
section
variable {P : Program} {w : World} {K : PySem.W.Frag} {mg : Str → Option Value} {base : Heap} {k k' : Nat} {f : Addr} {fd : FuncData} {ps : List Str} {sp : Sp} {x : Str}
theorem def_mk (F : FnOk P w K mg base CX0 k f fd ps sp) (hm : mg x = some (.ref f)) (hk : PySem.W.keepIn K (.ref f) = true) (b : Binds K fd ps []) : Def P w K mg base x k ps sp := ⟨f, fd, F, hm, hk, b⟩
theorem held_mk (F : FnOk P w K mg base CX0 k f fd ps sp) (hk : PySem.W.keepIn K (.ref f) = true) (b : Binds K fd ps []) (h : k ≤ k') : Held P w K mg base k' sp f := ⟨fd, ps, F.mono h, hk, b⟩
end
/-- two names = a tuple of two -/
def gTup2 (i j : Nat) : TG := fun v σ H Q => ∃ a x y, v = .ref a ∧ H a = some (.tup [x, y]) ∧ Q ((σ.set i (some x)).set j (some y)) H
theorem pg_pair {X : Cx} {e1 e2 : Expr} {k i j : Nat} {pos : Pos} (hc : X.calm = true) (h1 : PG X e1 (gName i)) (h2 : PG X e2 (gName j))
    (hs : (assignEach [e1, e2] X.env).map (·.2) = assign e1 X.env :: (assignEach [e2] X.env).map (·.2) := by rfl) (hs2 : (assignEach [e2] X.env).map (·.2) = assign e2 X.env :: (assignEach [] X.env).map (·.2) := by rfl)
    (hn : (assignEach [e1, e2] X.env).length = 2 := by rfl) (hst : (assignEach [e1, e2] X.env).findIdx? (·.1) = none := by rfl) : PG X (.Tuple [e1, e2] k pos) (gTup2 i j) := by
  intro pins s σ H v u Q I r hw
  obtain ⟨a, x, y, e, hq, hw⟩ := hw
  exact pg_tup hc (pgs_cons h1 (pgs_cons h2 pgs_nil hs2) hs) hn hst pins s σ H v u Q I r ⟨a, [x, y], e, SqT.of hq, rfl, x, [y], rfl, y, [], rfl, rfl, hw⟩
theorem mag_lt2 (F : Sp18.Format) (a : Nat) : mag F a < 2 * HB F := by have := mag_lt F a; omega
/-- a function that stands in a local, one of a table's -/
def tCallL (P : Program) (w : World) (K : PySem.W.Frag) (mg : Str → Option Value) (base : Heap) (kk i : Nat) (t : TA) : TE := fun σ H Q => ∃ g, σ[i]? = some (some (V.ref g)) ∧ ∃ sp : Sp, Held P w K mg base kk sp g ∧ t σ H fun vs H1 => sp vs H1 Q E0
theorem pe_callL {X : Cx} {P : Program} {w : World} {K : PySem.W.Frag} {mg : Str → Option Value} {base : Heap} {kk : Nat} {x : Str} {p pos : Pos} {e : Expr} {es : List Expr} {t : TA} (i : Nat) (e1 : X.prog = P) (e2 : X.w = w) (e3 : X.K = K) (e4 : X.mg = mg) (e5 : X.base = base) (hr : Room kk X.A)
    (hv : PE X (.Name x p) (tVar i)) (hx : Passes CX0 X E0) (ha : PA X (e :: es) t)
    (he : starEach (e :: es) X.env = (false, eval e X.env) :: starEach es X.env := by rfl) (hpl : (backTo pos (starEach es X.env)).any (·.1) = false := by rfl) :
    PE X (.Call (.Name x p) (e :: es) [] pos) (tCallL P w K mg base kk i t) := by
  subst e1 e2 e3 e4 e5
  intro pins s σ H Q I h
  obtain ⟨g, hi, sp, ⟨fd, ps, F, hk, hb⟩, h⟩ := h
  exact pe_callV i hv hx ha he hpl pins s σ H Q I ⟨g, hi, kk, fd, ps, sp, F, hr, hk, hb, h⟩
theorem pl_of {H : Hp} (h : OnlyF H) : Pl H := fun b o e => by
  rcases h b with z | ⟨ob, u, z, ⟨xs, rfl⟩ | ⟨xs, rfl⟩⟩
  · rw [z] at e; cases e
  · rw [z] at e; cases e; trivial
  · rw [z] at e; cases e; trivial
theorem ftab_sq {K : PySem.W.Frag} {p : Addr} {od : Option Addr} {sl : Array (Option Value)} {fs : List Addr} {its : Array Value} {n : Nat}
    (l : K.lookup p = some ⟨.type "tuple", od, .seq its n, sl⟩) (ei : its = (fs.map Value.ref).toArray) (hl : fs.length ≤ 100000) : ∀ H, SqT K H p (fs.map V.ref) := by
  subst ei
  exact fun H => .inr ⟨_, _, _, l, rfl, rfl, by simpa using line_of_le hl, by simpa using vals_refs fs⟩
theorem ix_tupK {X : Cx} {K : PySem.W.Frag} (e : X.K = K) : IxR X (rIxT K) := by subst e; exact ix_tup
theorem call_lenK {X : Cx} {K : PySem.W.Frag} (e : X.K = K) : CallR X (.builtin "len") (fun xs H Q => ∃ x n, xs = [x] ∧ LenV K x H n ∧ Q (.int n) H) := by subst e; exact call_len
end L2

set_option linter.all false
set_option maxRecDepth 100000
set_option Elab.async false
namespace L2
open PySem PySem.Spec PyProof.Rows
open Sig
open Sp18Neutral (fmt)
section
variable {P : Program} {w : World} {K : PySem.W.Frag} {mg : Str → Option Value} {base : Heap} {k : Nat} {f : Addr} {fd : FuncData} {ps : List Str}
end
end L2

set_option linter.all false
set_option maxRecDepth 100000
set_option Elab.async false
namespace L2
open PySem PySem.Spec PyProof.Rows
open Sig
open Sp18Neutral (fmt)
end L2

set_option linter.all false
set_option maxRecDepth 100000
set_option Elab.async false
namespace L2
open PySem PySem.Spec PyProof.Rows
open Sig
open Sp18Neutral (fmt)
section
open PySem.AutoSeq1
end
theorem same_upd {H H' : Hp} {p : Addr} {o : HO} (s : Same H H') (e : H' p = some o) : Same (upd H p o) H' := fun b u q => by
  by_cases c : b = p
  · subst c
    rw [upd_same] at q
    rw [e]
    exact q
  · rw [upd_ne c] at q
    exact s _ _ q
section
variable {P : Program} {w : World} {K : PySem.W.Frag} {mg : Str → Option Value} {base : Heap} {k : Nat} {f : Addr} {fd : FuncData} {ps : List Str}
end
theorem none_of_upd {H : Hp} {p q : Addr} {o : HO} (h : upd H p o q = none) : H q = none := by
  by_cases c : q = p
  · subst c
    rw [upd_same] at h
    cases h
  · rw [upd_ne c] at h
    exact h
end L2

set_option linter.all false
set_option maxRecDepth 100000
set_option Elab.async false
namespace L2
open PySem PySem.Spec PyProof.Rows
open Sig
open Sp18Neutral (fmt)
def pickV (xs : List V) (lo hi st : Option Int) : List V :=
  (sliceRange (sliceBounds lo hi st xs.length).1 (sliceBounds lo hi st xs.length).2.1 (sliceBounds lo hi st xs.length).2.2).filterMap (xs[·]?)
section
variable {X : Cx} {e st : Expr} {te : TE} {lo hi : Option Expr} {tl th ts : TO} {pos p2 : Pos}
def tSl3 (K : PySem.W.Frag) (te : TE) (tl th ts : TO) : TE := fun σ H Q => te σ H fun x H1 => tl σ H1 fun l H2 => th σ H2 fun u H3 => ts σ H3 fun c H4 =>
  ∃ a xs, x = .ref a ∧ SqL K H4 a xs ∧ c ≠ some 0 ∧ ∀ p, H4 p = none → Q (.ref p) (upd H4 p (.lst (pickV xs l u c)))
end
/-- a comprehension over enumerate -/
theorem tLc_enum {K : PySem.W.Frag} {la : Addr} {xs : List V} (zs : List V) {g : TG} {te : TE} {ta : TA} {vs : List Nat} {σ : St} {H : Hp} {Q : VK} (hta : ∀ R : List V → Hp → Prop, R [.ref la] H → ta σ H R)
    (hP : Pl H) (hx : SqL K H la xs) (hz : zs.length = xs.length) (hsz : xs.length ≤ sizeLine)
    (step : ∀ (i : Nat) (x z : V) (T : Addr) (H' : Hp) (Nx : VK), xs[i]? = some x → zs[i]? = some z → Same H H' → Pl H' → H' T = some (.tup [.int (i : Nat), x]) → Nx z H' →
      g (.ref T) (wipe σ vs) H' fun σ2 H2 => wipe σ2 vs = wipe σ vs ∧ te σ2 H2 Nx)
    (fin : ∀ D H', Same H H' → Pl H' → H' D = some (.lst zs) → Q (.ref D) H') : tLc (iEnum K ta) g tYes te vs σ H Q := by
  refine hta _ ⟨la, xs, rfl, hx, fun D hD => ?_⟩
  refine ⟨fun i m H' => m = xs.length - i ∧ i ≤ xs.length ∧ Same H H' ∧ Pl H' ∧ H' D = some (.lst (zs.take i)), ⟨xs.length, by simp, Nat.zero_le _, Same.new hD, hP.lst, by rw [upd_same]; rfl⟩, ?_⟩
  rintro i m H' ⟨rfl, hi, s1, hP1, hDi⟩
  have hx' := s1.seq hx
  by_cases hlt : i < xs.length
  · right
    obtain ⟨x, ex⟩ : ∃ x, xs[i]? = some x := ⟨xs[i], List.getElem?_eq_getElem hlt⟩
    obtain ⟨z, ez⟩ : ∃ z, zs[i]? = some z := ⟨zs[i], List.getElem?_eq_getElem (by omega)⟩
    refine ⟨⟨xs, x, hx', ex⟩, fun H2 => Same H H2 ∧ Pl H2 ∧ H2 D = some (.lst (zs.take (i + 1))), fun H2 h2 => ⟨xs.length - (i + 1), by omega, rfl, hlt, h2.1, h2.2.1, h2.2.2⟩, ?_⟩
    rintro v H2 ⟨T, x1, rfl, hT, rfl, q1⟩
    have e1 : x1 = x := Option.some.inj ((q1 xs hx').symm.trans ex)
    subst e1
    have s2 : Same H' (upd H' T (.tup [.int (i : Nat), x1])) := Same.new hT
    refine step i x1 z T _ (fun y H4 => ∃ acc, H4 D = some (.lst acc) ∧ acc.length < sizeLine ∧ (Same H (upd H4 D (.lst (acc ++ [y]))) ∧ Pl (upd H4 D (.lst (acc ++ [y]))) ∧ (upd H4 D (.lst (acc ++ [y]))) D = some (.lst (zs.take (i + 1))))) ex ez (s1.trans s2) hP1.tup upd_same ?_
    refine ⟨zs.take i, s2 _ _ hDi, by rw [List.length_take]; omega, fun b o e => ?_, hP1.tup.lst, by rw [upd_same, take_snocV ez]⟩
    rw [upd_ne (ne_of_none e hD)]
    exact s2 _ _ (s1 _ _ e)
  · left
    have e : i = xs.length := by omega
    subst e
    refine ⟨⟨xs, hx', Nat.le_refl _⟩, fin D H' s1 hP1 ?_⟩
    rw [hDi, ← hz, List.take_length]
def sp_in_format : Sp := fun vs H Q _ => ∃ g f a : Int, vs = [.int g, .int f, .int a] ∧ F01 g ∧ F01 f ∧ Nm f a ∧ Pl H ∧ Q (.int (Sp18.convert (fmt f) (fmt g) a.toNat : Nat)) H
def sp_in_formatS : Sp := fun vs H Q _ => ∃ g f a : Int, vs = [.int g, .int f, .int a] ∧ F01 g ∧ F01 f ∧ Nm f a ∧ Pl H ∧ ∀ H', Same H H' → Q (.int (Sp18.convert (fmt f) (fmt g) a.toNat : Nat)) H'
section
variable {P : Program} {w : World} {K : PySem.W.Frag} {mg : Str → Option Value} {base : Heap} {k : Nat} {f : Addr} {fd : FuncData} {ps : List Str}
theorem forgetCF (F : FnOk P w K mg base CX0 k f fd ps sp_in_formatS) : FnOk P w K mg base CX0 k f fd ps sp_in_format :=
  F.forget fun vs H Q E ⟨g, f, a, e, hg, hf, ha, hP, q⟩ => ⟨fun x H' => x = _ ∧ Same H H', ⟨g, f, a, e, hg, hf, ha, hP, fun H' s => ⟨rfl, s⟩⟩, fun x H' ⟨e1, s⟩ => ⟨H, Same.refl H, s, hP.self, e1 ▸ q⟩⟩
end
def sp_narrowed : Sp := fun vs H Q _ => ∃ a : Int, vs = [.int a] ∧ Nm 1 a ∧ Pl H ∧ Q (.int (Sp18.convert Sp18.double Sp18.single a.toNat : Nat)) H
def sp_from_whole : Sp := fun vs H Q _ => ∃ f k : Int, vs = [.int f, .int k] ∧ F01 f ∧ -2147483648 ≤ k ∧ k ≤ 2147483647 ∧ Pl H ∧ Q (.int (Sp18.ofInt (fmt f) k : Nat)) H
end L2

set_option linter.all false
set_option maxRecDepth 100000
set_option Elab.async false
namespace L2
open PySem PySem.Spec PyProof.Rows
open Sig
open Sp18Neutral (fmt)
end L2

set_option linter.all false
set_option maxRecDepth 100000
set_option Elab.async false
namespace L2
open PySem PySem.Spec PyProof.Rows
open Sig
open Sp18Neutral (fmt)
/-- a method of a class, and what is asked where it is called -/
structure MOk (P : Program) (w : World) (K : PySem.W.Frag) (mg : Str → Option Value) (base : Heap) (kk : Nat) (C : Addr) (m : Str) (I : List V → Hp → VK → Prop) : Prop where
  ex : ∃ (f : Addr) (fd : FuncData) (ps : List Str) (sp : Sp), Cls K C ∧ Meth K C m f ∧ FnOk P w K mg base CX0 kk f fd ps sp ∧ Binds K fd ps [] ∧ ∀ vs H Q, I vs H Q → sp vs H Q E0
/-- the object at p answers m as I says -/
def ArM (P : Program) (w : World) (K : PySem.W.Frag) (mg : Str → Option Value) (base : Heap) (kk : Nat) (m : Str) (I : List V → Hp → VK → Prop) (H : Hp) (p : Addr) : Prop :=
  ∃ C dx fs, H p = some (.ins C dx fs) ∧ fs.lookup m = none ∧ MOk P w K mg base kk C m (fun vs H' Q => H' p = some (.ins C dx fs) ∧ ∃ us, vs = .ref p :: us ∧ I us H' Q)
def tMethD (P : Program) (w : World) (K : PySem.W.Frag) (mg : Str → Option Value) (base : Heap) (kk : Nat) (m : Str) (ta : TE) (t : TA) : TE := fun σ H Q => ta σ H fun x H1 => ∃ a I, x = .ref a ∧ ArM P w K mg base kk m I H1 a ∧ t σ H1 fun us H2 => Same H1 H2 ∧ I us H2 Q
section
variable {X : Cx} {P : Program} {w : World} {K : PySem.W.Frag} {mg : Str → Option Value} {base : Heap} {kk k : Nat} {x m : Str} {p pos apos : Pos} {e o : Expr} {es : List Expr} {ta tv : TE} {t : TA} {C : Addr} {sp : Sp}
end
section
variable {P : Program} {w : World} {K : PySem.W.Frag} {mg : Str → Option Value} {base : Heap} {k kk : Nat} {f C : Addr} {fd : FuncData} {ps : List Str} {sp : Sp} {x m : Str} {I : List V → Hp → VK → Prop}
end
theorem Pl.own {H : Hp} {p x : Addr} (h : Pl H) : Pl (upd H p (.own x)) := h.put trivial
end L2

set_option linter.all false
set_option maxRecDepth 100000
set_option Elab.async false
namespace L2
open PySem PySem.Spec PyProof.Rows
open Sig
open Sp18Neutral (fmt)
section
variable {P : Program} {w : World} {K : PySem.W.Frag} {mg : Str → Option Value} {base : Heap} {C p dx : Addr} {f : Int} {H : Hp} {k kk : Nat}
end
end L2

set_option linter.all false
set_option maxRecDepth 100000
set_option Elab.async false
namespace L2
open PySem PySem.Spec PyProof.Rows
open Sig
open Sp18Neutral (fmt)
section
variable {P : Program} {w : World} {K : PySem.W.Frag} {mg : Str → Option Value} {base : Heap} {C p dx : Addr} {f : Int} {H : Hp} {k kk : Nat}
end
end L2

set_option linter.all false
set_option maxRecDepth 100000
set_option Elab.async false
namespace L2
open PySem PySem.Spec PyProof.Rows
open Sig
open Sp18Neutral (fmt)
def spV {ι : Type} (args : ι → List V) (X : ι → Hp → Prop) (r : ι → V) : Sp := fun vs H Q _ => ∃ i, vs = args i ∧ X i H ∧ Pl H ∧ Q (r i) H
def spVS {ι : Type} (args : ι → List V) (X : ι → Hp → Prop) (r : ι → V) : Sp := fun vs H Q _ => ∃ i, vs = args i ∧ X i H ∧ Pl H ∧ ∀ H', Same H H' → Q (r i) H'
def spT {ι : Type} (args : ι → List V) (X : ι → Hp → Prop) (r : ι → List V) : Sp := fun vs H Q _ => ∃ i, vs = args i ∧ X i H ∧ Pl H ∧ ∀ p, H p = none → Q (.ref p) (upd H p (.tup (r i)))
def spTS {ι : Type} (args : ι → List V) (X : ι → Hp → Prop) (r : ι → List V) : Sp := fun vs H Q _ => ∃ i, vs = args i ∧ X i H ∧ Pl H ∧ ∀ H' p, Same H H' → H p = none → H' p = some (.tup (r i)) → Q (.ref p) H'
section
variable {P : Program} {w : World} {K : PySem.W.Frag} {mg : Str → Option Value} {base : Heap} {k : Nat} {f : Addr} {fd : FuncData} {ps : List Str} {ι : Type} {args : ι → List V} {X : ι → Hp → Prop}
theorem forgetV {r : ι → V} (F : FnOk P w K mg base CX0 k f fd ps (spVS args X r)) : FnOk P w K mg base CX0 k f fd ps (spV args X r) :=
  F.forget fun vs H Q E ⟨i, e, hX, hP, q⟩ => ⟨fun x H' => x = r i ∧ Same H H', ⟨i, e, hX, hP, fun H' s => ⟨rfl, s⟩⟩, fun x H' ⟨e1, s⟩ => ⟨H, Same.refl H, s, hP.self, e1 ▸ q⟩⟩
theorem forgetT {r : ι → List V} (F : FnOk P w K mg base CX0 k f fd ps (spTS args X r)) : FnOk P w K mg base CX0 k f fd ps (spT args X r) :=
  F.forget fun vs H Q E ⟨i, e, hX, hP, q⟩ => ⟨fun x H' => ∃ p, x = .ref p ∧ Same H H' ∧ H p = none ∧ H' p = some (.tup (r i)), ⟨i, e, hX, hP, fun H' p s n t => ⟨p, rfl, s, n, t⟩⟩, fun x H' ⟨p, e1, s, n, t⟩ => ⟨_, Same.new n, same_upd s t, hP.tupF, e1 ▸ q p n⟩⟩
end
/-- two names = a tuple of two, be it the text's own -/
def gTupK (K : PySem.W.Frag) (i j : Nat) : TG := fun v σ H Q => ∃ a x y, v = .ref a ∧ SqT K H a [x, y] ∧ Q ((σ.set i (some x)).set j (some y)) H
theorem pi_tupK {X : Cx} {K : PySem.W.Frag} {tg l : Expr} {tl : TE} (eK : X.K = K) (hl : PE X l tl) : PI X tg l (iTup K tl) := by subst eK; exact pi_tup hl
def sp_minus : Sp := spV (ι := Nat) (fun a => [.int (a : Nat)]) (fun a _ => Ok a) (fun a => .int (Sp18.neg DD a : Nat))
def sp_angle : Sp := spV (ι := Nat × Nat) (fun i => [.int (i.1 : Nat), .int (i.2 : Nat)]) (fun i _ => 0 < i.1 ∧ i.1 ≤ 8192 ∧ 0 < i.2 ∧ i.2 ≤ 8192) (fun i => .int (Sp18.share i.1 i.2 : Nat))
def sp_series (K : PySem.W.Frag) : Sp := spV (ι := Addr × List Nat × Nat) (fun i => [.ref i.1, .int (i.2.2 : Nat)]) (fun i H => SqT K H i.1 (i.2.1.map fun n => V.int (n : Nat)) ∧ i.2.1.length = 6 ∧ (∀ c ∈ i.2.1, c < 2 * HB DD) ∧ i.2.2 < 2 * HB DD) (fun i => .int (Sp18.horner i.2.2 i.2.1 : Nat))
def sp_small_sine : Sp := spV (ι := Nat) (fun a => [.int (a : Nat)]) (fun a _ => a < 2 * HB DD) (fun a => .int (Sp18.sine a : Nat))
def sp_small_cosine : Sp := spV (ι := Nat) (fun a => [.int (a : Nat)]) (fun a _ => a < 2 * HB DD) (fun a => .int (Sp18.cosine a : Nat))
def sp_in_first_quarter : Sp := spT (ι := Nat × Nat) (fun i => [.int (i.1 : Nat), .int (i.2 : Nat)]) (fun i _ => 0 < i.2 ∧ i.2 < i.1 ∧ i.1 ≤ 8192) (fun i => [.int ((Sp18.within i.1 i.2).1 : Nat), .int ((Sp18.within i.1 i.2).2 : Nat)])
def sp_quarters_and_rest : Sp := spT (ι := Nat × Nat) (fun i => [.int (i.1 : Nat), .int (i.2 : Nat)]) (fun i _ => 0 < i.1 ∧ i.1 ≤ 8192) (fun i => [.int (4 * i.2 / i.1 % 4 : Nat), .int (4 * i.2 % i.1 : Nat)])
/-- the tuple may be the text's own -/
def sp_cosine_and_sine (K : PySem.W.Frag) : Sp := fun vs H Q _ => ∃ n j : Nat, vs = [.int (n : Nat), .int (j : Nat)] ∧ 0 < n ∧ n ≤ 8192 ∧ Pl H ∧
  ∀ H' p, Same H H' → Pl H' → SqT K H' p [.int ((Sp18.angle n j).1 : Nat), .int ((Sp18.angle n j).2 : Nat)] → Q (.ref p) H'
def sp_cosine : Sp := spV (ι := Nat × Nat) (fun i => [.int (i.1 : Nat), .int (i.2 : Nat)]) (fun i _ => 0 < i.1 ∧ i.1 ≤ 8192) (fun i => .int ((Sp18.angle i.1 i.2).1 : Nat))
def sp_of_double : Sp := spV (ι := Int × Nat) (fun i => [.int i.1, .int (i.2 : Nat)]) (fun i _ => F01 i.1 ∧ i.2 < 2 * HB DD ∧ (i.1 = 1 → mag DD i.2 ≤ Sp18.top DD)) (fun i => .int (Sp18.convert Sp18.double (fmt i.1) i.2 : Nat))
def spW (kind : Nat) : Sp := spV (ι := Nat × Nat) (fun i => [.int (i.1 : Nat), .int (i.2 : Nat)]) (fun i _ => 0 < i.1 ∧ i.1 ≤ 8192) (fun i => .int (Sp18.windowAt i.1 kind i.2 : Nat))
def sp_weight_of_kind_0 : Sp := spW 0
def sp_weight_of_kind_1 : Sp := spW 1
def sp_weight_of_kind_2 : Sp := spW 2
def sp_windowed (K : PySem.W.Frag) : Sp := fun vs H Q _ => ∃ (f : Int) (kind : Nat) (la : Addr) (a : List Int), vs = [.int f, .int (kind : Nat), .ref la] ∧ F01 f ∧ kind < 3 ∧ Pl H ∧ SqL K H la (a.map V.int) ∧ 1 ≤ a.length ∧ a.length ≤ 8192 ∧ (∀ z ∈ a, Nm f z) ∧
  ∀ H' p, Same H H' → Pl H' → H' p = some (.lst ((windowOf (fmt f) kind a).map V.int)) → Q (.ref p) H'
def sp_window (K : PySem.W.Frag) : Sp := fun vs H Q _ => ∃ (f op : Int) (la : Addr) (a : List Int), vs = [.int f, .int op, .ref la] ∧ F01 f ∧ 0 ≤ op ∧ Pl H ∧ SqL K H la (a.map V.int) ∧ a.length ≤ 30000 ∧
  (∀ z ∈ a, Nm f z) ∧ ∀ H' p, H' p = some (.lst ((PySp18.window f op a).map V.int)) → Q (.ref p) H'
theorem Same.seqT {K : PySem.W.Frag} {H H' : Hp} {a : Addr} {xs : List V} (e : Same H H') (h : SqT K H a xs) : SqT K H' a xs := by
  rcases h with (h | ⟨o, h⟩) | h
  · exact .inl (.inl (e _ _ h))
  · exact .inl (.inr ⟨o, e _ _ h⟩)
  · exact .inr h
theorem six_of {l : List Nat} (h : l.length = 6) : ∃ a b c d e f, l = [a, b, c, d, e, f] := by
  match l, h with
  | [a, b, c, d, e, f], _ => exact ⟨a, b, c, d, e, f, rfl⟩
theorem sine_hlt (z : Nat) : Sp18.horner z Sp18.SINE < 2 * HB DD := add_lt sD.ok _ _
theorem cosine_hlt (z : Nat) : Sp18.horner z Sp18.COSINE < 2 * HB DD := add_lt sD.ok _ _
theorem sine_cs : ∀ c ∈ Sp18.SINE, c < 2 * HB DD := by decide
theorem cosine_cs : ∀ c ∈ Sp18.COSINE, c < 2 * HB DD := by decide
theorem mul_ltD (a b : Nat) : Sp18.mul DD a b < 2 * HB DD := mul_lt sD.ok a b
theorem add_ltD (a b : Nat) : Sp18.add DD a b < 2 * HB DD := add_lt sD.ok a b
theorem sub_ltD (a b : Nat) : Sp18.sub DD a b < 2 * HB DD := add_lt sD.ok a _
theorem log2_small {n : Nat} (h : n ≤ 8192) : (n : Int).natAbs.log2 < 9000 := by
  rw [Int.natAbs_natCast]
  have := log2_bd (k := 14) (show n < 2 ^ 14 by omega)
  omega
theorem fmt_one : fmt 1 = DD := rfl
theorem fmt_zero : fmt 0 = Sp18.single := rfl
theorem F01_one : F01 1 := .inr rfl
theorem F01_zero : F01 0 := .inl rfl
end L2

set_option linter.all false
set_option Elab.async false
set_option maxRecDepth 100000
set_option maxHeartbeats 4000000
namespace Wk
open PySem PySem.Spec PyProof.Rows L2 Sig
open PySem.W (Codec)
open Sp18Neutral (fmt)
def top (i : Nat) : Stmt := PySem.Challenge.pw_bitsignals_s12_window.main.body.getD i (.Pass ⟨0, 0, 0, 0⟩)
abbrev s_is_nan : Stmt := top 8
abbrev s_parts : Stmt := top 9
abbrev s_rounded : Stmt := top 10
abbrev s_add : Stmt := top 12
abbrev s_add_endless : Stmt := top 13
abbrev s_subtract : Stmt := top 14
abbrev s_multiply : Stmt := top 15
abbrev s_divide : Stmt := top 16
abbrev s_with_rest : Stmt := top 17
abbrev s_in_format : Stmt := top 19
abbrev s_narrowed : Stmt := top 20
abbrev s_of_double : Stmt := top 21
abbrev s_from_whole : Stmt := top 22
abbrev s_quarters_and_rest : Stmt := top 32
abbrev s_cosine_and_sine : Stmt := top 33
abbrev s_cosine : Stmt := top 34
abbrev s_minus : Stmt := top 35
abbrev s_in_first_quarter : Stmt := top 36
abbrev s_angle : Stmt := top 37
abbrev s_small_sine : Stmt := top 38
abbrev s_small_cosine : Stmt := top 39
abbrev s_series : Stmt := top 40
abbrev s_weight_of_kind_0 : Stmt := top 42
abbrev s_weight_of_kind_1 : Stmt := top 43
abbrev s_weight_of_kind_2 : Stmt := top 44
abbrev s_windowed : Stmt := top 46
abbrev s_window : Stmt := top 51
section
variable {P : Program} {w : World} {K : PySem.W.Frag} {mg : Str → Option Value} {base : Heap}
theorem sc_is_nan : FnScope ["f", "a"] ["f", "a"] (defScope s_is_nan) := ⟨rfl, rfl, rfl, by decide +kernel, rfl, by decide +kernel, by decide +kernel⟩
theorem ok_is_nan {f : Addr} {fd : FuncData} (Fn : Fun K "is_nan" "is_nan" s_is_nan f fd) (T_SIZE_BITS : Tab K mg "SIZE_BITS" (fun F => ((HB F : Nat) : Int) - 1)) (T_INFINITY : Tab K mg "INFINITY" (fun F => ((Sp18.top F : Nat) : Int))) : FnOk P w K mg base CX0 1 f fd ["f", "a"] sp_is_nan := by
  refine Fn.ok sc_is_nan (fun vs H Q E h => ?_) (fun cdv A outer s H vs Q E hr h => ?_)
  · obtain ⟨f, a, rfl, _⟩ := h; rfl
  · obtain ⟨f, a, rfl, hf, ⟨ha0, ha⟩, hP, k⟩ := h
    obtain ⟨n, rfl⟩ := Int.eq_ofNat_of_zero_le ha0
    replace ha := toNat_lt ha
    refine ⟨_, (pss_one (ps_ret (pe_cmpR op_gt (pe_op op_and (pv 1) (pe_tab T_SIZE_BITS rfl (pv 0) (fun _ _ => rfl))) (pe_tab T_INFINITY rfl (pv 0) (fun _ _ => rfl)) (nomark _)))), ?_⟩
    rw [show start ["f", "a"] [V.int f, V.int n] = [some (V.int f), some (V.int n)] from rfl]
    simp only [tSeq, tAsg, gName, tRet, tIfS, tNext, tVar, tC, tOp, tUn, rI, rI0, rU, tTest, tB, tAnd, tOr, tNot, tIf, tCall, tCons, tNil, tCB, tTup, tTab, tOrP, tAndP, tIfP, leibB, leibV, leibBC, leibVC, iteV, iteI, Bool.or_eq_true, Bool.and_eq_true, upd_same, HO.tup.injEq, gTup2, gTupK, gTup, gCons, gNil, rEq, rNe, scal, TruV, tBM0, tyV, tSl3, tSl, tChain, tFld, sFld, tMethD, tMake, tPart, tNoPart, List.append_nil, List.nil_append, List.cons_append, List.set_cons_zero, List.set_cons_succ, List.getElem?_cons_zero, List.getElem?_cons_succ, Option.some.injEq, V.int.injEq, V.bl.injEq, V.ref.injEq, List.cons.injEq, and_assoc, exists_eq_left', exists_eq_left, exists_and_left, and_true, true_and, decide_eq_true_eq, Int.toNat_natCast, hP, Pl.tup, hf, p_size, p_sign, p_xors, p_ands, Int.ofNat_lt, Int.ofNat_le, Int.natCast_inj, Int.natCast_nonneg, Int.natCast_eq_zero, if_true, if_false, Bool.false_eq_true, reduceIte, forall_const, ha]
    exact k
theorem sc_parts : FnScope ["f", "size", "field", "hidden"] ["f", "size"] (defScope s_parts) := ⟨rfl, rfl, rfl, by decide +kernel, rfl, by decide +kernel, by decide +kernel⟩
theorem ok_parts {f : Addr} {fd : FuncData} (Fn : Fun K "parts" "parts" s_parts f fd) (T_FRACTION_WIDTH : Tab K mg "FRACTION_WIDTH" (fun F => ((F.p - 1 : Nat) : Int))) (T_LEAST_POWER : Tab K mg "LEAST_POWER" (fun F => F.least)) (T_HIDDEN_BIT : Tab K mg "HIDDEN_BIT" (fun F => ((PW F : Nat) : Int))) : FnOk P w K mg base CX0 1 f fd ["f", "size"] sp_parts := by
  refine Fn.ok sc_parts (fun vs H Q E h => ?_) (fun cdv A outer s H vs Q E hr h => ?_)
  · obtain ⟨f, a, rfl, _⟩ := h; rfl
  · obtain ⟨f, a, rfl, hf, ha0, ha, hP, k⟩ := h
    obtain ⟨n, rfl⟩ := Int.eq_ofNat_of_zero_le ha0
    replace ha := toNat_lt ha
    refine ⟨_, (pss_cons (ps_set (i := 2) sc_parts.nd rfl (by first | exact Or.inl rfl | exact Or.inr rfl) (pe_op op_shr (pv 1) (pe_tab T_FRACTION_WIDTH rfl (pv 0) (fun _ _ => rfl))))
      (pss_cons (ps_if (pt_cmpR op_eq (pv 2) pe_int (nomark _)) (pss_one (ps_ret (pe_tup (pa_cons (pv 1) (pa_cons (pe_tab T_LEAST_POWER rfl (pv 0) (fun _ _ => rfl)) pa_nil))))) pss_nil)
      (pss_cons (ps_set (i := 3) sc_parts.nd rfl (by first | exact Or.inl rfl | exact Or.inr rfl) (pe_tab T_HIDDEN_BIT rfl (pv 0) (fun _ _ => rfl)))
      (pss_one (ps_ret (pe_tup (pa_cons (pe_op op_or (pe_op op_and (pv 1) (pe_op op_sub (pv 3) pe_int)) (pv 3)) (pa_cons (pe_op op_sub (pe_op op_add (pe_tab T_LEAST_POWER rfl (pv 0) (fun _ _ => rfl)) (pv 2)) pe_int) pa_nil)))))))), ?_⟩
    rw [show start ["f", "size", "field", "hidden"] [V.int f, V.int n] = [some (V.int f), some (V.int n), none, none] from rfl]
    simp only [tSeq, tAsg, gName, tRet, tIfS, tNext, tVar, tC, tOp, tUn, rI, rI0, rU, tTest, tB, tAnd, tOr, tNot, tIf, tCall, tCons, tNil, tCB, tTup, tTab, tOrP, tAndP, tIfP, leibB, leibV, leibBC, leibVC, iteV, iteI, Bool.or_eq_true, Bool.and_eq_true, upd_same, HO.tup.injEq, gTup2, gTupK, gTup, gCons, gNil, rEq, rNe, scal, TruV, tBM0, tyV, tSl3, tSl, tChain, tFld, sFld, tMethD, tMake, tPart, tNoPart, List.append_nil, List.nil_append, List.cons_append, List.set_cons_zero, List.set_cons_succ, List.getElem?_cons_zero, List.getElem?_cons_succ, Option.some.injEq, V.int.injEq, V.bl.injEq, V.ref.injEq, List.cons.injEq, and_assoc, exists_eq_left', exists_eq_left, exists_and_left, and_true, true_and, decide_eq_true_eq, Int.toNat_natCast, hP, Pl.tup, hf, p_size, p_sign, p_xors, p_ands, Int.ofNat_lt, Int.ofNat_le, Int.natCast_inj, Int.natCast_nonneg, Int.natCast_eq_zero, if_true, if_false, Bool.false_eq_true, reduceIte, forall_const, ha, p_shr, p_hidden]
    have k2 : ∀ p, H p = none → Q (.ref p) (upd H p (.tup [.int (mant (fmt f) n : Nat), .int (expo (fmt f) n)])) := k
    unfold mant expo at k2
    by_cases c : n / 2 ^ ((fmt f).p - 1) = 0
    · rw [if_pos c]
      refine ⟨by show 2 ≤ sizeLine; decide, fun p hp => ?_⟩
      have q := k2 p hp
      rw [if_pos c, if_pos c] at q
      have hlt : n < Sig.PW (fmt f) := (Nat.div_eq_zero_iff.mp c).resolve_left (Nat.ne_of_gt (pw_pos _))
      rw [Nat.mod_eq_of_lt hlt] at q
      exact q
    · rw [if_neg c]
      refine ⟨by show 2 ≤ sizeLine; decide, fun p hp => ?_⟩
      have q := k2 p hp
      rw [if_neg c, if_neg c] at q
      exact q
theorem sc_rounded : FnScope ["f", "sign", "m", "power", "drop", "size", "kept"] ["f", "sign", "m", "power"] (defScope s_rounded) := ⟨rfl, rfl, rfl, by decide +kernel, rfl, by decide +kernel, by decide +kernel⟩
theorem ok_rounded {f : Addr} {fd : FuncData} (Fn : Fun K "rounded" "rounded" s_rounded f fd) (T_LEAST_POWER : Tab K mg "LEAST_POWER" (fun F => F.least)) (T_FRACTION_WIDTH : Tab K mg "FRACTION_WIDTH" (fun F => ((F.p - 1 : Nat) : Int))) (T_INFINITY : Tab K mg "INFINITY" (fun F => ((Sp18.top F : Nat) : Int))) (B_max : mg "max" = none) (B_min : mg "min" = none) : FnOk P w K mg base CX0 1 f fd ["f", "sign", "m", "power"] sp_rounded := by
  refine Fn.ok sc_rounded (fun vs H Q E h => ?_) (fun cdv A outer s H vs Q E hr h => ?_)
  · obtain ⟨f, m, e, s, rfl, _⟩ := h; rfl
  · obtain ⟨f, m, e, sg, rfl, hf, hm, hl, he1, he2, hP, k⟩ := h
    obtain ⟨n, rfl⟩ := Int.eq_ofNat_of_zero_le (Int.le_of_lt hm)
    have hn : 0 < n := by omega
    have hl2 : Nat.log2 n ≤ 9000 := hl
    have hbits := p_bits hn
    refine ⟨_, (pss_cons (ps_set (i := 4) sc_rounded.nd rfl (by first | exact Or.inl rfl | exact Or.inr rfl) (pe_callB (call_max2 rfl) rfl B_max boot_max (pa_cons (pe_op op_sub (pe_op op_sub (pe_bm0 PySem.F.plainAttrs_int slot_int_bit_length type_int_bit_length mt_bits (pv 2)) (pe_tab T_FRACTION_WIDTH rfl (pv 0) (fun _ _ => rfl))) pe_int) (pa_cons (pe_op op_sub (pe_tab T_LEAST_POWER rfl (pv 0) (fun _ _ => rfl)) (pv 3)) pa_nil))))
      (pss_cons (ps_if (pt_cmpR op_gt (pv 4) pe_int (nomark _)) (pss_one (ps_set (i := 6) sc_rounded.nd rfl (by first | exact Or.inl rfl | exact Or.inr rfl) (pe_op op_shr (pe_op op_add (pe_op op_sub (pe_op op_add (pv 2) (pe_op op_shl pe_int (pe_op op_sub (pv 4) pe_int))) pe_int) (pe_op op_and (pe_op op_shr (pv 2) (pv 4)) pe_int)) (pv 4)))) (pss_one (ps_set (i := 6) sc_rounded.nd rfl (by first | exact Or.inl rfl | exact Or.inr rfl) (pe_op op_shl (pv 2) (pe_un un_neg (pv 4))))))
      (pss_cons (ps_set (i := 5) sc_rounded.nd rfl (by first | exact Or.inl rfl | exact Or.inr rfl) (pe_op op_add (pe_op op_shl (pe_op op_sub (pe_op op_add (pv 3) (pv 4)) (pe_tab T_LEAST_POWER rfl (pv 0) (fun _ _ => rfl))) (pe_tab T_FRACTION_WIDTH rfl (pv 0) (fun _ _ => rfl))) (pv 6)))
      (pss_one (ps_ret (pe_op op_or (pv 1) (pe_callB (call_min2 rfl) rfl B_min boot_min (pa_cons (pv 5) (pa_cons (pe_tab T_INFINITY rfl (pv 0) (fun _ _ => rfl)) pa_nil))))))))), ?_⟩
    rw [show start ["f", "sign", "m", "power", "drop", "size", "kept"] [V.int f, V.int ((Sp18.signBit (fmt f) sg : Nat) : Int), V.int n, V.int e] = [some (V.int f), some (V.int ((Sp18.signBit (fmt f) sg : Nat) : Int)), some (V.int n), some (V.int e), none, none, none] from rfl]
    simp only [tSeq, tAsg, gName, tRet, tIfS, tNext, tVar, tC, tOp, tUn, rI, rI0, rU, tTest, tB, tAnd, tOr, tNot, tIf, tCall, tCons, tNil, tCB, tTup, tTab, tOrP, tAndP, tIfP, leibB, leibV, leibBC, leibVC, iteV, iteI, Bool.or_eq_true, Bool.and_eq_true, upd_same, HO.tup.injEq, gTup2, gTupK, gTup, gCons, gNil, rEq, rNe, scal, TruV, tBM0, tyV, tSl3, tSl, tChain, tFld, sFld, tMethD, tMake, tPart, tNoPart, List.append_nil, List.nil_append, List.cons_append, List.set_cons_zero, List.set_cons_succ, List.getElem?_cons_zero, List.getElem?_cons_succ, Option.some.injEq, V.int.injEq, V.bl.injEq, V.ref.injEq, List.cons.injEq, and_assoc, exists_eq_left', exists_eq_left, exists_and_left, and_true, true_and, decide_eq_true_eq, Int.toNat_natCast, hP, Pl.tup, hf, p_size, p_sign, p_xors, p_ands, Int.ofNat_lt, Int.ofNat_le, Int.natCast_inj, Int.natCast_nonneg, Int.natCast_eq_zero, if_true, if_false, Bool.false_eq_true, reduceIte, forall_const, hbits, bitAnd_m1, CPow]
    have hdr : (if (fmt f).least - e > ((Nat.log2 n + 1 : Nat) : Int) - (((fmt f).p - 1 : Nat) : Int) - 1 then (fmt f).least - e else ((Nat.log2 n + 1 : Nat) : Int) - (((fmt f).p - 1 : Nat) : Int) - 1) = dropOf (fmt f) n e := rfl
    rw [hdr]
    have hS := hf.std
    have hlb := least_bd hS
    have hpb := p_bd hS
    have hr0 := round_drop (fmt f) sg n e false
    have hd9 : dropOf (fmt f) n e ≤ 20000 ∧ -60 ≤ dropOf (fmt f) n e := by unfold dropOf; split <;> omega
    have hq : Q (.int ((Sp18.round (fmt f) sg n e false : Nat) : Int)) H := k
    rw [hr0.2] at hq
    have fin : ∀ z : Int, z = (((e + dropOf (fmt f) n e - (fmt f).least).toNat * Sig.PW (fmt f) + Sp18.nearest n (dropOf (fmt f) n e) false : Nat) : Int) → Q (.int (Builtin.bitOr ((Sp18.signBit (fmt f) sg : Nat) : Int) (if ((Sp18.top (fmt f) : Nat) : Int) < z then ((Sp18.top (fmt f) : Nat) : Int) else z))) H := by
      intro z hz
      have ht := top_lt hS.ok
      subst hz
      generalize (e + dropOf (fmt f) n e - (fmt f).least).toNat * Sig.PW (fmt f) + Sp18.nearest n (dropOf (fmt f) n e) false = y at hq ⊢
      by_cases c : Sp18.top (fmt f) < y
      · rw [if_pos (by omega), p_or sg ht]; rw [Nat.min_eq_right (by omega)] at hq; exact hq
      · rw [if_neg (by omega), p_or sg (by omega)]; rw [Nat.min_eq_left (by omega)] at hq; exact hq
    have hu : (e + dropOf (fmt f) n e - (fmt f).least).natAbs < 2 ^ 64 := by omega
    by_cases c : 0 < dropOf (fmt f) n e
    · rw [if_pos c]
      exact ⟨by omega, by omega, by decide, by omega, by omega, by omega, hu, fin _ (rounded_pos (s := sg) c)⟩
    · rw [if_neg c]
      have hn64 : n < 2 ^ 53 := by
        have h1 : Nat.log2 n < 53 := by unfold dropOf at c; split at c <;> omega
        exact (Nat.log2_lt (by omega)).mp h1
      exact ⟨by omega, by omega, by omega, by omega, hu, fin _ (rounded_neg (s := sg) c)⟩
theorem sc_in_format : FnScope ["g", "f", "a", "size", "sign", "m", "power"] ["g", "f", "a"] (defScope s_in_format) := ⟨rfl, rfl, rfl, by decide +kernel, rfl, by decide +kernel, by decide +kernel⟩
theorem ok_in_format {f : Addr} {fd : FuncData} (Fn : Fun K "in_format" "in_format" s_in_format f fd) (T_NAN : Tab K mg "NAN" (fun F => ((Sp18.NONE F : Nat) : Int))) (T_SIZE_BITS : Tab K mg "SIZE_BITS" (fun F => ((HB F : Nat) : Int) - 1)) (T_SIGN_BIT : Tab K mg "SIGN_BIT" (fun F => ((HB F : Nat) : Int))) (T_INFINITY : Tab K mg "INFINITY" (fun F => ((Sp18.top F : Nat) : Int))) (D_is_nan : Def P w K mg base "is_nan" 1 ["f", "a"] sp_is_nan) (D_parts : Def P w K mg base "parts" 1 ["f", "size"] sp_parts) (D_rounded : Def P w K mg base "rounded" 1 ["f", "sign", "m", "power"] sp_rounded) : FnOk P w K mg base CX0 2 f fd ["g", "f", "a"] sp_in_format := by
  refine forgetCF ?_
  refine Fn.ok sc_in_format (fun vs H Q E h => ?_) (fun cdv A outer s H vs Q E hr h => ?_)
  · obtain ⟨g, f, a, rfl, _⟩ := h; rfl
  · obtain ⟨g, f, a, rfl, hg, hf, ⟨ha0, ha⟩, hP, k⟩ := h
    obtain ⟨n, rfl⟩ := Int.eq_ofNat_of_zero_le ha0
    replace ha := toNat_lt ha
    refine ⟨_, (pss_cons (ps_if (pt_val (pe_def D_is_nan rfl (hr.mono (by decide)) pass0 (pa_cons (pv 1) (pa_cons (pv 2) pa_nil)))) (pss_one (ps_ret (pe_tab T_NAN rfl (pv 0) (fun _ _ => rfl)))) pss_nil)
      (pss_cons (ps_set (i := 3) sc_in_format.nd rfl (by first | exact Or.inl rfl | exact Or.inr rfl) (pe_op op_and (pv 2) (pe_tab T_SIZE_BITS rfl (pv 1) (fun _ _ => rfl))))
      (pss_cons (ps_set (i := 4) sc_in_format.nd rfl (by first | exact Or.inl rfl | exact Or.inr rfl) (pe_ifP (pt_cmpR op_eq (pv 2) (pv 3) (nomark _)) pe_int (pe_tab T_SIGN_BIT rfl (pv 0) (fun _ _ => rfl))))
      (pss_cons (ps_if (pt_cmpR op_eq (pv 3) pe_int (nomark _)) (pss_one (ps_ret (pv 4))) pss_nil)
      (pss_cons (ps_if (pt_cmpR op_eq (pv 3) (pe_tab T_INFINITY rfl (pv 1) (fun _ _ => rfl)) (nomark _)) (pss_one (ps_ret (pe_op op_or (pv 4) (pe_tab T_INFINITY rfl (pv 0) (fun _ _ => rfl))))) pss_nil)
      (pss_cons (ps_asg (pe_def D_parts rfl (hr.mono (by decide)) pass0 (pa_cons (pv 1) (pa_cons (pv 3) pa_nil))) (pg_pair rfl (pg_name (i := 5) sc_in_format.nd rfl (by first | exact Or.inl rfl | exact Or.inr rfl)) (pg_name (i := 6) sc_in_format.nd rfl (by first | exact Or.inl rfl | exact Or.inr rfl))))
      (pss_one (ps_ret (pe_def D_rounded rfl (hr.mono (by decide)) pass0 (pa_cons (pv 0) (pa_cons (pv 4) (pa_cons (pv 5) (pa_cons (pv 6) pa_nil))))))))))))), ?_⟩
    rw [show start ["g", "f", "a", "size", "sign", "m", "power"] [V.int g, V.int f, V.int n] = [some (V.int g), some (V.int f), some (V.int n), none, none, none, none] from rfl]
    have hor := p_or (F := fmt g) (sgn (fmt f) n) (top_lt hg.ok)
    have hns : n = mag (fmt f) n ↔ sgn (fmt f) n = false := by rw [← ne_size ha, Int.natCast_inj]
    have hif : (if n = mag (fmt f) n then (0 : Int) else ((HB (fmt g) : Nat) : Int)) = ((Sp18.signBit (fmt g) (sgn (fmt f) n) : Nat) : Int) := by
      by_cases c : sgn (fmt f) n = true
      · rw [if_neg (by rw [hns, c]; decide), c, signBit_t]
      · rw [if_pos (hns.mpr (by simpa using c)), show sgn (fmt f) n = false by simpa using c, signBit_f]; rfl
    simp only [tSeq, tAsg, gName, tRet, tIfS, tNext, tVar, tC, tOp, tUn, rI, rI0, rU, tTest, tB, tAnd, tOr, tNot, tIf, tCall, tCons, tNil, tCB, tTup, tTab, tOrP, tAndP, tIfP, leibB, leibV, leibBC, leibVC, iteV, iteI, Bool.or_eq_true, Bool.and_eq_true, upd_same, HO.tup.injEq, gTup2, gTupK, gTup, gCons, gNil, rEq, rNe, scal, TruV, tBM0, tyV, tSl3, tSl, tChain, tFld, sFld, tMethD, tMake, tPart, tNoPart, List.append_nil, List.nil_append, List.cons_append, List.set_cons_zero, List.set_cons_succ, List.getElem?_cons_zero, List.getElem?_cons_succ, Option.some.injEq, V.int.injEq, V.bl.injEq, V.ref.injEq, List.cons.injEq, and_assoc, exists_eq_left', exists_eq_left, exists_and_left, and_true, true_and, decide_eq_true_eq, Int.toNat_natCast, hP, Pl.tup, hf, p_size, p_sign, p_xors, p_ands, Int.ofNat_lt, Int.ofNat_le, Int.natCast_inj, Int.natCast_nonneg, Int.natCast_eq_zero, if_true, if_false, Bool.false_eq_true, reduceIte, forall_const, ha, hg, sp_is_nan, spB1, sp_parts, sp_rounded, mag_lt, hif, hor]
    have q : ∀ H1, Same H H1 → Q (.int ((Sp18.convert (fmt f) (fmt g) n : Nat) : Int)) H1 := k
    rw [conv_eq _ _ _ hf.ok] at q
    split
    · next c => rw [if_pos c] at q; exact q H (Same.refl H)
    next c =>
    rw [if_neg c] at q
    split
    · next c1 => rw [if_pos c1] at q; exact q H (Same.refl H)
    next c1 =>
    rw [if_neg c1] at q
    split
    · next c2 => rw [if_pos c2] at q; exact q H (Same.refl H)
    next c2 =>
    rw [if_neg c2] at q
    intro p hp
    have hm1 := mant_bd hf.std (mag (fmt f) n)
    have he1 := expo_bd hf.std (mag_lt (fmt f) n)
    have hz1 : 0 < mant (fmt f) (mag (fmt f) n) := Nat.pos_of_ne_zero fun z => absurd (mant_zero.mp z) (by omega)
    have hl2 := log2_bd hm1
    exact ⟨_, _, _, rfl, rfl, rfl, by omega, by rw [Int.toNat_natCast]; omega, by omega, by omega, q _ (Same.new hp)⟩
theorem sc_narrowed : FnScope ["a"] ["a"] (defScope s_narrowed) := ⟨rfl, rfl, rfl, by decide +kernel, rfl, by decide +kernel, by decide +kernel⟩
theorem ok_narrowed {f : Addr} {fd : FuncData} (Fn : Fun K "narrowed" "narrowed" s_narrowed f fd) (D_in_format : Def P w K mg base "in_format" 2 ["g", "f", "a"] sp_in_format) : FnOk P w K mg base CX0 3 f fd ["a"] sp_narrowed := by
  refine Fn.ok sc_narrowed (fun vs H Q E h => ?_) (fun cdv A outer s H vs Q E hr h => ?_)
  · obtain ⟨a, rfl, _⟩ := h; rfl
  · obtain ⟨a, rfl, ha, hP, k⟩ := h
    refine ⟨_, (pss_one (ps_ret (pe_def D_in_format rfl (hr.mono (by decide)) pass0 (pa_cons pe_int (pa_cons pe_int (pa_cons (pv 0) pa_nil)))))), ?_⟩
    rw [show start ["a"] [V.int a] = [some (V.int a)] from rfl]
    simp only [tSeq, tAsg, gName, tRet, tIfS, tNext, tVar, tC, tOp, tUn, rI, rI0, rU, tTest, tB, tAnd, tOr, tNot, tIf, tCall, tCons, tNil, tCB, tTup, tTab, tOrP, tAndP, tIfP, leibB, leibV, leibBC, leibVC, iteV, iteI, Bool.or_eq_true, Bool.and_eq_true, upd_same, HO.tup.injEq, gTup2, gTupK, gTup, gCons, gNil, rEq, rNe, scal, TruV, tBM0, tyV, tSl3, tSl, tChain, tFld, sFld, tMethD, tMake, tPart, tNoPart, List.append_nil, List.nil_append, List.cons_append, List.set_cons_zero, List.set_cons_succ, List.getElem?_cons_zero, List.getElem?_cons_succ, Option.some.injEq, V.int.injEq, V.bl.injEq, V.ref.injEq, List.cons.injEq, and_assoc, exists_eq_left', exists_eq_left, exists_and_left, and_true, true_and, decide_eq_true_eq, Int.toNat_natCast, sp_in_format]
    exact ⟨.inl rfl, .inr rfl, ha.1, ha.2, hP, k⟩
theorem sc_of_double : FnScope ["f", "a"] ["f", "a"] (defScope s_of_double) := ⟨rfl, rfl, rfl, by decide +kernel, rfl, by decide +kernel, by decide +kernel⟩
theorem ok_of_double {f : Addr} {fd : FuncData} (Fn : Fun K "of_double" "of_double" s_of_double f fd) (D_narrowed : Def P w K mg base "narrowed" 3 ["a"] sp_narrowed) : FnOk P w K mg base CX0 4 f fd ["f", "a"] sp_of_double := by
  refine Fn.ok sc_of_double (fun vs H Q E h => ?_) (fun cdv A outer s H vs Q E hr h => ?_)
  · obtain ⟨i, rfl, _⟩ := h; rfl
  · obtain ⟨⟨f, a⟩, rfl, ⟨hf, ha, hm⟩, hP, k⟩ := h
    dsimp only at hf ha hm k
    refine ⟨_, (pss_one (ps_ret (pe_ifP (pt_cmpR op_eq (pv 0) pe_int (nomark _)) (pv 1) (pe_def D_narrowed rfl (hr.mono (by decide)) pass0 (pa_cons (pv 1) pa_nil))))), ?_⟩
    rw [show start ["f", "a"] [V.int f, V.int (a : Nat)] = [some (V.int f), some (V.int (a : Nat))] from rfl]
    simp only [tSeq, tAsg, gName, tRet, tIfS, tNext, tVar, tC, tOp, tUn, rI, rI0, rU, tTest, tB, tAnd, tOr, tNot, tIf, tCall, tCons, tNil, tCB, tTup, tTab, tOrP, tAndP, tIfP, leibB, leibV, leibBC, leibVC, iteV, iteI, Bool.or_eq_true, Bool.and_eq_true, upd_same, HO.tup.injEq, gTup2, gTupK, gTup, gCons, gNil, rEq, rNe, scal, TruV, tBM0, tyV, tSl3, tSl, tChain, tFld, sFld, tMethD, tMake, tPart, tNoPart, List.append_nil, List.nil_append, List.cons_append, List.set_cons_zero, List.set_cons_succ, List.getElem?_cons_zero, List.getElem?_cons_succ, Option.some.injEq, V.int.injEq, V.bl.injEq, V.ref.injEq, List.cons.injEq, and_assoc, exists_eq_left', exists_eq_left, exists_and_left, and_true, true_and, decide_eq_true_eq, Int.toNat_natCast, hP, Pl.tup, F01_one, F01_zero, fmt_one, fmt_zero, Int.ofNat_lt, Int.ofNat_le, Int.natCast_inj, Int.natCast_nonneg, if_true, if_false, Bool.false_eq_true, reduceIte, forall_const, sp_narrowed]
    rcases hf with rfl | rfl
    · exact ⟨_, by rw [if_neg (by decide)]; exact ⟨ha, rfl⟩, k⟩
    · rw [show Sp18.convert Sp18.double (fmt 1) a = a from convert_self sD ha (hm rfl)] at k
      exact ⟨_, by rw [if_pos rfl], k⟩
theorem sc_from_whole : FnScope ["f", "k"] ["f", "k"] (defScope s_from_whole) := ⟨rfl, rfl, rfl, by decide +kernel, rfl, by decide +kernel, by decide +kernel⟩
theorem ok_from_whole {f : Addr} {fd : FuncData} (Fn : Fun K "from_whole" "from_whole" s_from_whole f fd) (T_SIGN_BIT : Tab K mg "SIGN_BIT" (fun F => ((HB F : Nat) : Int))) (D_rounded : Def P w K mg base "rounded" 1 ["f", "sign", "m", "power"] sp_rounded) (B_abs : mg "abs" = none) : FnOk P w K mg base CX0 2 f fd ["f", "k"] sp_from_whole := by
  refine Fn.ok sc_from_whole (fun vs H Q E h => ?_) (fun cdv A outer s H vs Q E hr h => ?_)
  · obtain ⟨f, a, rfl, _⟩ := h; rfl
  · obtain ⟨f, z, rfl, hf, h1, h2, hP, k⟩ := h
    refine ⟨_, (pss_cons (ps_if (pt_cmpR op_eq (pv 1) pe_int (nomark _)) (pss_one (ps_ret pe_int)) pss_nil)
      (pss_one (ps_ret (pe_def D_rounded rfl (hr.mono (by decide)) pass0 (pa_cons (pv 0) (pa_cons (pe_ifP (pt_cmpR op_lt (pv 1) pe_int (nomark _)) (pe_tab T_SIGN_BIT rfl (pv 0) (fun _ _ => rfl)) pe_int) (pa_cons (pe_callB call_abs rfl B_abs boot_abs (pa_cons (pv 1) pa_nil)) (pa_cons pe_int pa_nil)))))))), ?_⟩
    rw [show start ["f", "k"] [V.int f, V.int z] = [some (V.int f), some (V.int z)] from rfl]
    simp only [tSeq, tAsg, gName, tRet, tIfS, tNext, tVar, tC, tOp, tUn, rI, rI0, rU, tTest, tB, tAnd, tOr, tNot, tIf, tCall, tCons, tNil, tCB, tTup, tTab, tOrP, tAndP, tIfP, leibB, leibV, leibBC, leibVC, iteV, iteI, Bool.or_eq_true, Bool.and_eq_true, upd_same, HO.tup.injEq, gTup2, gTupK, gTup, gCons, gNil, rEq, rNe, scal, TruV, tBM0, tyV, tSl3, tSl, tChain, tFld, sFld, tMethD, tMake, tPart, tNoPart, List.append_nil, List.nil_append, List.cons_append, List.set_cons_zero, List.set_cons_succ, List.getElem?_cons_zero, List.getElem?_cons_succ, Option.some.injEq, V.int.injEq, V.bl.injEq, V.ref.injEq, List.cons.injEq, and_assoc, exists_eq_left', exists_eq_left, exists_and_left, and_true, true_and, decide_eq_true_eq, Int.toNat_natCast, hP, Pl.tup, hf, p_size, p_sign, p_xors, p_ands, Int.ofNat_lt, Int.ofNat_le, Int.natCast_inj, Int.natCast_nonneg, Int.natCast_eq_zero, if_true, if_false, Bool.false_eq_true, reduceIte, forall_const, sp_rounded]
    have q : Q (.int ((Sp18.ofInt (fmt f) z : Nat) : Int)) H := k
    unfold Sp18.ofInt at q
    split
    · next c => rw [if_pos c] at q; exact q
    next c =>
    rw [if_neg c] at q
    have hl := log2_bd (show z.natAbs < 2 ^ 40 by omega)
    have e : (if z < 0 then -z else z) = ((z.natAbs : Nat) : Int) := by split <;> omega
    rw [e]
    by_cases c2 : z < 0
    · rw [decide_eq_true c2] at q
      refine ⟨_, _, true, by rw [if_pos c2, signBit_t], rfl, rfl, by omega, by rw [Int.toNat_natCast]; omega, by decide, by decide, q⟩
    · rw [decide_eq_false c2] at q
      refine ⟨_, _, false, by rw [if_neg c2, signBit_f]; rfl, rfl, rfl, by omega, by rw [Int.toNat_natCast]; omega, by decide, by decide, q⟩
theorem sc_with_rest : FnScope ["m", "rest"] ["m", "rest"] (defScope s_with_rest) := ⟨rfl, rfl, rfl, by decide +kernel, rfl, by decide +kernel, by decide +kernel⟩
theorem ok_with_rest {f : Addr} {fd : FuncData} (Fn : Fun K "with_rest" "with_rest" s_with_rest f fd)  : FnOk P w K mg base CX0 1 f fd ["m", "rest"] sp_with_rest := by
  refine Fn.ok sc_with_rest (fun vs H Q E h => ?_) (fun cdv A outer s H vs Q E hr h => ?_)
  · obtain ⟨m, r, rfl, _⟩ := h; rfl
  · obtain ⟨m, r, rfl, hP, k⟩ := h
    refine ⟨_, (pss_one (ps_ret (pe_op op_add (pe_op op_mul pe_int (pv 0)) (pe_ifP (pt_cmpR op_gt (pv 1) pe_int (nomark _)) pe_int pe_int)))), ?_⟩
    rw [show start ["m", "rest"] [V.int m, V.int r] = [some (V.int m), some (V.int r)] from rfl]
    simp only [tSeq, tAsg, gName, tRet, tIfS, tNext, tVar, tC, tOp, tUn, rI, rI0, rU, tTest, tB, tAnd, tOr, tNot, tIf, tCall, tCons, tNil, tCB, tTup, tTab, tOrP, tAndP, tIfP, leibB, leibV, leibBC, leibVC, iteV, iteI, Bool.or_eq_true, Bool.and_eq_true, upd_same, HO.tup.injEq, gTup2, gTupK, gTup, gCons, gNil, rEq, rNe, scal, TruV, tBM0, tyV, tSl3, tSl, tChain, tFld, sFld, tMethD, tMake, tPart, tNoPart, List.append_nil, List.nil_append, List.cons_append, List.set_cons_zero, List.set_cons_succ, List.getElem?_cons_zero, List.getElem?_cons_succ, Option.some.injEq, V.int.injEq, V.bl.injEq, V.ref.injEq, List.cons.injEq, and_assoc, exists_eq_left', exists_eq_left, exists_and_left, and_true, true_and, decide_eq_true_eq, Int.toNat_natCast, CMul]
    refine ⟨.inl ⟨by decide, by decide⟩, ?_⟩
    exact k
theorem sc_multiply : FnScope ["f", "a", "b", "sign", "x", "y", "m", "m_power", "n", "n_power"] ["f", "a", "b"] (defScope s_multiply) := ⟨rfl, rfl, rfl, by decide +kernel, rfl, by decide +kernel, by decide +kernel⟩
theorem ok_multiply {f : Addr} {fd : FuncData} (Fn : Fun K "multiply" "multiply" s_multiply f fd) (T_SIGN_BIT : Tab K mg "SIGN_BIT" (fun F => ((HB F : Nat) : Int))) (T_SIZE_BITS : Tab K mg "SIZE_BITS" (fun F => ((HB F : Nat) : Int) - 1)) (T_INFINITY : Tab K mg "INFINITY" (fun F => ((Sp18.top F : Nat) : Int))) (T_NAN : Tab K mg "NAN" (fun F => ((Sp18.NONE F : Nat) : Int))) (D_is_nan : Def P w K mg base "is_nan" 1 ["f", "a"] sp_is_nan) (D_parts : Def P w K mg base "parts" 1 ["f", "size"] sp_parts) (D_rounded : Def P w K mg base "rounded" 1 ["f", "sign", "m", "power"] sp_rounded) : FnOk P w K mg base CX0 2 f fd ["f", "a", "b"] sp_multiply := by
  refine forgetI2 ?_
  refine Fn.ok sc_multiply (fun vs H Q E h => ?_) (fun cdv A outer s H vs Q E hr h => ?_)
  · obtain ⟨f, a, b, rfl, _⟩ := h; rfl
  · obtain ⟨f, a, b, rfl, hf, ⟨ha0, ha⟩, ⟨hb0, hb⟩, hP, k⟩ := h
    obtain ⟨n, rfl⟩ := Int.eq_ofNat_of_zero_le ha0
    obtain ⟨m, rfl⟩ := Int.eq_ofNat_of_zero_le hb0
    replace ha := toNat_lt ha
    replace hb := toNat_lt hb
    refine ⟨_, (pss_cons (ps_set (i := 3) sc_multiply.nd rfl (by first | exact Or.inl rfl | exact Or.inr rfl) (pe_op op_and (pe_op op_xor (pv 1) (pv 2)) (pe_tab T_SIGN_BIT rfl (pv 0) (fun _ _ => rfl))))
      (pss_cons (ps_set (i := 4) sc_multiply.nd rfl (by first | exact Or.inl rfl | exact Or.inr rfl) (pe_op op_and (pv 1) (pe_tab T_SIZE_BITS rfl (pv 0) (fun _ _ => rfl))))
      (pss_cons (ps_set (i := 5) sc_multiply.nd rfl (by first | exact Or.inl rfl | exact Or.inr rfl) (pe_op op_and (pv 2) (pe_tab T_SIZE_BITS rfl (pv 0) (fun _ _ => rfl))))
      (pss_cons (ps_if (PW.pt (pw_orP (pt_cmpR op_ge (pv 4) (pe_tab T_INFINITY rfl (pv 0) (fun _ _ => rfl)) (nomark _)) (pw_or1 (pt_cmpR op_ge (pv 5) (pe_tab T_INFINITY rfl (pv 0) (fun _ _ => rfl)) (nomark _))))) (pss_cons (ps_if (PW.pt (pw_orP (pt_val (pe_def D_is_nan rfl (hr.mono (by decide)) pass0 (pa_cons (pv 0) (pa_cons (pv 4) pa_nil)))) (pw_orP (pt_val (pe_def D_is_nan rfl (hr.mono (by decide)) pass0 (pa_cons (pv 0) (pa_cons (pv 5) pa_nil)))) (pw_orP (pt_cmpR op_eq (pv 4) pe_int (nomark _)) (pw_or1 (pt_cmpR op_eq (pv 5) pe_int (nomark _))))))) (pss_one (ps_ret (pe_tab T_NAN rfl (pv 0) (fun _ _ => rfl)))) pss_nil)
      (pss_one (ps_ret (pe_op op_or (pv 3) (pe_tab T_INFINITY rfl (pv 0) (fun _ _ => rfl)))))) pss_nil)
      (pss_cons (ps_if (PW.pt (pw_orP (pt_cmpR op_eq (pv 4) pe_int (nomark _)) (pw_or1 (pt_cmpR op_eq (pv 5) pe_int (nomark _))))) (pss_one (ps_ret (pv 3))) pss_nil)
      (pss_cons (ps_asg (pe_def D_parts rfl (hr.mono (by decide)) pass0 (pa_cons (pv 0) (pa_cons (pv 4) pa_nil))) (pg_pair rfl (pg_name (i := 6) sc_multiply.nd rfl (by first | exact Or.inl rfl | exact Or.inr rfl)) (pg_name (i := 7) sc_multiply.nd rfl (by first | exact Or.inl rfl | exact Or.inr rfl))))
      (pss_cons (ps_asg (pe_def D_parts rfl (hr.mono (by decide)) pass0 (pa_cons (pv 0) (pa_cons (pv 5) pa_nil))) (pg_pair rfl (pg_name (i := 8) sc_multiply.nd rfl (by first | exact Or.inl rfl | exact Or.inr rfl)) (pg_name (i := 9) sc_multiply.nd rfl (by first | exact Or.inl rfl | exact Or.inr rfl))))
      (pss_one (ps_ret (pe_def D_rounded rfl (hr.mono (by decide)) pass0 (pa_cons (pv 0) (pa_cons (pv 3) (pa_cons (pe_op op_mul (pv 6) (pv 8)) (pa_cons (pe_op op_add (pv 7) (pv 9)) pa_nil)))))))))))))), ?_⟩
    rw [show start ["f", "a", "b", "sign", "x", "y", "m", "m_power", "n", "n_power"] [V.int f, V.int n, V.int m] = [some (V.int f), some (V.int n), some (V.int m), none, none, none, none, none, none, none] from rfl]
    have hor := p_or (sgn (fmt f) n != sgn (fmt f) m) (top_lt hf.ok)
    simp only [tSeq, tAsg, gName, tRet, tIfS, tNext, tVar, tC, tOp, tUn, rI, rI0, rU, tTest, tB, tAnd, tOr, tNot, tIf, tCall, tCons, tNil, tCB, tTup, tTab, tOrP, tAndP, tIfP, leibB, leibV, leibBC, leibVC, iteV, iteI, Bool.or_eq_true, Bool.and_eq_true, upd_same, HO.tup.injEq, gTup2, gTupK, gTup, gCons, gNil, rEq, rNe, scal, TruV, tBM0, tyV, tSl3, tSl, tChain, tFld, sFld, tMethD, tMake, tPart, tNoPart, List.append_nil, List.nil_append, List.cons_append, List.set_cons_zero, List.set_cons_succ, List.getElem?_cons_zero, List.getElem?_cons_succ, Option.some.injEq, V.int.injEq, V.bl.injEq, V.ref.injEq, List.cons.injEq, and_assoc, exists_eq_left', exists_eq_left, exists_and_left, and_true, true_and, decide_eq_true_eq, Int.toNat_natCast, hP, Pl.tup, hf, p_size, p_sign, p_xors, p_ands, Int.ofNat_lt, Int.ofNat_le, Int.natCast_inj, Int.natCast_nonneg, Int.natCast_eq_zero, if_true, if_false, Bool.false_eq_true, reduceIte, forall_const, ha, hb, sp_is_nan, spB1, sp_parts, sp_rounded, mag_mag, mag_lt, mag_lt2, hor, CMul]
    have q : ∀ H1, Same H H1 → Q (.int ((Sp18.mul (fmt f) n m : Nat) : Int)) H1 := k
    rw [mul_eq hf.ok] at q
    split
    · next c =>
      rw [if_pos c] at q
      split
      · next c1 => rw [if_pos c1] at q; exact q H (Same.refl H)
      · next c1 => rw [if_neg c1] at q; exact q H (Same.refl H)
    next c =>
    rw [if_neg c] at q
    split
    · next c1 => rw [if_pos c1] at q; exact q H (Same.refl H)
    next c1 =>
    rw [if_neg c1] at q
    have hm1 := mant_bd hf.std (mag (fmt f) n)
    have hm2 := mant_bd hf.std (mag (fmt f) m)
    have he1 := expo_bd hf.std (mag_lt (fmt f) n)
    have he2 := expo_bd hf.std (mag_lt (fmt f) m)
    have hpb := p_bd hf.std
    have hlb := least_bd hf.std
    have hz1 : 0 < mant (fmt f) (mag (fmt f) n) := Nat.pos_of_ne_zero fun z => absurd (mant_zero.mp z) (by omega)
    have hz2 : 0 < mant (fmt f) (mag (fmt f) m) := Nat.pos_of_ne_zero fun z => absurd (mant_zero.mp z) (by omega)
    intro p1 h1 p2 h2
    have hp : 0 < mant (fmt f) (mag (fmt f) n) * mant (fmt f) (mag (fmt f) m) := Nat.mul_pos hz1 hz2
    have hlg : Nat.log2 (mant (fmt f) (mag (fmt f) n) * mant (fmt f) (mag (fmt f) m)) ≤ 106 := log2_bd (by rw [show (2:Nat) ^ 106 = 2 ^ 53 * 2 ^ 53 by decide]; exact Nat.mul_lt_mul_of_lt_of_lt hm1 hm2)
    refine ⟨.inl ⟨by omega, by omega⟩, _, _, _, rfl, rfl, rfl, ?_, ?_, by omega, by omega, ?_⟩
    · rw [← Int.natCast_mul]; omega
    · rw [← Int.natCast_mul, Int.toNat_natCast]; omega
    · rw [← Int.natCast_mul, Int.toNat_natCast]; exact q _ ((Same.new h1).trans (Same.new h2))
theorem sc_divide : FnScope ["f", "a", "b", "sign", "x", "y", "m", "m_power", "n", "n_power", "shift", "quotient", "rest"] ["f", "a", "b"] (defScope s_divide) := ⟨rfl, rfl, rfl, by decide +kernel, rfl, by decide +kernel, by decide +kernel⟩
theorem ok_divide {f : Addr} {fd : FuncData} (Fn : Fun K "divide" "divide" s_divide f fd) (T_SIGN_BIT : Tab K mg "SIGN_BIT" (fun F => ((HB F : Nat) : Int))) (T_SIZE_BITS : Tab K mg "SIZE_BITS" (fun F => ((HB F : Nat) : Int) - 1)) (T_NAN : Tab K mg "NAN" (fun F => ((Sp18.NONE F : Nat) : Int))) (T_INFINITY : Tab K mg "INFINITY" (fun F => ((Sp18.top F : Nat) : Int))) (T_FRACTION_WIDTH : Tab K mg "FRACTION_WIDTH" (fun F => ((F.p - 1 : Nat) : Int))) (D_is_nan : Def P w K mg base "is_nan" 1 ["f", "a"] sp_is_nan) (D_parts : Def P w K mg base "parts" 1 ["f", "size"] sp_parts) (D_rounded : Def P w K mg base "rounded" 1 ["f", "sign", "m", "power"] sp_rounded) (D_with_rest : Def P w K mg base "with_rest" 1 ["m", "rest"] sp_with_rest) (B_divmod : mg "divmod" = none) : FnOk P w K mg base CX0 2 f fd ["f", "a", "b"] sp_divide := by
  refine forgetI2 ?_
  refine Fn.ok sc_divide (fun vs H Q E h => ?_) (fun cdv A outer s H vs Q E hr h => ?_)
  · obtain ⟨f, a, b, rfl, _⟩ := h; rfl
  · obtain ⟨f, a, b, rfl, hf, ⟨ha0, ha⟩, ⟨hb0, hb⟩, hP, k⟩ := h
    obtain ⟨n, rfl⟩ := Int.eq_ofNat_of_zero_le ha0
    obtain ⟨m, rfl⟩ := Int.eq_ofNat_of_zero_le hb0
    replace ha := toNat_lt ha
    replace hb := toNat_lt hb
    refine ⟨_, (pss_cons (ps_set (i := 3) sc_divide.nd rfl (by first | exact Or.inl rfl | exact Or.inr rfl) (pe_op op_and (pe_op op_xor (pv 1) (pv 2)) (pe_tab T_SIGN_BIT rfl (pv 0) (fun _ _ => rfl))))
      (pss_cons (ps_set (i := 4) sc_divide.nd rfl (by first | exact Or.inl rfl | exact Or.inr rfl) (pe_op op_and (pv 1) (pe_tab T_SIZE_BITS rfl (pv 0) (fun _ _ => rfl))))
      (pss_cons (ps_set (i := 5) sc_divide.nd rfl (by first | exact Or.inl rfl | exact Or.inr rfl) (pe_op op_and (pv 2) (pe_tab T_SIZE_BITS rfl (pv 0) (fun _ _ => rfl))))
      (pss_cons (ps_if (PW.pt (pw_orP (pt_val (pe_def D_is_nan rfl (hr.mono (by decide)) pass0 (pa_cons (pv 0) (pa_cons (pv 4) pa_nil)))) (pw_or1 (pt_val (pe_def D_is_nan rfl (hr.mono (by decide)) pass0 (pa_cons (pv 0) (pa_cons (pv 5) pa_nil))))))) (pss_one (ps_ret (pe_tab T_NAN rfl (pv 0) (fun _ _ => rfl)))) pss_nil)
      (pss_cons (ps_if (PW.pt (pw_andP (pt_cmpR op_eq (pv 4) (pv 5) (nomark _)) (pw_and1 (PW.pt (pw_orP (pt_cmpR op_eq (pv 4) pe_int (nomark _)) (pw_or1 (pt_cmpR op_eq (pv 4) (pe_tab T_INFINITY rfl (pv 0) (fun _ _ => rfl)) (nomark _)))))))) (pss_one (ps_ret (pe_tab T_NAN rfl (pv 0) (fun _ _ => rfl)))) pss_nil)
      (pss_cons (ps_if (PW.pt (pw_orP (pt_cmpR op_eq (pv 4) pe_int (nomark _)) (pw_or1 (pt_cmpR op_eq (pv 5) (pe_tab T_INFINITY rfl (pv 0) (fun _ _ => rfl)) (nomark _))))) (pss_one (ps_ret (pv 3))) pss_nil)
      (pss_cons (ps_if (PW.pt (pw_orP (pt_cmpR op_eq (pv 5) pe_int (nomark _)) (pw_or1 (pt_cmpR op_eq (pv 4) (pe_tab T_INFINITY rfl (pv 0) (fun _ _ => rfl)) (nomark _))))) (pss_one (ps_ret (pe_op op_or (pv 3) (pe_tab T_INFINITY rfl (pv 0) (fun _ _ => rfl))))) pss_nil)
      (pss_cons (ps_asg (pe_def D_parts rfl (hr.mono (by decide)) pass0 (pa_cons (pv 0) (pa_cons (pv 4) pa_nil))) (pg_pair rfl (pg_name (i := 6) sc_divide.nd rfl (by first | exact Or.inl rfl | exact Or.inr rfl)) (pg_name (i := 7) sc_divide.nd rfl (by first | exact Or.inl rfl | exact Or.inr rfl))))
      (pss_cons (ps_asg (pe_def D_parts rfl (hr.mono (by decide)) pass0 (pa_cons (pv 0) (pa_cons (pv 5) pa_nil))) (pg_pair rfl (pg_name (i := 8) sc_divide.nd rfl (by first | exact Or.inl rfl | exact Or.inr rfl)) (pg_name (i := 9) sc_divide.nd rfl (by first | exact Or.inl rfl | exact Or.inr rfl))))
      (pss_cons (ps_set (i := 10) sc_divide.nd rfl (by first | exact Or.inl rfl | exact Or.inr rfl) (pe_op op_add (pe_op op_mul pe_int (pe_tab T_FRACTION_WIDTH rfl (pv 0) (fun _ _ => rfl))) pe_int))
      (pss_cons (ps_asg (pe_callB call_divmodB rfl B_divmod boot_divmod (pa_cons (pe_op op_shl (pv 6) (pv 10)) (pa_cons (pv 8) pa_nil))) (pg_pair rfl (pg_name (i := 11) sc_divide.nd rfl (by first | exact Or.inl rfl | exact Or.inr rfl)) (pg_name (i := 12) sc_divide.nd rfl (by first | exact Or.inl rfl | exact Or.inr rfl))))
      (pss_one (ps_ret (pe_def D_rounded rfl (hr.mono (by decide)) pass0 (pa_cons (pv 0) (pa_cons (pv 3) (pa_cons (pe_def D_with_rest rfl (hr.mono (by decide)) pass0 (pa_cons (pv 11) (pa_cons (pv 12) pa_nil))) (pa_cons (pe_op op_sub (pe_op op_sub (pe_op op_sub (pv 7) (pv 9)) (pv 10)) pe_int) pa_nil)))))))))))))))))), ?_⟩
    rw [show start ["f", "a", "b", "sign", "x", "y", "m", "m_power", "n", "n_power", "shift", "quotient", "rest"] [V.int f, V.int n, V.int m] = [some (V.int f), some (V.int n), some (V.int m), none, none, none, none, none, none, none, none, none, none] from rfl]
    have hor := p_or (sgn (fmt f) n != sgn (fmt f) m) (top_lt hf.ok)
    have hk : (2 * (((fmt f).p - 1 : Nat) : Int) + 4) = ((2 * ((fmt f).p - 1) + 4 : Nat) : Int) := by omega
    simp only [tSeq, tAsg, gName, tRet, tIfS, tNext, tVar, tC, tOp, tUn, rI, rI0, rU, tTest, tB, tAnd, tOr, tNot, tIf, tCall, tCons, tNil, tCB, tTup, tTab, tOrP, tAndP, tIfP, leibB, leibV, leibBC, leibVC, iteV, iteI, Bool.or_eq_true, Bool.and_eq_true, upd_same, HO.tup.injEq, gTup2, gTupK, gTup, gCons, gNil, rEq, rNe, scal, TruV, tBM0, tyV, tSl3, tSl, tChain, tFld, sFld, tMethD, tMake, tPart, tNoPart, List.append_nil, List.nil_append, List.cons_append, List.set_cons_zero, List.set_cons_succ, List.getElem?_cons_zero, List.getElem?_cons_succ, Option.some.injEq, V.int.injEq, V.bl.injEq, V.ref.injEq, List.cons.injEq, and_assoc, exists_eq_left', exists_eq_left, exists_and_left, and_true, true_and, decide_eq_true_eq, Int.toNat_natCast, hP, Pl.tup, hf, p_size, p_sign, p_xors, p_ands, Int.ofNat_lt, Int.ofNat_le, Int.natCast_inj, Int.natCast_nonneg, Int.natCast_eq_zero, if_true, if_false, Bool.false_eq_true, reduceIte, forall_const, ha, hb, sp_is_nan, spB1, sp_parts, sp_rounded, mag_mag, mag_lt, mag_lt2, hor, sp_with_rest, CPow, CDivB, hk, cast_shl, cast_div, cast_mod, cast_rest]
    have q : ∀ H1, Same H H1 → Q (.int ((Sp18.div (fmt f) n m : Nat) : Int)) H1 := k
    rw [div_eq hf.ok] at q
    split
    · next c => rw [if_pos c] at q; exact q H (Same.refl H)
    next c =>
    rw [if_neg c] at q
    split
    · next c1 => rw [if_pos c1] at q; exact q H (Same.refl H)
    next c1 =>
    rw [if_neg c1] at q
    split
    · next c2 => rw [if_pos c2] at q; exact q H (Same.refl H)
    next c2 =>
    rw [if_neg c2] at q
    split
    · next c3 => rw [if_pos c3] at q; exact q H (Same.refl H)
    next c3 =>
    rw [if_neg c3] at q
    have hm1 := mant_bd hf.std (mag (fmt f) n)
    have hm2 := mant_bd hf.std (mag (fmt f) m)
    have he1 := expo_bd hf.std (mag_lt (fmt f) n)
    have he2 := expo_bd hf.std (mag_lt (fmt f) m)
    have hpb := p_bd hf.std
    have hlb := least_bd hf.std
    have hz1 : 0 < mant (fmt f) (mag (fmt f) n) := Nat.pos_of_ne_zero fun z => absurd (mant_zero.mp z) (by omega)
    have hz2 : 0 < mant (fmt f) (mag (fmt f) m) := Nat.pos_of_ne_zero fun z => absurd (mant_zero.mp z) (by omega)
    have hqb := quot_bd hf.std hz1 hm1 hz2 (mant_lt (fmt f) _)
    have hl2 := log2_bd hm2
    refine fun p1 h1 p2 h2 => ⟨.inl ⟨by decide, by decide⟩, by omega, by omega, by omega, by rw [Int.natAbs_natCast]; omega, fun p3 h3 => ⟨_, _, _, rfl, rfl, rfl, by omega, ?_, by omega, by omega, ?_⟩⟩
    · rw [Int.toNat_natCast]; omega
    · rw [Int.toNat_natCast]; exact q _ (((Same.new h1).trans (Same.new h2)).trans (Same.new h3))
theorem sc_add_endless : FnScope ["f", "a", "b"] ["f", "a", "b"] (defScope s_add_endless) := ⟨rfl, rfl, rfl, by decide +kernel, rfl, by decide +kernel, by decide +kernel⟩
theorem ok_add_endless {f : Addr} {fd : FuncData} (Fn : Fun K "add_endless" "add_endless" s_add_endless f fd) (T_NAN : Tab K mg "NAN" (fun F => ((Sp18.NONE F : Nat) : Int))) (T_SIZE_BITS : Tab K mg "SIZE_BITS" (fun F => ((HB F : Nat) : Int) - 1)) (T_INFINITY : Tab K mg "INFINITY" (fun F => ((Sp18.top F : Nat) : Int))) (T_SIGN_BIT : Tab K mg "SIGN_BIT" (fun F => ((HB F : Nat) : Int))) (D_is_nan : Def P w K mg base "is_nan" 1 ["f", "a"] sp_is_nan) : FnOk P w K mg base CX0 2 f fd ["f", "a", "b"] sp_add_endless := by
  refine Fn.ok sc_add_endless (fun vs H Q E h => ?_) (fun cdv A outer s H vs Q E hr h => ?_)
  · obtain ⟨f, a, b, rfl, _⟩ := h; rfl
  · obtain ⟨f, a, b, rfl, hf, ⟨ha0, ha⟩, ⟨hb0, hb⟩, hend, hP, k⟩ := h
    obtain ⟨n, rfl⟩ := Int.eq_ofNat_of_zero_le ha0
    obtain ⟨m, rfl⟩ := Int.eq_ofNat_of_zero_le hb0
    replace ha := toNat_lt ha
    replace hb := toNat_lt hb
    refine ⟨_, (pss_cons (ps_if (PW.pt (pw_orP (pt_val (pe_def D_is_nan rfl (hr.mono (by decide)) pass0 (pa_cons (pv 0) (pa_cons (pv 1) pa_nil)))) (pw_or1 (pt_val (pe_def D_is_nan rfl (hr.mono (by decide)) pass0 (pa_cons (pv 0) (pa_cons (pv 2) pa_nil))))))) (pss_one (ps_ret (pe_tab T_NAN rfl (pv 0) (fun _ _ => rfl)))) pss_nil)
      (pss_cons (ps_if (pt_cmpR op_ne (pe_op op_and (pv 1) (pe_tab T_SIZE_BITS rfl (pv 0) (fun _ _ => rfl))) (pe_tab T_INFINITY rfl (pv 0) (fun _ _ => rfl)) (nomark _)) (pss_one (ps_ret (pv 2))) pss_nil)
      (pss_cons (ps_if (pt_cmpR op_eq (pv 2) (pe_op op_xor (pv 1) (pe_tab T_SIGN_BIT rfl (pv 0) (fun _ _ => rfl))) (nomark _)) (pss_one (ps_ret (pe_tab T_NAN rfl (pv 0) (fun _ _ => rfl)))) pss_nil)
      (pss_one (ps_ret (pv 1)))))), ?_⟩
    rw [show start ["f", "a", "b"] [V.int f, V.int n, V.int m] = [some (V.int f), some (V.int n), some (V.int m)] from rfl]
    have hxo := p_opp ha
    simp only [tSeq, tAsg, gName, tRet, tIfS, tNext, tVar, tC, tOp, tUn, rI, rI0, rU, tTest, tB, tAnd, tOr, tNot, tIf, tCall, tCons, tNil, tCB, tTup, tTab, tOrP, tAndP, tIfP, leibB, leibV, leibBC, leibVC, iteV, iteI, Bool.or_eq_true, Bool.and_eq_true, upd_same, HO.tup.injEq, gTup2, gTupK, gTup, gCons, gNil, rEq, rNe, scal, TruV, tBM0, tyV, tSl3, tSl, tChain, tFld, sFld, tMethD, tMake, tPart, tNoPart, List.append_nil, List.nil_append, List.cons_append, List.set_cons_zero, List.set_cons_succ, List.getElem?_cons_zero, List.getElem?_cons_succ, Option.some.injEq, V.int.injEq, V.bl.injEq, V.ref.injEq, List.cons.injEq, and_assoc, exists_eq_left', exists_eq_left, exists_and_left, and_true, true_and, decide_eq_true_eq, Int.toNat_natCast, hP, Pl.tup, hf, p_size, p_sign, p_xors, p_ands, Int.ofNat_lt, Int.ofNat_le, Int.natCast_inj, Int.natCast_nonneg, Int.natCast_eq_zero, if_true, if_false, Bool.false_eq_true, reduceIte, forall_const, ha, hb, sp_is_nan, spB1, hxo]
    have q : Q (.int ((Sp18.add (fmt f) n m : Nat) : Int)) H := k
    rw [endless_eq ha hb hend] at q
    split
    · next c =>
      rcases c with c | c
      · rw [if_pos c] at q; exact q
      · rw [if_pos c] at q; split at q <;> exact q
    next c =>
    rw [if_neg (by omega), if_neg (by omega)] at q
    by_cases c3 : mag (fmt f) n = Sp18.top (fmt f)
    · rw [if_neg (fun z => z c3)] at q
      rw [if_neg (by rw [decide_eq_true c3]; decide)]
      split
      · next c4 => rw [if_pos c4] at q; exact q
      · next c4 => rw [if_neg c4] at q; exact q
    · rw [if_pos c3] at q; rw [if_pos (by rw [decide_eq_false c3]; decide)]; exact q
theorem sc_add : FnScope ["f", "a", "b", "x", "y", "m", "m_power", "n", "n_power", "power", "total"] ["f", "a", "b"] (defScope s_add) := ⟨rfl, rfl, rfl, by decide +kernel, rfl, by decide +kernel, by decide +kernel⟩
theorem ok_add {f : Addr} {fd : FuncData} (Fn : Fun K "add" "add" s_add f fd) (T_SIZE_BITS : Tab K mg "SIZE_BITS" (fun F => ((HB F : Nat) : Int) - 1)) (T_INFINITY : Tab K mg "INFINITY" (fun F => ((Sp18.top F : Nat) : Int))) (T_SIGN_BIT : Tab K mg "SIGN_BIT" (fun F => ((HB F : Nat) : Int))) (D_add_endless : Def P w K mg base "add_endless" 2 ["f", "a", "b"] sp_add_endless) (D_parts : Def P w K mg base "parts" 1 ["f", "size"] sp_parts) (D_rounded : Def P w K mg base "rounded" 1 ["f", "sign", "m", "power"] sp_rounded) (B_min : mg "min" = none) : FnOk P w K mg base CX0 3 f fd ["f", "a", "b"] sp_add := by
  refine forgetI2 ?_
  refine Fn.ok sc_add (fun vs H Q E h => ?_) (fun cdv A outer s H vs Q E hr h => ?_)
  · obtain ⟨f, a, b, rfl, _⟩ := h; rfl
  · obtain ⟨f, a, b, rfl, hf, ⟨ha0, ha⟩, ⟨hb0, hb⟩, hP, k⟩ := h
    obtain ⟨n, rfl⟩ := Int.eq_ofNat_of_zero_le ha0
    obtain ⟨m, rfl⟩ := Int.eq_ofNat_of_zero_le hb0
    replace ha := toNat_lt ha
    replace hb := toNat_lt hb
    refine ⟨_, (pss_cons (ps_set (i := 3) sc_add.nd rfl (by first | exact Or.inl rfl | exact Or.inr rfl) (pe_op op_and (pv 1) (pe_tab T_SIZE_BITS rfl (pv 0) (fun _ _ => rfl))))
      (pss_cons (ps_set (i := 4) sc_add.nd rfl (by first | exact Or.inl rfl | exact Or.inr rfl) (pe_op op_and (pv 2) (pe_tab T_SIZE_BITS rfl (pv 0) (fun _ _ => rfl))))
      (pss_cons (ps_if (PW.pt (pw_orP (pt_cmpR op_ge (pv 3) (pe_tab T_INFINITY rfl (pv 0) (fun _ _ => rfl)) (nomark _)) (pw_or1 (pt_cmpR op_ge (pv 4) (pe_tab T_INFINITY rfl (pv 0) (fun _ _ => rfl)) (nomark _))))) (pss_one (ps_ret (pe_def D_add_endless rfl (hr.mono (by decide)) pass0 (pa_cons (pv 0) (pa_cons (pv 1) (pa_cons (pv 2) pa_nil)))))) pss_nil)
      (pss_cons (ps_asg (pe_def D_parts rfl (hr.mono (by decide)) pass0 (pa_cons (pv 0) (pa_cons (pv 3) pa_nil))) (pg_pair rfl (pg_name (i := 5) sc_add.nd rfl (by first | exact Or.inl rfl | exact Or.inr rfl)) (pg_name (i := 6) sc_add.nd rfl (by first | exact Or.inl rfl | exact Or.inr rfl))))
      (pss_cons (ps_asg (pe_def D_parts rfl (hr.mono (by decide)) pass0 (pa_cons (pv 0) (pa_cons (pv 4) pa_nil))) (pg_pair rfl (pg_name (i := 7) sc_add.nd rfl (by first | exact Or.inl rfl | exact Or.inr rfl)) (pg_name (i := 8) sc_add.nd rfl (by first | exact Or.inl rfl | exact Or.inr rfl))))
      (pss_cons (ps_set (i := 9) sc_add.nd rfl (by first | exact Or.inl rfl | exact Or.inr rfl) (pe_callB (call_min2 rfl) rfl B_min boot_min (pa_cons (pv 6) (pa_cons (pv 8) pa_nil))))
      (pss_cons (ps_set (i := 5) sc_add.nd rfl (by first | exact Or.inl rfl | exact Or.inr rfl) (pe_op op_shl (pv 5) (pe_op op_sub (pv 6) (pv 9))))
      (pss_cons (ps_set (i := 7) sc_add.nd rfl (by first | exact Or.inl rfl | exact Or.inr rfl) (pe_op op_shl (pv 7) (pe_op op_sub (pv 8) (pv 9))))
      (pss_cons (ps_set (i := 10) sc_add.nd rfl (by first | exact Or.inl rfl | exact Or.inr rfl) (pe_op op_add (pe_ifP (pt_cmpR op_ne (pv 1) (pv 3) (nomark _)) (pe_un un_neg (pv 5)) (pv 5)) (pe_ifP (pt_cmpR op_ne (pv 2) (pv 4) (nomark _)) (pe_un un_neg (pv 7)) (pv 7))))
      (pss_cons (ps_if (pt_cmpR op_eq (pv 10) pe_int (nomark _)) (pss_one (ps_ret (pe_op op_and (pe_op op_and (pv 1) (pv 2)) (pe_tab T_SIGN_BIT rfl (pv 0) (fun _ _ => rfl))))) pss_nil)
      (pss_cons (ps_if (pt_cmpR op_lt (pv 10) pe_int (nomark _)) (pss_one (ps_ret (pe_def D_rounded rfl (hr.mono (by decide)) pass0 (pa_cons (pv 0) (pa_cons (pe_tab T_SIGN_BIT rfl (pv 0) (fun _ _ => rfl)) (pa_cons (pe_un un_neg (pv 10)) (pa_cons (pv 9) pa_nil))))))) pss_nil)
      (pss_one (ps_ret (pe_def D_rounded rfl (hr.mono (by decide)) pass0 (pa_cons (pv 0) (pa_cons pe_int (pa_cons (pv 10) (pa_cons (pv 9) pa_nil)))))))))))))))))), ?_⟩
    rw [show start ["f", "a", "b", "x", "y", "m", "m_power", "n", "n_power", "power", "total"] [V.int f, V.int n, V.int m] = [some (V.int f), some (V.int n), some (V.int m), none, none, none, none, none, none, none, none] from rfl]
    simp only [tSeq, tAsg, gName, tRet, tIfS, tNext, tVar, tC, tOp, tUn, rI, rI0, rU, tTest, tB, tAnd, tOr, tNot, tIf, tCall, tCons, tNil, tCB, tTup, tTab, tOrP, tAndP, tIfP, leibB, leibV, leibBC, leibVC, iteV, iteI, Bool.or_eq_true, Bool.and_eq_true, upd_same, HO.tup.injEq, gTup2, gTupK, gTup, gCons, gNil, rEq, rNe, scal, TruV, tBM0, tyV, tSl3, tSl, tChain, tFld, sFld, tMethD, tMake, tPart, tNoPart, List.append_nil, List.nil_append, List.cons_append, List.set_cons_zero, List.set_cons_succ, List.getElem?_cons_zero, List.getElem?_cons_succ, Option.some.injEq, V.int.injEq, V.bl.injEq, V.ref.injEq, List.cons.injEq, and_assoc, exists_eq_left', exists_eq_left, exists_and_left, and_true, true_and, decide_eq_true_eq, Int.toNat_natCast, hP, Pl.tup, hf, p_size, p_sign, p_xors, p_ands, Int.ofNat_lt, Int.ofNat_le, Int.natCast_inj, Int.natCast_nonneg, Int.natCast_eq_zero, if_true, if_false, Bool.false_eq_true, reduceIte, forall_const, ha, hb, sp_is_nan, spB1, sp_parts, sp_rounded, mag_mag, mag_lt, mag_lt2, sp_add_endless, CPow, lower_py]
    have q : ∀ H1, Same H H1 → Q (.int ((Sp18.add (fmt f) n m : Nat) : Int)) H1 := k
    split
    · next c => exact ⟨c, q H (Same.refl H)⟩
    next c =>
    rw [add_fin2 (by omega) (by omega)] at q
    have hm1 := mant_bd hf.std (mag (fmt f) n)
    have hm2 := mant_bd hf.std (mag (fmt f) m)
    have he1 := expo_bd hf.std (mag_lt (fmt f) n)
    have he2 := expo_bd hf.std (mag_lt (fmt f) m)
    have hpb := p_bd hf.std
    have hlb := least_bd hf.std
    obtain ⟨l1, l2, l3⟩ := lower_le (expo (fmt f) (mag (fmt f) n)) (expo (fmt f) (mag (fmt f) m))
    have htb := total_bd hf.std n m
    rw [total_py2 ha hb]
    intro p1 h1 p2 h2
    have sm := fun (u : HO) => (Same.new h1).trans (Same.new (o := u) h2)
    refine ⟨by omega, by omega, by omega, by omega, by omega, by omega, ?_⟩
    split
    · next c1 => rw [if_pos c1] at q; exact q _ (sm _)
    next c1 =>
    rw [if_neg c1] at q
    split
    · next c2 =>
      rw [if_pos c2] at q
      refine ⟨_, _, true, (signBit_t _).symm, rfl, rfl, by omega, ?_, by omega, by omega, q _ (sm _)⟩
      rw [show (-total (fmt f) n m).toNat = (total (fmt f) n m).natAbs by omega]; omega
    · next c2 =>
      rw [if_neg c2] at q
      refine ⟨_, _, false, by rw [signBit_f]; rfl, rfl, rfl, by omega, ?_, by omega, by omega, q _ (sm _)⟩
      rw [show (total (fmt f) n m).toNat = (total (fmt f) n m).natAbs by omega]; omega
theorem sc_subtract : FnScope ["f", "a", "b"] ["f", "a", "b"] (defScope s_subtract) := ⟨rfl, rfl, rfl, by decide +kernel, rfl, by decide +kernel, by decide +kernel⟩
theorem ok_subtract {f : Addr} {fd : FuncData} (Fn : Fun K "subtract" "subtract" s_subtract f fd) (T_SIGN_BIT : Tab K mg "SIGN_BIT" (fun F => ((HB F : Nat) : Int))) (D_add : Def P w K mg base "add" 3 ["f", "a", "b"] sp_add) : FnOk P w K mg base CX0 4 f fd ["f", "a", "b"] sp_subtract := by
  refine Fn.ok sc_subtract (fun vs H Q E h => ?_) (fun cdv A outer s H vs Q E hr h => ?_)
  · obtain ⟨f, a, b, rfl, _⟩ := h; rfl
  · obtain ⟨f, a, b, rfl, hf, ⟨ha0, ha⟩, ⟨hb0, hb⟩, hP, k⟩ := h
    obtain ⟨n, rfl⟩ := Int.eq_ofNat_of_zero_le ha0
    obtain ⟨m, rfl⟩ := Int.eq_ofNat_of_zero_le hb0
    replace ha := toNat_lt ha
    replace hb := toNat_lt hb
    refine ⟨_, (pss_one (ps_ret (pe_def D_add rfl (hr.mono (by decide)) pass0 (pa_cons (pv 0) (pa_cons (pv 1) (pa_cons (pe_op op_xor (pv 2) (pe_tab T_SIGN_BIT rfl (pv 0) (fun _ _ => rfl))) pa_nil)))))), ?_⟩
    rw [show start ["f", "a", "b"] [V.int f, V.int n, V.int m] = [some (V.int f), some (V.int n), some (V.int m)] from rfl]
    have hxo := p_opp hb
    simp only [tSeq, tAsg, gName, tRet, tIfS, tNext, tVar, tC, tOp, tUn, rI, rI0, rU, tTest, tB, tAnd, tOr, tNot, tIf, tCall, tCons, tNil, tCB, tTup, tTab, tOrP, tAndP, tIfP, leibB, leibV, leibBC, leibVC, iteV, iteI, Bool.or_eq_true, Bool.and_eq_true, upd_same, HO.tup.injEq, gTup2, gTupK, gTup, gCons, gNil, rEq, rNe, scal, TruV, tBM0, tyV, tSl3, tSl, tChain, tFld, sFld, tMethD, tMake, tPart, tNoPart, List.append_nil, List.nil_append, List.cons_append, List.set_cons_zero, List.set_cons_succ, List.getElem?_cons_zero, List.getElem?_cons_succ, Option.some.injEq, V.int.injEq, V.bl.injEq, V.ref.injEq, List.cons.injEq, and_assoc, exists_eq_left', exists_eq_left, exists_and_left, and_true, true_and, decide_eq_true_eq, Int.toNat_natCast, hP, Pl.tup, hf, p_size, p_sign, p_xors, p_ands, Int.ofNat_lt, Int.ofNat_le, Int.natCast_inj, Int.natCast_nonneg, Int.natCast_eq_zero, if_true, if_false, Bool.false_eq_true, reduceIte, forall_const, ha, hb, sp_add, spI2, hxo]
    have q : Q (.int ((Sp18.sub (fmt f) n m : Nat) : Int)) H := k
    rw [sub_eq hf.ok hb] at q
    exact ⟨sign_or_lt _ (mag_lt _ _), q⟩
end
end Wk

set_option linter.all false
set_option Elab.async false
set_option maxRecDepth 100000
set_option maxHeartbeats 4000000
namespace Wk
open PySem PySem.Spec PyProof.Rows L2 Sig
open PySem.W (Codec)
open Sp18Neutral (fmt)
section
variable {P : Program} {w : World} {K : PySem.W.Frag} {mg : Str → Option Value} {base : Heap}
theorem sc_minus : FnScope ["a"] ["a"] (defScope s_minus) := ⟨rfl, rfl, rfl, by decide +kernel, rfl, by decide +kernel, by decide +kernel⟩
theorem ok_minus {f : Addr} {fd : FuncData} (Fn : Fun K "minus" "minus" s_minus f fd) (T_SIGN_BIT : Tab K mg "SIGN_BIT" (fun F => ((HB F : Nat) : Int))) {t_DOUBLE : Nat} (G_DOUBLE : mg "DOUBLE" = some (.int (1) t_DOUBLE)) : FnOk P w K mg base CX0 1 f fd ["a"] sp_minus := by
  refine Fn.ok sc_minus (fun vs H Q E h => ?_) (fun cdv A outer s H vs Q E hr h => ?_)
  · obtain ⟨i, rfl, _⟩ := h; rfl
  · obtain ⟨a, rfl, ha, hP, k⟩ := h
    refine ⟨_, (pss_one (ps_ret (pe_op op_xor (pv 0) (pe_tab T_SIGN_BIT rfl (pe_glob (v := .int (1)) rfl G_DOUBLE ⟨_, rfl⟩) (fun _ _ => rfl))))), ?_⟩
    rw [show start ["a"] [V.int (a : Nat)] = [some (V.int (a : Nat))] from rfl]
    have hxo := p_opp (F := DD) ha.1
    simp only [tSeq, tAsg, gName, tRet, tIfS, tNext, tVar, tC, tOp, tUn, rI, rI0, rU, tTest, tB, tAnd, tOr, tNot, tIf, tCall, tCons, tNil, tCB, tTup, tTab, tOrP, tAndP, tIfP, leibB, leibV, leibBC, leibVC, iteV, iteI, Bool.or_eq_true, Bool.and_eq_true, upd_same, HO.tup.injEq, gTup2, gTupK, gTup, gCons, gNil, rEq, rNe, scal, TruV, tBM0, tyV, tSl3, tSl, tChain, tFld, sFld, tMethD, tMake, tPart, tNoPart, List.append_nil, List.nil_append, List.cons_append, List.set_cons_zero, List.set_cons_succ, List.getElem?_cons_zero, List.getElem?_cons_succ, Option.some.injEq, V.int.injEq, V.bl.injEq, V.ref.injEq, List.cons.injEq, and_assoc, exists_eq_left', exists_eq_left, exists_and_left, and_true, true_and, decide_eq_true_eq, Int.toNat_natCast, hP, Pl.tup, F01_one, F01_zero, fmt_one, fmt_zero, Int.ofNat_lt, Int.ofNat_le, Int.natCast_inj, Int.natCast_nonneg, if_true, if_false, Bool.false_eq_true, reduceIte, forall_const, hxo]
    rw [ok_neg ha]; exact k
theorem sc_quarters_and_rest : FnScope ["n", "j", "q", "r"] ["n", "j"] (defScope s_quarters_and_rest) := ⟨rfl, rfl, rfl, by decide +kernel, rfl, by decide +kernel, by decide +kernel⟩
theorem ok_quarters_and_rest {f : Addr} {fd : FuncData} (Fn : Fun K "quarters_and_rest" "quarters_and_rest" s_quarters_and_rest f fd) (B_divmod : mg "divmod" = none) : FnOk P w K mg base CX0 1 f fd ["n", "j"] sp_quarters_and_rest := by
  refine forgetT ?_
  refine Fn.ok sc_quarters_and_rest (fun vs H Q E h => ?_) (fun cdv A outer s H vs Q E hr h => ?_)
  · obtain ⟨i, rfl, _⟩ := h; rfl
  · obtain ⟨⟨n, j⟩, rfl, ⟨hn0, hn⟩, hP, k⟩ := h
    refine ⟨_, (pss_cons (ps_asg (pe_callB call_divmodB rfl B_divmod boot_divmod (pa_cons (pe_op op_mul pe_int (pv 1)) (pa_cons (pv 0) pa_nil))) (pg_pair rfl (pg_name (i := 2) sc_quarters_and_rest.nd rfl (by first | exact Or.inl rfl | exact Or.inr rfl)) (pg_name (i := 3) sc_quarters_and_rest.nd rfl (by first | exact Or.inl rfl | exact Or.inr rfl))))
      (pss_one (ps_ret (pe_tup (pa_cons (pe_op op_mod (pv 2) pe_int) (pa_cons (pv 3) pa_nil)))))), ?_⟩
    rw [show start ["n", "j", "q", "r"] [V.int (n : Nat), V.int (j : Nat)] = [some (V.int (n : Nat)), some (V.int (j : Nat)), none, none] from rfl]
    simp only [tSeq, tAsg, gName, tRet, tIfS, tNext, tVar, tC, tOp, tUn, rI, rI0, rU, tTest, tB, tAnd, tOr, tNot, tIf, tCall, tCons, tNil, tCB, tTup, tTab, tOrP, tAndP, tIfP, leibB, leibV, leibBC, leibVC, iteV, iteI, Bool.or_eq_true, Bool.and_eq_true, upd_same, HO.tup.injEq, gTup2, gTupK, gTup, gCons, gNil, rEq, rNe, scal, TruV, tBM0, tyV, tSl3, tSl, tChain, tFld, sFld, tMethD, tMake, tPart, tNoPart, List.append_nil, List.nil_append, List.cons_append, List.set_cons_zero, List.set_cons_succ, List.getElem?_cons_zero, List.getElem?_cons_succ, Option.some.injEq, V.int.injEq, V.bl.injEq, V.ref.injEq, List.cons.injEq, and_assoc, exists_eq_left', exists_eq_left, exists_and_left, and_true, true_and, decide_eq_true_eq, Int.toNat_natCast, hP, Pl.tup, F01_one, F01_zero, fmt_one, fmt_zero, Int.ofNat_lt, Int.ofNat_le, Int.natCast_inj, Int.natCast_nonneg, if_true, if_false, Bool.false_eq_true, reduceIte, forall_const, CMul, CDivB]
    refine ⟨.inl ⟨by decide, by decide⟩, (by have : 0 < n := hn0; omega), log2_small hn, fun p hp => ⟨by decide, two_le_line, fun p1 hp1 => k _ p1 ((Same.new hp).trans (Same.new hp1)) (none_of_upd hp1) ?_⟩⟩
    rw [upd_same]
    rfl
theorem sc_angle : FnScope ["r", "n", "share"] ["r", "n"] (defScope s_angle) := ⟨rfl, rfl, rfl, by decide +kernel, rfl, by decide +kernel, by decide +kernel⟩
theorem ok_angle {f : Addr} {fd : FuncData} (Fn : Fun K "angle" "angle" s_angle f fd) (D_divide : Def P w K mg base "divide" 2 ["f", "a", "b"] sp_divide) (D_from_whole : Def P w K mg base "from_whole" 2 ["f", "k"] sp_from_whole) (D_multiply : Def P w K mg base "multiply" 2 ["f", "a", "b"] sp_multiply) {t_DOUBLE : Nat} (G_DOUBLE : mg "DOUBLE" = some (.int (1) t_DOUBLE)) {t_HALF_PI : Nat} (G_HALF_PI : mg "HALF_PI" = some (.int (4609753056924675352) t_HALF_PI)) : FnOk P w K mg base CX0 3 f fd ["r", "n"] sp_angle := by
  refine Fn.ok sc_angle (fun vs H Q E h => ?_) (fun cdv A outer s H vs Q E hr h => ?_)
  · obtain ⟨i, rfl, _⟩ := h; rfl
  · obtain ⟨⟨r, n⟩, rfl, ⟨hr0, hr1, hn0, hn1⟩, hP, k⟩ := h
    dsimp only at hr0 hr1 hn0 hn1
    refine ⟨_, (pss_cons (ps_set (i := 2) sc_angle.nd rfl (by first | exact Or.inl rfl | exact Or.inr rfl) (pe_def D_divide rfl (hr.mono (by decide)) pass0 (pa_cons (pe_glob (v := .int (1)) rfl G_DOUBLE ⟨_, rfl⟩) (pa_cons (pe_def D_from_whole rfl (hr.mono (by decide)) pass0 (pa_cons (pe_glob (v := .int (1)) rfl G_DOUBLE ⟨_, rfl⟩) (pa_cons (pv 0) pa_nil))) (pa_cons (pe_def D_from_whole rfl (hr.mono (by decide)) pass0 (pa_cons (pe_glob (v := .int (1)) rfl G_DOUBLE ⟨_, rfl⟩) (pa_cons (pv 1) pa_nil))) pa_nil)))))
      (pss_one (ps_ret (pe_def D_multiply rfl (hr.mono (by decide)) pass0 (pa_cons (pe_glob (v := .int (1)) rfl G_DOUBLE ⟨_, rfl⟩) (pa_cons (pv 2) (pa_cons (pe_glob (v := .int (4609753056924675352)) rfl G_HALF_PI ⟨_, rfl⟩) pa_nil))))))), ?_⟩
    rw [show start ["r", "n", "share"] [V.int (r : Nat), V.int (n : Nat)] = [some (V.int (r : Nat)), some (V.int (n : Nat)), none] from rfl]
    simp only [tSeq, tAsg, gName, tRet, tIfS, tNext, tVar, tC, tOp, tUn, rI, rI0, rU, tTest, tB, tAnd, tOr, tNot, tIf, tCall, tCons, tNil, tCB, tTup, tTab, tOrP, tAndP, tIfP, leibB, leibV, leibBC, leibVC, iteV, iteI, Bool.or_eq_true, Bool.and_eq_true, upd_same, HO.tup.injEq, gTup2, gTupK, gTup, gCons, gNil, rEq, rNe, scal, TruV, tBM0, tyV, tSl3, tSl, tChain, tFld, sFld, tMethD, tMake, tPart, tNoPart, List.append_nil, List.nil_append, List.cons_append, List.set_cons_zero, List.set_cons_succ, List.getElem?_cons_zero, List.getElem?_cons_succ, Option.some.injEq, V.int.injEq, V.bl.injEq, V.ref.injEq, List.cons.injEq, and_assoc, exists_eq_left', exists_eq_left, exists_and_left, and_true, true_and, decide_eq_true_eq, Int.toNat_natCast, hP, Pl.tup, F01_one, F01_zero, fmt_one, fmt_zero, Int.ofNat_lt, Int.ofNat_le, Int.natCast_inj, Int.natCast_nonneg, if_true, if_false, Bool.false_eq_true, reduceIte, forall_const, sp_from_whole, sp_divide, sp_multiply, spI2]
    exact ⟨by omega, by omega, by omega, by omega, ofInt_lt sD.ok _, ofInt_lt sD.ok _, div_lt sD.ok _ _, by decide, by decide, k⟩
theorem sc_series : FnScope ["terms", "z", "total", "i"] ["terms", "z"] (defScope s_series) := ⟨rfl, rfl, rfl, by decide +kernel, rfl, by decide +kernel, by decide +kernel⟩
theorem ok_series {f : Addr} {fd : FuncData} (Fn : Fun K "series" "series" s_series f fd) (D_add : Def P w K mg base "add" 3 ["f", "a", "b"] sp_add) (D_multiply : Def P w K mg base "multiply" 2 ["f", "a", "b"] sp_multiply) {t_DOUBLE : Nat} (G_DOUBLE : mg "DOUBLE" = some (.int (1) t_DOUBLE)) : FnOk P w K mg base CX0 4 f fd ["terms", "z"] (sp_series K) := by
  refine forgetV ?_
  refine Fn.ok sc_series (fun vs H Q E h => ?_) (fun cdv A outer s H vs Q E hr h => ?_)
  · obtain ⟨i, rfl, _⟩ := h; rfl
  · obtain ⟨⟨p, cs, z⟩, rfl, ⟨hp, hl, hcs, hz⟩, hP, k⟩ := h
    dsimp only at hp hl hcs hz k
    refine ⟨_, (pss_cons (ps_set (i := 2) sc_series.nd rfl (by first | exact Or.inl rfl | exact Or.inr rfl) (pe_ix (ix_tupK (K := K) rfl) (pv 0) pe_int (fun _ _ => rfl)))
      (pss_cons (ps_for PassesOwn.never rfl (pi_tupK (K := K) rfl (pe_tup (pa_cons pe_int (pa_cons pe_int (pa_cons pe_int (pa_cons pe_int (pa_cons pe_int pa_nil))))))) (pg_name (i := 3) sc_series.nd rfl (by first | exact Or.inl rfl | exact Or.inr rfl)) (pss_one (ps_set (i := 2) sc_series.nd rfl (by first | exact Or.inl rfl | exact Or.inr rfl) (pe_def D_add rfl (hr.mono (by decide)) pass0 (pa_cons (pe_glob (v := .int (1)) rfl G_DOUBLE ⟨_, rfl⟩) (pa_cons (pe_ix (ix_tupK (K := K) rfl) (pv 0) (pv 3) (fun _ _ => rfl)) (pa_cons (pe_def D_multiply rfl (hr.mono (by decide)) pass0 (pa_cons (pe_glob (v := .int (1)) rfl G_DOUBLE ⟨_, rfl⟩) (pa_cons (pv 1) (pa_cons (pv 2) pa_nil)))) pa_nil)))))))
      (pss_one (ps_ret (pv 2))))), ?_⟩
    rw [show start ["terms", "z", "total", "i"] [V.ref p, V.int (z : Nat)] = [some (V.ref p), some (V.int (z : Nat)), none, none] from rfl]
    simp only [tSeq, tAsg, gName, tRet, tIfS, tNext, tVar, tC, tOp, tUn, rI, rI0, rU, tTest, tB, tAnd, tOr, tNot, tIf, tCall, tCons, tNil, tCB, tTup, tTab, tOrP, tAndP, tIfP, leibB, leibV, leibBC, leibVC, iteV, iteI, Bool.or_eq_true, Bool.and_eq_true, upd_same, HO.tup.injEq, gTup2, gTupK, gTup, gCons, gNil, rEq, rNe, scal, TruV, tBM0, tyV, tSl3, tSl, tChain, tFld, sFld, tMethD, tMake, tPart, tNoPart, List.append_nil, List.nil_append, List.cons_append, List.set_cons_zero, List.set_cons_succ, List.getElem?_cons_zero, List.getElem?_cons_succ, Option.some.injEq, V.int.injEq, V.bl.injEq, V.ref.injEq, List.cons.injEq, and_assoc, exists_eq_left', exists_eq_left, exists_and_left, and_true, true_and, decide_eq_true_eq, Int.toNat_natCast, hP, Pl.tup, F01_one, F01_zero, fmt_one, fmt_zero, Int.ofNat_lt, Int.ofNat_le, Int.natCast_inj, Int.natCast_nonneg, if_true, if_false, Bool.false_eq_true, reduceIte, forall_const]
    obtain ⟨c0, c1, c2, c3, c4, c5, rfl⟩ := six_of hl
    have hc := fun c h => hcs c h
    simp only [List.mem_cons, List.not_mem_nil, or_false, forall_eq_or_imp, forall_eq] at hc
    obtain ⟨q0, q1, q2, q3, q4, q5⟩ := hc
    refine ⟨p, _, _, _, rfl, rfl, hp, rfl, by show 5 ≤ sizeLine; decide, fun t ht => ⟨t, rfl, ⟨_, SqT.of upd_same⟩, for_tup (K := K) (a := t) (xs := [.int 4, .int 3, .int 2, .int 1, .int 0]) (fun i σ H1 => ∃ v, σ = [some (V.ref p), some (V.int (z : Nat)), some (V.int (Sp18.horner z ([c0, c1, c2, c3, c4, c5].drop (5 - i)) : Nat)), v] ∧ H1 = upd H t (.tup [.int 4, .int 3, .int 2, .int 1, .int 0])) ⟨none, rfl, rfl⟩ (fun i σ H1 _ ⟨_, _, e⟩ => e ▸ SqT.of upd_same) ?_ ?_⟩⟩
    · rintro i x σ H1 ex ⟨v, rfl, rfl⟩
      have hp2 := (Same.new (o := .tup [.int 4, .int 3, .int 2, .int 1, .int 0]) ht).seqT hp
      have hP2 : Pl (upd H t (.tup [.int 4, .int 3, .int 2, .int 1, .int 0])) := hP.tup
      have hi : i < 5 := (List.getElem?_eq_some_iff.mp ex).1
      have hi5 : i = 0 ∨ i = 1 ∨ i = 2 ∨ i = 3 ∨ i = 4 := by omega
      rcases hi5 with rfl | rfl | rfl | rfl | rfl <;> cases ex
      · refine ⟨_, rfl, _, rfl, p, _, _, _, rfl, rfl, hp2, rfl, _, rfl, _, rfl, 1, (z : Int), _, rfl, F01_one, nm_of hz, nm_of q5, hP2, 1, _, _, rfl, F01_one, nm_of q4, nm_of (mul_ltD _ _), hP2, _, rfl, rfl⟩
      · refine ⟨_, rfl, _, rfl, p, _, _, _, rfl, rfl, hp2, rfl, _, rfl, _, rfl, 1, (z : Int), _, rfl, F01_one, nm_of hz, nm_of (add_ltD _ _), hP2, 1, _, _, rfl, F01_one, nm_of q3, nm_of (mul_ltD _ _), hP2, _, rfl, rfl⟩
      · refine ⟨_, rfl, _, rfl, p, _, _, _, rfl, rfl, hp2, rfl, _, rfl, _, rfl, 1, (z : Int), _, rfl, F01_one, nm_of hz, nm_of (add_ltD _ _), hP2, 1, _, _, rfl, F01_one, nm_of q2, nm_of (mul_ltD _ _), hP2, _, rfl, rfl⟩
      · refine ⟨_, rfl, _, rfl, p, _, _, _, rfl, rfl, hp2, rfl, _, rfl, _, rfl, 1, (z : Int), _, rfl, F01_one, nm_of hz, nm_of (add_ltD _ _), hP2, 1, _, _, rfl, F01_one, nm_of q1, nm_of (mul_ltD _ _), hP2, _, rfl, rfl⟩
      · refine ⟨_, rfl, _, rfl, p, _, _, _, rfl, rfl, hp2, rfl, _, rfl, _, rfl, 1, (z : Int), _, rfl, F01_one, nm_of hz, nm_of (add_ltD _ _), hP2, 1, _, _, rfl, F01_one, nm_of q0, nm_of (mul_ltD _ _), hP2, _, rfl, rfl⟩
    · rintro σ H1 ⟨v, rfl, rfl⟩
      exact ⟨_, rfl, k _ (Same.new ht)⟩
theorem sc_small_sine : FnScope ["t", "z", "tail"] ["t"] (defScope s_small_sine) := ⟨rfl, rfl, rfl, by decide +kernel, rfl, by decide +kernel, by decide +kernel⟩
theorem ok_small_sine {f : Addr} {fd : FuncData} (Fn : Fun K "small_sine" "small_sine" s_small_sine f fd) (D_multiply : Def P w K mg base "multiply" 2 ["f", "a", "b"] sp_multiply) (D_series : Def P w K mg base "series" 4 ["terms", "z"] (sp_series K)) (D_add : Def P w K mg base "add" 3 ["f", "a", "b"] sp_add) {t_DOUBLE : Nat} (G_DOUBLE : mg "DOUBLE" = some (.int (1) t_DOUBLE)) {p_SINE_TERMS : Addr} (G_SINE_TERMS : mg "SINE_TERMS" = some (.ref p_SINE_TERMS)) (hS : ∀ H, SqT K H p_SINE_TERMS (Sp18.SINE.map fun n => V.int (n : Nat))) : FnOk P w K mg base CX0 5 f fd ["t"] sp_small_sine := by
  refine Fn.ok sc_small_sine (fun vs H Q E h => ?_) (fun cdv A outer s H vs Q E hr h => ?_)
  · obtain ⟨i, rfl, _⟩ := h; rfl
  · obtain ⟨t, rfl, ht, hP, k⟩ := h
    refine ⟨_, (pss_cons (ps_set (i := 1) sc_small_sine.nd rfl (by first | exact Or.inl rfl | exact Or.inr rfl) (pe_def D_multiply rfl (hr.mono (by decide)) pass0 (pa_cons (pe_glob (v := .int (1)) rfl G_DOUBLE ⟨_, rfl⟩) (pa_cons (pv 0) (pa_cons (pv 0) pa_nil)))))
      (pss_cons (ps_set (i := 2) sc_small_sine.nd rfl (by first | exact Or.inl rfl | exact Or.inr rfl) (pe_def D_multiply rfl (hr.mono (by decide)) pass0 (pa_cons (pe_glob (v := .int (1)) rfl G_DOUBLE ⟨_, rfl⟩) (pa_cons (pe_def D_multiply rfl (hr.mono (by decide)) pass0 (pa_cons (pe_glob (v := .int (1)) rfl G_DOUBLE ⟨_, rfl⟩) (pa_cons (pv 0) (pa_cons (pv 1) pa_nil)))) (pa_cons (pe_def D_series rfl (hr.mono (by decide)) pass0 (pa_cons (pe_glob (v := .ref p_SINE_TERMS) rfl G_SINE_TERMS rfl) (pa_cons (pv 1) pa_nil))) pa_nil)))))
      (pss_one (ps_ret (pe_def D_add rfl (hr.mono (by decide)) pass0 (pa_cons (pe_glob (v := .int (1)) rfl G_DOUBLE ⟨_, rfl⟩) (pa_cons (pv 0) (pa_cons (pv 2) pa_nil)))))))), ?_⟩
    rw [show start ["t", "z", "tail"] [V.int (t : Nat)] = [some (V.int (t : Nat)), none, none] from rfl]
    simp only [tSeq, tAsg, gName, tRet, tIfS, tNext, tVar, tC, tOp, tUn, rI, rI0, rU, tTest, tB, tAnd, tOr, tNot, tIf, tCall, tCons, tNil, tCB, tTup, tTab, tOrP, tAndP, tIfP, leibB, leibV, leibBC, leibVC, iteV, iteI, Bool.or_eq_true, Bool.and_eq_true, upd_same, HO.tup.injEq, gTup2, gTupK, gTup, gCons, gNil, rEq, rNe, scal, TruV, tBM0, tyV, tSl3, tSl, tChain, tFld, sFld, tMethD, tMake, tPart, tNoPart, List.append_nil, List.nil_append, List.cons_append, List.set_cons_zero, List.set_cons_succ, List.getElem?_cons_zero, List.getElem?_cons_succ, Option.some.injEq, V.int.injEq, V.bl.injEq, V.ref.injEq, List.cons.injEq, and_assoc, exists_eq_left', exists_eq_left, exists_and_left, and_true, true_and, decide_eq_true_eq, Int.toNat_natCast, hP, Pl.tup, F01_one, F01_zero, fmt_one, fmt_zero, Int.ofNat_lt, Int.ofNat_le, Int.natCast_inj, Int.natCast_nonneg, if_true, if_false, Bool.false_eq_true, reduceIte, forall_const, sp_multiply, spI2, sp_add]
    refine ⟨ht, ht, ht, mul_ltD _ _, ⟨p_SINE_TERMS, Sp18.SINE, Sp18.mul DD t t⟩, rfl, ⟨hS H, rfl, sine_cs, mul_ltD _ _⟩, hP, _, rfl, mul_ltD _ _, Int.natCast_nonneg _, (nm_of (f := 1) (sine_hlt _)).2, hP, ht, mul_ltD _ _, hP, k⟩
theorem sc_small_cosine : FnScope ["t", "z", "tail"] ["t"] (defScope s_small_cosine) := ⟨rfl, rfl, rfl, by decide +kernel, rfl, by decide +kernel, by decide +kernel⟩
theorem ok_small_cosine {f : Addr} {fd : FuncData} (Fn : Fun K "small_cosine" "small_cosine" s_small_cosine f fd) (D_multiply : Def P w K mg base "multiply" 2 ["f", "a", "b"] sp_multiply) (D_series : Def P w K mg base "series" 4 ["terms", "z"] (sp_series K)) (D_subtract : Def P w K mg base "subtract" 4 ["f", "a", "b"] sp_subtract) {t_DOUBLE : Nat} (G_DOUBLE : mg "DOUBLE" = some (.int (1) t_DOUBLE)) {p_COSINE_TERMS : Addr} (G_COSINE_TERMS : mg "COSINE_TERMS" = some (.ref p_COSINE_TERMS)) {t_ONE_HALF : Nat} (G_ONE_HALF : mg "ONE_HALF" = some (.int (4602678819172646912) t_ONE_HALF)) {t_ONE_WHOLE : Nat} (G_ONE_WHOLE : mg "ONE_WHOLE" = some (.int (4607182418800017408) t_ONE_WHOLE)) (hS : ∀ H, SqT K H p_COSINE_TERMS (Sp18.COSINE.map fun n => V.int (n : Nat))) : FnOk P w K mg base CX0 5 f fd ["t"] sp_small_cosine := by
  refine Fn.ok sc_small_cosine (fun vs H Q E h => ?_) (fun cdv A outer s H vs Q E hr h => ?_)
  · obtain ⟨i, rfl, _⟩ := h; rfl
  · obtain ⟨t, rfl, ht, hP, k⟩ := h
    refine ⟨_, (pss_cons (ps_set (i := 1) sc_small_cosine.nd rfl (by first | exact Or.inl rfl | exact Or.inr rfl) (pe_def D_multiply rfl (hr.mono (by decide)) pass0 (pa_cons (pe_glob (v := .int (1)) rfl G_DOUBLE ⟨_, rfl⟩) (pa_cons (pv 0) (pa_cons (pv 0) pa_nil)))))
      (pss_cons (ps_set (i := 2) sc_small_cosine.nd rfl (by first | exact Or.inl rfl | exact Or.inr rfl) (pe_def D_multiply rfl (hr.mono (by decide)) pass0 (pa_cons (pe_glob (v := .int (1)) rfl G_DOUBLE ⟨_, rfl⟩) (pa_cons (pe_def D_multiply rfl (hr.mono (by decide)) pass0 (pa_cons (pe_glob (v := .int (1)) rfl G_DOUBLE ⟨_, rfl⟩) (pa_cons (pv 1) (pa_cons (pv 1) pa_nil)))) (pa_cons (pe_def D_series rfl (hr.mono (by decide)) pass0 (pa_cons (pe_glob (v := .ref p_COSINE_TERMS) rfl G_COSINE_TERMS rfl) (pa_cons (pv 1) pa_nil))) pa_nil)))))
      (pss_one (ps_ret (pe_def D_subtract rfl (hr.mono (by decide)) pass0 (pa_cons (pe_glob (v := .int (1)) rfl G_DOUBLE ⟨_, rfl⟩) (pa_cons (pe_glob (v := .int (4607182418800017408)) rfl G_ONE_WHOLE ⟨_, rfl⟩) (pa_cons (pe_def D_subtract rfl (hr.mono (by decide)) pass0 (pa_cons (pe_glob (v := .int (1)) rfl G_DOUBLE ⟨_, rfl⟩) (pa_cons (pe_def D_multiply rfl (hr.mono (by decide)) pass0 (pa_cons (pe_glob (v := .int (1)) rfl G_DOUBLE ⟨_, rfl⟩) (pa_cons (pv 1) (pa_cons (pe_glob (v := .int (4602678819172646912)) rfl G_ONE_HALF ⟨_, rfl⟩) pa_nil)))) (pa_cons (pv 2) pa_nil)))) pa_nil)))))))), ?_⟩
    rw [show start ["t", "z", "tail"] [V.int (t : Nat)] = [some (V.int (t : Nat)), none, none] from rfl]
    simp only [tSeq, tAsg, gName, tRet, tIfS, tNext, tVar, tC, tOp, tUn, rI, rI0, rU, tTest, tB, tAnd, tOr, tNot, tIf, tCall, tCons, tNil, tCB, tTup, tTab, tOrP, tAndP, tIfP, leibB, leibV, leibBC, leibVC, iteV, iteI, Bool.or_eq_true, Bool.and_eq_true, upd_same, HO.tup.injEq, gTup2, gTupK, gTup, gCons, gNil, rEq, rNe, scal, TruV, tBM0, tyV, tSl3, tSl, tChain, tFld, sFld, tMethD, tMake, tPart, tNoPart, List.append_nil, List.nil_append, List.cons_append, List.set_cons_zero, List.set_cons_succ, List.getElem?_cons_zero, List.getElem?_cons_succ, Option.some.injEq, V.int.injEq, V.bl.injEq, V.ref.injEq, List.cons.injEq, and_assoc, exists_eq_left', exists_eq_left, exists_and_left, and_true, true_and, decide_eq_true_eq, Int.toNat_natCast, hP, Pl.tup, F01_one, F01_zero, fmt_one, fmt_zero, Int.ofNat_lt, Int.ofNat_le, Int.natCast_inj, Int.natCast_nonneg, if_true, if_false, Bool.false_eq_true, reduceIte, forall_const, sp_multiply, spI2, sp_add, sp_subtract]
    exact ⟨ht, ht, mul_ltD _ _, mul_ltD _ _, ⟨p_COSINE_TERMS, Sp18.COSINE, Sp18.mul DD t t⟩, rfl, ⟨hS H, rfl, cosine_cs, mul_ltD _ _⟩, hP, _, rfl, mul_ltD _ _, Int.natCast_nonneg _, (nm_of (f := 1) (cosine_hlt _)).2, hP, mul_ltD _ _, by decide, by decide, hP, mul_ltD _ _, mul_ltD _ _, hP, by decide, by decide, sub_ltD _ _, hP, k⟩
theorem sc_in_first_quarter : FnScope ["n", "r", "t"] ["n", "r"] (defScope s_in_first_quarter) := ⟨rfl, rfl, rfl, by decide +kernel, rfl, by decide +kernel, by decide +kernel⟩
theorem ok_in_first_quarter {f : Addr} {fd : FuncData} (Fn : Fun K "in_first_quarter" "in_first_quarter" s_in_first_quarter f fd) (D_angle : Def P w K mg base "angle" 3 ["r", "n"] sp_angle) (D_small_sine : Def P w K mg base "small_sine" 5 ["t"] sp_small_sine) (D_small_cosine : Def P w K mg base "small_cosine" 5 ["t"] sp_small_cosine) {t_ROOT_OF_HALF : Nat} (G_ROOT_OF_HALF : mg "ROOT_OF_HALF" = some (.int (4604544271217802189) t_ROOT_OF_HALF)) : FnOk P w K mg base CX0 6 f fd ["n", "r"] sp_in_first_quarter := by
  refine forgetT ?_
  refine Fn.ok sc_in_first_quarter (fun vs H Q E h => ?_) (fun cdv A outer s H vs Q E hr h => ?_)
  · obtain ⟨i, rfl, _⟩ := h; rfl
  · obtain ⟨⟨n, r⟩, rfl, ⟨hr0, hr1, hn⟩, hP, k⟩ := h
    dsimp only at hr0 hr1 hn k
    refine ⟨_, (pss_cons (ps_if (pt_cmpR op_eq (pe_op op_mul pe_int (pv 1)) (pv 0) (nomark _)) (pss_one (ps_ret (pe_tup (pa_cons (pe_glob (v := .int (4604544271217802189)) rfl G_ROOT_OF_HALF ⟨_, rfl⟩) (pa_cons (pe_glob (v := .int (4604544271217802189)) rfl G_ROOT_OF_HALF ⟨_, rfl⟩) pa_nil))))) pss_nil)
      (pss_cons (ps_if (pt_cmpR op_lt (pe_op op_mul pe_int (pv 1)) (pv 0) (nomark _)) (pss_cons (ps_set (i := 2) sc_in_first_quarter.nd rfl (by first | exact Or.inl rfl | exact Or.inr rfl) (pe_def D_angle rfl (hr.mono (by decide)) pass0 (pa_cons (pv 1) (pa_cons (pv 0) pa_nil))))
      (pss_one (ps_ret (pe_tup (pa_cons (pe_def D_small_cosine rfl (hr.mono (by decide)) pass0 (pa_cons (pv 2) pa_nil)) (pa_cons (pe_def D_small_sine rfl (hr.mono (by decide)) pass0 (pa_cons (pv 2) pa_nil)) pa_nil)))))) pss_nil)
      (pss_cons (ps_set (i := 2) sc_in_first_quarter.nd rfl (by first | exact Or.inl rfl | exact Or.inr rfl) (pe_def D_angle rfl (hr.mono (by decide)) pass0 (pa_cons (pe_op op_sub (pv 0) (pv 1)) (pa_cons (pv 0) pa_nil))))
      (pss_one (ps_ret (pe_tup (pa_cons (pe_def D_small_sine rfl (hr.mono (by decide)) pass0 (pa_cons (pv 2) pa_nil)) (pa_cons (pe_def D_small_cosine rfl (hr.mono (by decide)) pass0 (pa_cons (pv 2) pa_nil)) pa_nil)))))))), ?_⟩
    rw [show start ["n", "r", "t"] [V.int (n : Nat), V.int (r : Nat)] = [some (V.int (n : Nat)), some (V.int (r : Nat)), none] from rfl]
    simp only [tSeq, tAsg, gName, tRet, tIfS, tNext, tVar, tC, tOp, tUn, rI, rI0, rU, tTest, tB, tAnd, tOr, tNot, tIf, tCall, tCons, tNil, tCB, tTup, tTab, tOrP, tAndP, tIfP, leibB, leibV, leibBC, leibVC, iteV, iteI, Bool.or_eq_true, Bool.and_eq_true, upd_same, HO.tup.injEq, gTup2, gTupK, gTup, gCons, gNil, rEq, rNe, scal, TruV, tBM0, tyV, tSl3, tSl, tChain, tFld, sFld, tMethD, tMake, tPart, tNoPart, List.append_nil, List.nil_append, List.cons_append, List.set_cons_zero, List.set_cons_succ, List.getElem?_cons_zero, List.getElem?_cons_succ, Option.some.injEq, V.int.injEq, V.bl.injEq, V.ref.injEq, List.cons.injEq, and_assoc, exists_eq_left', exists_eq_left, exists_and_left, and_true, true_and, decide_eq_true_eq, Int.toNat_natCast, hP, Pl.tup, F01_one, F01_zero, fmt_one, fmt_zero, Int.ofNat_lt, Int.ofNat_le, Int.natCast_inj, Int.natCast_nonneg, if_true, if_false, Bool.false_eq_true, reduceIte, forall_const, CMul, sp_angle, sp_small_sine, sp_small_cosine, spV]
    have sl : ∀ r n, Sp18.share r n < 2 * HB DD := fun r n => mul_lt sD.ok _ _
    refine ⟨.inl ⟨by decide, by decide⟩, ?_⟩
    unfold Sp18.within at k
    by_cases c1 : 2 * r = n
    · rw [if_pos (by omega)]; rw [if_pos c1] at k
      exact ⟨two_le_line, fun p hp => k _ p (Same.new hp) hp upd_same⟩
    rw [if_neg (by omega)]; rw [if_neg c1] at k
    refine ⟨.inl ⟨by decide, by decide⟩, ?_⟩
    by_cases c2 : 2 * r < n
    · rw [if_pos (by omega)]; rw [if_pos c2] at k
      exact ⟨(r, n), rfl, rfl, hr0, by show r ≤ 8192; omega, by show 0 < n; omega, hn, sl _ _, sl _ _, two_le_line, fun p hp => k _ p (Same.new hp) hp upd_same⟩
    · rw [if_neg (by omega)]; rw [if_neg c2] at k
      exact ⟨(n - r, n), by show (n : Int) - (r : Int) = ((n - r : Nat) : Int); omega, rfl, by show 0 < n - r; omega, by show n - r ≤ 8192; omega, by show 0 < n; omega, hn, sl _ _, sl _ _, two_le_line, fun p hp => k _ p (Same.new hp) hp upd_same⟩
theorem sc_cosine_and_sine : FnScope ["n", "j", "q", "r", "c", "s"] ["n", "j"] (defScope s_cosine_and_sine) := ⟨rfl, rfl, rfl, by decide +kernel, rfl, by decide +kernel, by decide +kernel⟩
theorem ok_cosine_and_sine {f : Addr} {fd : FuncData} (Fn : Fun K "cosine_and_sine" "cosine_and_sine" s_cosine_and_sine f fd) (D_quarters_and_rest : Def P w K mg base "quarters_and_rest" 1 ["n", "j"] sp_quarters_and_rest) (D_in_first_quarter : Def P w K mg base "in_first_quarter" 6 ["n", "r"] sp_in_first_quarter) (D_minus : Def P w K mg base "minus" 1 ["a"] sp_minus) {p_QUARTERS : Addr} (G_QUARTERS : mg "QUARTERS" = some (.ref p_QUARTERS)) {qs : List Addr} (hQ : ∀ H, SqT K H p_QUARTERS (qs.map V.ref)) (hql : qs.length = 4) (hqs : ∀ H (i : Nat) a, qs[i]? = some a → SqT K H a [.int ((quarter i).1 : Nat), .int ((quarter i).2 : Nat)]) : FnOk P w K mg base CX0 7 f fd ["n", "j"] (sp_cosine_and_sine K) := by
  refine Fn.ok sc_cosine_and_sine (fun vs H Q E h => ?_) (fun cdv A outer s H vs Q E hr h => ?_)
  · obtain ⟨n, j, rfl, _⟩ := h; rfl
  · obtain ⟨n, j, rfl, hn0, hn, hP, k⟩ := h
    refine ⟨_, (pss_cons (ps_asg (pe_def D_quarters_and_rest rfl (hr.mono (by decide)) pass0 (pa_cons (pv 0) (pa_cons (pv 1) pa_nil))) (pg_pair rfl (pg_name (i := 2) sc_cosine_and_sine.nd rfl (by first | exact Or.inl rfl | exact Or.inr rfl)) (pg_name (i := 3) sc_cosine_and_sine.nd rfl (by first | exact Or.inl rfl | exact Or.inr rfl))))
      (pss_cons (ps_if (pt_cmpR op_eq (pv 3) pe_int (nomark _)) (pss_one (ps_ret (pe_ix (ix_tupK (K := K) rfl) (pe_glob (v := .ref p_QUARTERS) rfl G_QUARTERS rfl) (pv 2) (fun _ _ => rfl)))) pss_nil)
      (pss_cons (ps_asg (pe_def D_in_first_quarter rfl (hr.mono (by decide)) pass0 (pa_cons (pv 0) (pa_cons (pv 3) pa_nil))) (pg_pair rfl (pg_name (i := 4) sc_cosine_and_sine.nd rfl (by first | exact Or.inl rfl | exact Or.inr rfl)) (pg_name (i := 5) sc_cosine_and_sine.nd rfl (by first | exact Or.inl rfl | exact Or.inr rfl))))
      (pss_cons (ps_if (pt_cmpR op_eq (pv 2) pe_int (nomark _)) (pss_one (ps_ret (pe_tup (pa_cons (pv 4) (pa_cons (pv 5) pa_nil))))) pss_nil)
      (pss_cons (ps_if (pt_cmpR op_eq (pv 2) pe_int (nomark _)) (pss_one (ps_ret (pe_tup (pa_cons (pe_def D_minus rfl (hr.mono (by decide)) pass0 (pa_cons (pv 5) pa_nil)) (pa_cons (pv 4) pa_nil))))) pss_nil)
      (pss_cons (ps_if (pt_cmpR op_eq (pv 2) pe_int (nomark _)) (pss_one (ps_ret (pe_tup (pa_cons (pe_def D_minus rfl (hr.mono (by decide)) pass0 (pa_cons (pv 4) pa_nil)) (pa_cons (pe_def D_minus rfl (hr.mono (by decide)) pass0 (pa_cons (pv 5) pa_nil)) pa_nil))))) pss_nil)
      (pss_one (ps_ret (pe_tup (pa_cons (pv 5) (pa_cons (pe_def D_minus rfl (hr.mono (by decide)) pass0 (pa_cons (pv 4) pa_nil)) pa_nil))))))))))), ?_⟩
    rw [show start ["n", "j", "q", "r", "c", "s"] [V.int (n : Nat), V.int (j : Nat)] = [some (V.int (n : Nat)), some (V.int (j : Nat)), none, none, none, none] from rfl]
    simp only [tSeq, tAsg, gName, tRet, tIfS, tNext, tVar, tC, tOp, tUn, rI, rI0, rU, tTest, tB, tAnd, tOr, tNot, tIf, tCall, tCons, tNil, tCB, tTup, tTab, tOrP, tAndP, tIfP, leibB, leibV, leibBC, leibVC, iteV, iteI, Bool.or_eq_true, Bool.and_eq_true, upd_same, HO.tup.injEq, gTup2, gTupK, gTup, gCons, gNil, rEq, rNe, scal, TruV, tBM0, tyV, tSl3, tSl, tChain, tFld, sFld, tMethD, tMake, tPart, tNoPart, List.append_nil, List.nil_append, List.cons_append, List.set_cons_zero, List.set_cons_succ, List.getElem?_cons_zero, List.getElem?_cons_succ, Option.some.injEq, V.int.injEq, V.bl.injEq, V.ref.injEq, List.cons.injEq, and_assoc, exists_eq_left', exists_eq_left, exists_and_left, and_true, true_and, decide_eq_true_eq, Int.toNat_natCast, hP, Pl.tup, F01_one, F01_zero, fmt_one, fmt_zero, Int.ofNat_lt, Int.ofNat_le, Int.natCast_inj, Int.natCast_nonneg, if_true, if_false, Bool.false_eq_true, reduceIte, forall_const, sp_quarters_and_rest, sp_in_first_quarter, sp_minus, L2.spT, spV]
    refine ⟨(n, j), rfl, rfl, hn0, hn, fun p hp => ?_⟩
    dsimp only
    rw [angle_eq] at k
    have hr1 := Nat.mod_lt (4 * j) hn0
    have hq4 : 4 * j / n % 4 < 4 := Nat.mod_lt _ (by decide)
    obtain ⟨q, hq⟩ : ∃ q, q = 4 * j / n % 4 := ⟨_, rfl⟩
    obtain ⟨r, hr9⟩ : ∃ r, r = 4 * j % n := ⟨_, rfl⟩
    rw [← hq, ← hr9] at k
    rw [← hq, ← hr9]
    rw [← hq] at hq4
    rw [← hr9] at hr1
    by_cases c : r = 0
    · rw [if_pos (by omega)]
      rw [if_pos c] at k
      have hql2 : q < qs.length := by omega
      exact ⟨p_QUARTERS, _, _, _, rfl, rfl, hQ _, atI_nat (v := V.ref qs[q]) (by rw [List.getElem?_map, List.getElem?_eq_getElem hql2]; rfl), k _ _ (Same.new hp) hP.tup (hqs _ _ _ (List.getElem?_eq_getElem hql2))⟩
    rw [if_neg (by omega)]
    rw [if_neg c] at k
    obtain ⟨w1, w2⟩ := within_ok (n := n) (r := r) (by omega) hr1 hn
    refine ⟨(n, r), rfl, rfl, by show 0 < r; omega, hr1, hn, fun p1 hp1 => ?_⟩
    dsimp only
    by_cases d0 : q = 0
    · rw [if_pos (by omega)]
      rw [if_pos d0] at k
      exact ⟨two_le_line, fun p2 hp2 => k _ p2 (((Same.new hp).trans (Same.new hp1)).trans (Same.new hp2)) hP.tup.tup.tup (SqT.of upd_same)⟩
    rw [if_neg (by omega)]
    rw [if_neg d0] at k
    by_cases d1 : q = 1
    · rw [if_pos (by omega)]
      rw [if_pos d1] at k
      exact ⟨w2, two_le_line, fun p2 hp2 => k _ p2 (((Same.new hp).trans (Same.new hp1)).trans (Same.new hp2)) hP.tup.tup.tup (SqT.of upd_same)⟩
    rw [if_neg (by omega)]
    rw [if_neg d1] at k
    by_cases d2 : q = 2
    · rw [if_pos (by omega)]
      rw [if_pos d2] at k
      exact ⟨w1, w2, two_le_line, fun p2 hp2 => k _ p2 (((Same.new hp).trans (Same.new hp1)).trans (Same.new hp2)) hP.tup.tup.tup (SqT.of upd_same)⟩
    rw [if_neg (by omega)]
    rw [if_neg d2] at k
    exact ⟨w1, two_le_line, fun p2 hp2 => k _ p2 (((Same.new hp).trans (Same.new hp1)).trans (Same.new hp2)) hP.tup.tup.tup (SqT.of upd_same)⟩
theorem sc_cosine : FnScope ["n", "j"] ["n", "j"] (defScope s_cosine) := ⟨rfl, rfl, rfl, by decide +kernel, rfl, by decide +kernel, by decide +kernel⟩
theorem ok_cosine {f : Addr} {fd : FuncData} (Fn : Fun K "cosine" "cosine" s_cosine f fd) (D_cosine_and_sine : Def P w K mg base "cosine_and_sine" 7 ["n", "j"] (sp_cosine_and_sine K)) : FnOk P w K mg base CX0 8 f fd ["n", "j"] sp_cosine := by
  refine forgetV ?_
  refine Fn.ok sc_cosine (fun vs H Q E h => ?_) (fun cdv A outer s H vs Q E hr h => ?_)
  · obtain ⟨i, rfl, _⟩ := h; rfl
  · obtain ⟨⟨n, j⟩, rfl, ⟨hn0, hn⟩, hP, k⟩ := h
    refine ⟨_, (pss_one (ps_ret (pe_ix (ix_tupK (K := K) rfl) (pe_def D_cosine_and_sine rfl (hr.mono (by decide)) pass0 (pa_cons (pv 0) (pa_cons (pv 1) pa_nil))) pe_int (fun _ _ => rfl)))), ?_⟩
    rw [show start ["n", "j"] [V.int (n : Nat), V.int (j : Nat)] = [some (V.int (n : Nat)), some (V.int (j : Nat))] from rfl]
    simp only [tSeq, tAsg, gName, tRet, tIfS, tNext, tVar, tC, tOp, tUn, rI, rI0, rU, tTest, tB, tAnd, tOr, tNot, tIf, tCall, tCons, tNil, tCB, tTup, tTab, tOrP, tAndP, tIfP, leibB, leibV, leibBC, leibVC, iteV, iteI, Bool.or_eq_true, Bool.and_eq_true, upd_same, HO.tup.injEq, gTup2, gTupK, gTup, gCons, gNil, rEq, rNe, scal, TruV, tBM0, tyV, tSl3, tSl, tChain, tFld, sFld, tMethD, tMake, tPart, tNoPart, List.append_nil, List.nil_append, List.cons_append, List.set_cons_zero, List.set_cons_succ, List.getElem?_cons_zero, List.getElem?_cons_succ, Option.some.injEq, V.int.injEq, V.bl.injEq, V.ref.injEq, List.cons.injEq, and_assoc, exists_eq_left', exists_eq_left, exists_and_left, and_true, true_and, decide_eq_true_eq, Int.toNat_natCast, hP, Pl.tup, F01_one, F01_zero, fmt_one, fmt_zero, Int.ofNat_lt, Int.ofNat_le, Int.natCast_inj, Int.natCast_nonneg, if_true, if_false, Bool.false_eq_true, reduceIte, forall_const]
    exact ⟨n, j, rfl, hn0, hn, hP, fun H1 p s1 hP1 hp => ⟨p, _, _, _, rfl, rfl, hp, rfl, k _ s1⟩⟩
end
end Wk

set_option linter.all false
set_option Elab.async false
set_option maxRecDepth 100000
set_option maxHeartbeats 4000000
namespace Wk
open PySem PySem.Spec PyProof.Rows L2 Sig
open PySem.W (Codec)
open Sp18Neutral (fmt)
section
variable {P : Program} {w : World} {K : PySem.W.Frag} {mg : Str → Option Value} {base : Heap}
theorem sc_weight_of_kind_0 : FnScope ["n", "i"] ["n", "i"] (defScope s_weight_of_kind_0) := ⟨rfl, rfl, rfl, by decide +kernel, rfl, by decide +kernel, by decide +kernel⟩
theorem ok_weight_of_kind_0 {f : Addr} {fd : FuncData} (Fn : Fun K "weight_of_kind_0" "weight_of_kind_0" s_weight_of_kind_0 f fd) (D_subtract : Def P w K mg base "subtract" 4 ["f", "a", "b"] sp_subtract) (D_multiply : Def P w K mg base "multiply" 2 ["f", "a", "b"] sp_multiply) (D_cosine : Def P w K mg base "cosine" 8 ["n", "j"] sp_cosine) {t_ONE_HALF : Nat} (G_ONE_HALF : mg "ONE_HALF" = some (.int (4602678819172646912) t_ONE_HALF)) {t_DOUBLE : Nat} (G_DOUBLE : mg "DOUBLE" = some (.int (1) t_DOUBLE)) : FnOk P w K mg base CX0 9 f fd ["n", "i"] sp_weight_of_kind_0 := by
  refine Fn.ok sc_weight_of_kind_0 (fun vs H Q E h => ?_) (fun cdv A outer s H vs Q E hr h => ?_)
  · obtain ⟨i, rfl, _⟩ := h; rfl
  · obtain ⟨⟨n, i⟩, rfl, ⟨hn0, hn⟩, hP, k⟩ := h
    dsimp only at hn0 hn k
    refine ⟨_, (pss_one (ps_ret (pe_def D_subtract rfl (hr.mono (by decide)) pass0 (pa_cons (pe_glob (v := .int (1)) rfl G_DOUBLE ⟨_, rfl⟩) (pa_cons (pe_glob (v := .int (4602678819172646912)) rfl G_ONE_HALF ⟨_, rfl⟩) (pa_cons (pe_def D_multiply rfl (hr.mono (by decide)) pass0 (pa_cons (pe_glob (v := .int (1)) rfl G_DOUBLE ⟨_, rfl⟩) (pa_cons (pe_glob (v := .int (4602678819172646912)) rfl G_ONE_HALF ⟨_, rfl⟩) (pa_cons (pe_def D_cosine rfl (hr.mono (by decide)) pass0 (pa_cons (pv 0) (pa_cons (pv 1) pa_nil))) pa_nil)))) pa_nil)))))), ?_⟩
    rw [show start ["n", "i"] [V.int (n : Nat), V.int (i : Nat)] = [some (V.int (n : Nat)), some (V.int (i : Nat))] from rfl]
    simp only [tSeq, tAsg, gName, tRet, tIfS, tNext, tVar, tC, tOp, tUn, rI, rI0, rU, tTest, tB, tAnd, tOr, tNot, tIf, tCall, tCons, tNil, tCB, tTup, tTab, tOrP, tAndP, tIfP, leibB, leibV, leibBC, leibVC, iteV, iteI, Bool.or_eq_true, Bool.and_eq_true, upd_same, HO.tup.injEq, gTup2, gTupK, gTup, gCons, gNil, rEq, rNe, scal, TruV, tBM0, tyV, tSl3, tSl, tChain, tFld, sFld, tMethD, tMake, tPart, tNoPart, List.append_nil, List.nil_append, List.cons_append, List.set_cons_zero, List.set_cons_succ, List.getElem?_cons_zero, List.getElem?_cons_succ, Option.some.injEq, V.int.injEq, V.bl.injEq, V.ref.injEq, List.cons.injEq, and_assoc, exists_eq_left', exists_eq_left, exists_and_left, and_true, true_and, decide_eq_true_eq, Int.toNat_natCast, hP, Pl.tup, F01_one, F01_zero, fmt_one, fmt_zero, Int.ofNat_lt, Int.ofNat_le, Int.natCast_inj, Int.natCast_nonneg, if_true, if_false, Bool.false_eq_true, reduceIte, forall_const, CMul, sp_cosine, spV, sp_multiply, sp_subtract, sp_add, spI2]
    exact ⟨(n, i), rfl, rfl, hn0, hn, by decide, by decide, (angle_ok hn0 hn).1.1, by decide, by decide, mul_ltD _ _, k⟩
theorem sc_weight_of_kind_1 : FnScope ["n", "i"] ["n", "i"] (defScope s_weight_of_kind_1) := ⟨rfl, rfl, rfl, by decide +kernel, rfl, by decide +kernel, by decide +kernel⟩
theorem ok_weight_of_kind_1 {f : Addr} {fd : FuncData} (Fn : Fun K "weight_of_kind_1" "weight_of_kind_1" s_weight_of_kind_1 f fd) (D_subtract : Def P w K mg base "subtract" 4 ["f", "a", "b"] sp_subtract) (D_multiply : Def P w K mg base "multiply" 2 ["f", "a", "b"] sp_multiply) (D_cosine : Def P w K mg base "cosine" 8 ["n", "j"] sp_cosine) {t_DOUBLE : Nat} (G_DOUBLE : mg "DOUBLE" = some (.int (1) t_DOUBLE)) : FnOk P w K mg base CX0 9 f fd ["n", "i"] sp_weight_of_kind_1 := by
  refine Fn.ok sc_weight_of_kind_1 (fun vs H Q E h => ?_) (fun cdv A outer s H vs Q E hr h => ?_)
  · obtain ⟨i, rfl, _⟩ := h; rfl
  · obtain ⟨⟨n, i⟩, rfl, ⟨hn0, hn⟩, hP, k⟩ := h
    dsimp only at hn0 hn k
    refine ⟨_, (pss_one (ps_ret (pe_def D_subtract rfl (hr.mono (by decide)) pass0 (pa_cons (pe_glob (v := .int (1)) rfl G_DOUBLE ⟨_, rfl⟩) (pa_cons pe_int (pa_cons (pe_def D_multiply rfl (hr.mono (by decide)) pass0 (pa_cons (pe_glob (v := .int (1)) rfl G_DOUBLE ⟨_, rfl⟩) (pa_cons pe_int (pa_cons (pe_def D_cosine rfl (hr.mono (by decide)) pass0 (pa_cons (pv 0) (pa_cons (pv 1) pa_nil))) pa_nil)))) pa_nil)))))), ?_⟩
    rw [show start ["n", "i"] [V.int (n : Nat), V.int (i : Nat)] = [some (V.int (n : Nat)), some (V.int (i : Nat))] from rfl]
    simp only [tSeq, tAsg, gName, tRet, tIfS, tNext, tVar, tC, tOp, tUn, rI, rI0, rU, tTest, tB, tAnd, tOr, tNot, tIf, tCall, tCons, tNil, tCB, tTup, tTab, tOrP, tAndP, tIfP, leibB, leibV, leibBC, leibVC, iteV, iteI, Bool.or_eq_true, Bool.and_eq_true, upd_same, HO.tup.injEq, gTup2, gTupK, gTup, gCons, gNil, rEq, rNe, scal, TruV, tBM0, tyV, tSl3, tSl, tChain, tFld, sFld, tMethD, tMake, tPart, tNoPart, List.append_nil, List.nil_append, List.cons_append, List.set_cons_zero, List.set_cons_succ, List.getElem?_cons_zero, List.getElem?_cons_succ, Option.some.injEq, V.int.injEq, V.bl.injEq, V.ref.injEq, List.cons.injEq, and_assoc, exists_eq_left', exists_eq_left, exists_and_left, and_true, true_and, decide_eq_true_eq, Int.toNat_natCast, hP, Pl.tup, F01_one, F01_zero, fmt_one, fmt_zero, Int.ofNat_lt, Int.ofNat_le, Int.natCast_inj, Int.natCast_nonneg, if_true, if_false, Bool.false_eq_true, reduceIte, forall_const, CMul, sp_cosine, spV, sp_multiply, sp_subtract, sp_add, spI2]
    exact ⟨(n, i), rfl, rfl, hn0, hn, by decide, by decide, (angle_ok hn0 hn).1.1, by decide, by decide, mul_ltD _ _, k⟩
theorem sc_weight_of_kind_2 : FnScope ["n", "i", "first"] ["n", "i"] (defScope s_weight_of_kind_2) := ⟨rfl, rfl, rfl, by decide +kernel, rfl, by decide +kernel, by decide +kernel⟩
theorem ok_weight_of_kind_2 {f : Addr} {fd : FuncData} (Fn : Fun K "weight_of_kind_2" "weight_of_kind_2" s_weight_of_kind_2 f fd) (D_subtract : Def P w K mg base "subtract" 4 ["f", "a", "b"] sp_subtract) (D_multiply : Def P w K mg base "multiply" 2 ["f", "a", "b"] sp_multiply) (D_cosine : Def P w K mg base "cosine" 8 ["n", "j"] sp_cosine) (D_add : Def P w K mg base "add" 3 ["f", "a", "b"] sp_add) {t_ONE_HALF : Nat} (G_ONE_HALF : mg "ONE_HALF" = some (.int (4602678819172646912) t_ONE_HALF)) {t_DOUBLE : Nat} (G_DOUBLE : mg "DOUBLE" = some (.int (1) t_DOUBLE)) : FnOk P w K mg base CX0 9 f fd ["n", "i"] sp_weight_of_kind_2 := by
  refine Fn.ok sc_weight_of_kind_2 (fun vs H Q E h => ?_) (fun cdv A outer s H vs Q E hr h => ?_)
  · obtain ⟨i, rfl, _⟩ := h; rfl
  · obtain ⟨⟨n, i⟩, rfl, ⟨hn0, hn⟩, hP, k⟩ := h
    dsimp only at hn0 hn k
    refine ⟨_, (pss_cons (ps_set (i := 2) sc_weight_of_kind_2.nd rfl (by first | exact Or.inl rfl | exact Or.inr rfl) (pe_def D_subtract rfl (hr.mono (by decide)) pass0 (pa_cons (pe_glob (v := .int (1)) rfl G_DOUBLE ⟨_, rfl⟩) (pa_cons pe_int (pa_cons (pe_def D_multiply rfl (hr.mono (by decide)) pass0 (pa_cons (pe_glob (v := .int (1)) rfl G_DOUBLE ⟨_, rfl⟩) (pa_cons (pe_glob (v := .int (4602678819172646912)) rfl G_ONE_HALF ⟨_, rfl⟩) (pa_cons (pe_def D_cosine rfl (hr.mono (by decide)) pass0 (pa_cons (pv 0) (pa_cons (pv 1) pa_nil))) pa_nil)))) pa_nil)))))
      (pss_one (ps_ret (pe_def D_add rfl (hr.mono (by decide)) pass0 (pa_cons (pe_glob (v := .int (1)) rfl G_DOUBLE ⟨_, rfl⟩) (pa_cons (pv 2) (pa_cons (pe_def D_multiply rfl (hr.mono (by decide)) pass0 (pa_cons (pe_glob (v := .int (1)) rfl G_DOUBLE ⟨_, rfl⟩) (pa_cons pe_int (pa_cons (pe_def D_cosine rfl (hr.mono (by decide)) pass0 (pa_cons (pv 0) (pa_cons (pe_op op_mul pe_int (pv 1)) pa_nil))) pa_nil)))) pa_nil))))))), ?_⟩
    rw [show start ["n", "i", "first"] [V.int (n : Nat), V.int (i : Nat)] = [some (V.int (n : Nat)), some (V.int (i : Nat)), none] from rfl]
    simp only [tSeq, tAsg, gName, tRet, tIfS, tNext, tVar, tC, tOp, tUn, rI, rI0, rU, tTest, tB, tAnd, tOr, tNot, tIf, tCall, tCons, tNil, tCB, tTup, tTab, tOrP, tAndP, tIfP, leibB, leibV, leibBC, leibVC, iteV, iteI, Bool.or_eq_true, Bool.and_eq_true, upd_same, HO.tup.injEq, gTup2, gTupK, gTup, gCons, gNil, rEq, rNe, scal, TruV, tBM0, tyV, tSl3, tSl, tChain, tFld, sFld, tMethD, tMake, tPart, tNoPart, List.append_nil, List.nil_append, List.cons_append, List.set_cons_zero, List.set_cons_succ, List.getElem?_cons_zero, List.getElem?_cons_succ, Option.some.injEq, V.int.injEq, V.bl.injEq, V.ref.injEq, List.cons.injEq, and_assoc, exists_eq_left', exists_eq_left, exists_and_left, and_true, true_and, decide_eq_true_eq, Int.toNat_natCast, hP, Pl.tup, F01_one, F01_zero, fmt_one, fmt_zero, Int.ofNat_lt, Int.ofNat_le, Int.natCast_inj, Int.natCast_nonneg, if_true, if_false, Bool.false_eq_true, reduceIte, forall_const, CMul, sp_cosine, spV, sp_multiply, sp_subtract, sp_add, spI2]
    exact ⟨(n, i), rfl, rfl, hn0, hn, by decide, by decide, (angle_ok hn0 hn).1.1, by decide, by decide, mul_ltD _ _, .inl ⟨by decide, by decide⟩, (n, 2 * i), rfl, rfl, hn0, hn, by decide, by decide, (angle_ok hn0 hn).1.1, sub_ltD _ _, mul_ltD _ _, k⟩
theorem sc_windowed : FnScope ["f", "kind", "row", "weight", "n", "i", "a"] ["f", "kind", "row"] (defScope s_windowed) := ⟨rfl, rfl, rfl, by decide +kernel, rfl, by decide +kernel, by decide +kernel⟩
theorem ok_windowed {f : Addr} {fd : FuncData} (Fn : Fun K "windowed" "windowed" s_windowed f fd) (D_multiply : Def P w K mg base "multiply" 2 ["f", "a", "b"] sp_multiply) (D_of_double : Def P w K mg base "of_double" 4 ["f", "a"] sp_of_double) {p_WEIGHTS : Addr} (G_WEIGHTS : mg "WEIGHTS" = some (.ref p_WEIGHTS)) (B_len : mg "len" = none) (B_enumerate : mg "enumerate" = none) {fs : List Addr} (hT : ∀ H, SqT K H p_WEIGHTS (fs.map V.ref)) (hlen : fs.length = 3) (hFs : ∀ j g, fs[j]? = some g → Held P w K mg base 9 (spW j) g) : FnOk P w K mg base CX0 10 f fd ["f", "kind", "row"] (sp_windowed K) := by
  refine Fn.ok sc_windowed (fun vs H Q E h => ?_) (fun cdv A outer s H vs Q E hr h => ?_)
  · obtain ⟨f, kd, la, a, rfl, _⟩ := h; rfl
  · obtain ⟨f, kd, la, a, rfl, hf, hkd, hP, hx, hl1, hl2, hna, k⟩ := h
    refine ⟨_, (pss_cons (ps_set (i := 3) sc_windowed.nd rfl (by first | exact Or.inl rfl | exact Or.inr rfl) (pe_ix (ix_tupK (K := K) rfl) (pe_glob (v := .ref p_WEIGHTS) rfl G_WEIGHTS rfl) (pv 1) (fun _ _ => rfl)))
      (pss_cons (ps_set (i := 4) sc_windowed.nd rfl (by first | exact Or.inl rfl | exact Or.inr rfl) (pe_callB (call_lenK (K := K) rfl) rfl B_len PySem.boot_len (pa_cons (pv 2) pa_nil)))
      (pss_one (ps_ret (pe_lc (own := [("i", 5), ("a", 6)]) rfl sc_windowed.nd (pi_enum rfl B_enumerate (pa_cons (pv 2) pa_nil)) (blkOk_by rfl) (fun _ _ _ _ _ => (pg_pair rfl (pg_name (i := 5) sc_windowed.nd rfl (by first | exact Or.inl rfl | exact Or.inr rfl)) (pg_name (i := 6) sc_windowed.nd rfl (by first | exact Or.inl rfl | exact Or.inr rfl)))) (fun _ _ _ _ _ => pts_nil) (fun _ _ _ _ _ => (pe_def D_multiply rfl (hr.mono (by decide)) pass0 (pa_cons (pv 0) (pa_cons (pv 6) (pa_cons (pe_def D_of_double rfl (hr.mono (by decide)) pass0 (pa_cons (pv 0) (pa_cons (pe_callL (P := P) (w := w) (K := K) (mg := mg) (base := base) (kk := 9) 3 rfl rfl rfl rfl rfl (hr.mono (by decide)) (pv 3) pass0 (pa_cons (pv 4) (pa_cons (pv 5) pa_nil))) pa_nil))) pa_nil)))))))))), ?_⟩
    rw [show start ["f", "kind", "row", "weight", "n", "i", "a"] [V.int f, V.int (kd : Nat), V.ref la] = [some (V.int f), some (V.int (kd : Nat)), some (V.ref la), none, none, none, none] from rfl]
    simp only [tSeq, tAsg, gName, tRet, tIfS, tNext, tVar, tC, tOp, tUn, rI, rI0, rU, tTest, tB, tAnd, tOr, tNot, tIf, tCall, tCons, tNil, tCB, tTup, tTab, tOrP, tAndP, tIfP, leibB, leibV, leibBC, leibVC, iteV, iteI, Bool.or_eq_true, Bool.and_eq_true, upd_same, HO.tup.injEq, gTup2, gTupK, gTup, gCons, gNil, rEq, rNe, scal, TruV, tBM0, tyV, tSl3, tSl, tChain, tFld, sFld, tMethD, tMake, tPart, tNoPart, List.append_nil, List.nil_append, List.cons_append, List.set_cons_zero, List.set_cons_succ, List.getElem?_cons_zero, List.getElem?_cons_succ, Option.some.injEq, V.int.injEq, V.bl.injEq, V.ref.injEq, List.cons.injEq, and_assoc, exists_eq_left', exists_eq_left, exists_and_left, and_true, true_and, decide_eq_true_eq, Int.toNat_natCast, LenV]
    have hj : kd < fs.length := by omega
    have ej : fs[kd]? = some fs[kd] := List.getElem?_eq_getElem hj
    refine ⟨p_WEIGHTS, _, _, _, rfl, rfl, hT H, atI_nat (v := V.ref fs[kd]) (by rw [List.getElem?_map, ej]; rfl), a.length, .inl ⟨_, hx, by rw [List.length_map]⟩, ?_⟩
    have hwl : (windowOf (fmt f) kd a).length = a.length := by unfold windowOf; rw [List.length_map, List.length_range]
    refine tLc_enum (la := la) ((windowOf (fmt f) kd a).map V.int) (fun R r => ⟨_, rfl, r⟩) hP hx (by rw [List.length_map, List.length_map, hwl]) (line_of_le (by rw [List.length_map]; omega)) ?_ ?_
    · intro i x z T H1 Nx ex ez s1 hP1 hT1 kN
      obtain ⟨u, eu, rfl⟩ := map_at ex
      obtain ⟨t, et, rfl⟩ := map_at ez
      have hi : i < a.length := (List.getElem?_eq_some_iff.mp eu).1
      have e3 : t = ((Sp18.mul (fmt f) u.toNat (Sp18.convert Sp18.double (fmt f) (Sp18.windowAt a.length kd i)) : Nat) : Int) := by
        unfold windowOf at et
        rw [List.getElem?_map, List.getElem?_range hi] at et
        have et2 := (Option.some.inj et).symm
        have e9 : a.getD i 0 = u := by rw [List.getD_eq_getElem?_getD, eu]; rfl
        dsimp only at et2
        rw [e9] at et2
        exact et2
      subst e3
      have ow := windowAt_ok (n := a.length) (i := i) kd hl1 hl2
      refine ⟨T, _, _, rfl, hT1, rfl, _, rfl, _, rfl, _, rfl, fs[kd], rfl, _, hFs kd _ ej, _, rfl, _, rfl, (a.length, i), rfl, ⟨hl1, hl2⟩, hP1, (f, _), rfl, ⟨hf, ow.1, fun _ => ow.2⟩, hP1, f, u, _, rfl, hf, hna u (List.mem_of_getElem? eu), nm_of (conv_lt hf _), hP1, kN⟩
    · intro D H1 s1 hP1 hD
      exact k _ _ s1 hP1 hD
theorem sc_window : FnScope ["f", "kind", "x"] ["f", "kind", "x"] (defScope s_window) := ⟨rfl, rfl, rfl, by decide +kernel, rfl, by decide +kernel, by decide +kernel⟩
theorem ok_window {f : Addr} {fd : FuncData} (Fn : Fun K "window" "window" s_window f fd) (D_windowed : Def P w K mg base "windowed" 10 ["f", "kind", "row"] (sp_windowed K)) {t_LONGEST : Nat} (G_LONGEST : mg "LONGEST" = some (.int (8192) t_LONGEST)) {p_WEIGHTS : Addr} (G_WEIGHTS : mg "WEIGHTS" = some (.ref p_WEIGHTS)) {t_REFUSED : Nat} (G_REFUSED : mg "REFUSED" = some (.int (-2) t_REFUSED)) {t_DONE : Nat} (G_DONE : mg "DONE" = some (.int (0) t_DONE)) (B_len : mg "len" = none) {fs : List Addr} (hT : ∀ H, SqT K H p_WEIGHTS (fs.map V.ref)) (hlen : fs.length = 3) : FnOk P w K mg base CX0 11 f fd ["f", "kind", "x"] (sp_window K) := by
  refine Fn.ok sc_window (fun vs H Q E h => ?_) (fun cdv A outer s H vs Q E hr h => ?_)
  · obtain ⟨f, op, la, a, rfl, _⟩ := h; rfl
  · obtain ⟨f, op, la, a, rfl, hf, hop, hP, hx, hl, hna, k⟩ := h
    obtain ⟨op, rfl⟩ := Int.eq_ofNat_of_zero_le hop
    refine ⟨_, (pss_cons (ps_if (PW.pt (pw_orP (pt_cmpR op_ge (pv 1) (pe_callB (call_lenK (K := K) rfl) rfl B_len PySem.boot_len (pa_cons (pe_glob (v := .ref p_WEIGHTS) rfl G_WEIGHTS rfl) pa_nil)) (nomark _)) (pw_or1 (pt_not (pt_chain op_le op_le pe_int (pe_callB (call_lenK (K := K) rfl) rfl B_len PySem.boot_len (pa_cons (pv 2) pa_nil)) (pe_glob (v := .int (8192)) rfl G_LONGEST ⟨_, rfl⟩)))))) (pss_one (ps_ret (pe_lst (pa_cons (pe_glob (v := .int (-2)) rfl G_REFUSED ⟨_, rfl⟩) pa_nil)))) pss_nil)
      (pss_one (ps_ret (pe_op op_cat (pe_lst (pa_cons (pe_glob (v := .int (0)) rfl G_DONE ⟨_, rfl⟩) pa_nil)) (pe_def D_windowed rfl (hr.mono (by decide)) pass0 (pa_cons (pv 0) (pa_cons (pv 1) (pa_cons (pv 2) pa_nil)))))))), ?_⟩
    rw [show start ["f", "kind", "x"] [V.int f, V.int (op : Nat), V.ref la] = [some (V.int f), some (V.int (op : Nat)), some (V.ref la)] from rfl]
    simp only [tSeq, tAsg, gName, tRet, tIfS, tNext, tVar, tC, tOp, tUn, rI, rI0, rU, tTest, tB, tAnd, tOr, tNot, tIf, tCall, tCons, tNil, tCB, tTup, tTab, tOrP, tAndP, tIfP, leibB, leibV, leibBC, leibVC, iteV, iteI, Bool.or_eq_true, Bool.and_eq_true, upd_same, HO.tup.injEq, gTup2, gTupK, gTup, gCons, gNil, rEq, rNe, scal, TruV, tBM0, tyV, tSl3, tSl, tChain, tFld, sFld, tMethD, tMake, tPart, tNoPart, List.append_nil, List.nil_append, List.cons_append, List.set_cons_zero, List.set_cons_succ, List.getElem?_cons_zero, List.getElem?_cons_succ, Option.some.injEq, V.int.injEq, V.bl.injEq, V.ref.injEq, List.cons.injEq, and_assoc, exists_eq_left', exists_eq_left, exists_and_left, and_true, true_and, decide_eq_true_eq, Int.toNat_natCast, tLst, LenV]
    have hsp := window_spec (f := f) (kind := (op : Int)) (a := a)
    simp only [Int.toNat_natCast] at hsp
    refine ⟨decide (3 ≤ (op : Int)), fun R r => ⟨3, .inr ⟨_, hT H, by rw [List.length_map, hlen]⟩, r⟩, decide (¬ (1 ≤ a.length ∧ a.length ≤ 8192)), fun R r => ⟨a.length, .inl ⟨_, hx, by rw [List.length_map]⟩, ?_⟩, ?_⟩
    · by_cases c1 : 1 ≤ a.length
      · rw [if_pos (by omega)]
        by_cases c2 : a.length ≤ 8192
        · rw [decide_eq_false (by omega)] at r; rw [decide_eq_true (by omega)]; exact r
        · rw [decide_eq_true (by omega)] at r; rw [decide_eq_false (by omega)]; exact r
      · rw [if_neg (by omega)]; rw [decide_eq_true (by omega)] at r; exact r
    by_cases c : op < 3 ∧ (1 ≤ a.length ∧ a.length ≤ 8192)
    · rw [if_pos ⟨⟨by omega, by omega⟩, c.2⟩] at hsp
      rw [if_neg (by rw [decide_eq_true_eq, decide_eq_true_eq]; omega)]
      refine ⟨line_of_le (by decide : 1 ≤ 100000), fun p hp => ⟨f, op, la, a, rfl, hf, c.1, hP.lst, (Same.new hp).seq hx, c.2.1, c.2.2, hna, fun H1 q s1 hP1 hq => ⟨p, q, _, _, rfl, rfl, s1 _ _ upd_same, hq, ?_, fun t ht => k _ t ?_⟩⟩⟩
      · rw [List.length_map, show (windowOf (fmt f) op a).length = a.length by unfold windowOf; rw [List.length_map, List.length_range]]; exact line_of_le (by show 1 + a.length ≤ 100000; omega)
      · rw [upd_same, hsp]; rfl
    · rw [if_neg (by omega)] at hsp
      rw [if_pos (by rw [decide_eq_true_eq, decide_eq_true_eq]; omega)]
      exact ⟨line_of_le (by decide : 1 ≤ 100000), fun p hp => k _ p (by rw [upd_same, hsp]; rfl)⟩
end
end Wk

set_option linter.all false
set_option Elab.async false
set_option maxRecDepth 100000
set_option maxHeartbeats 4000000
namespace Wk
open PySem PySem.Spec PyProof.Rows L2 Sig
open PySem.W (Codec)
open Sp18Neutral (fmt)
theorem all_mk {P : Program} {w : World} {K : PySem.W.Frag} {h : Heap} {mg : Str → Option Value} {fa : Addr} (X : K.In h) (G : h.Ns mainGlobals mg) (hfa : mg "window" = some (.ref fa))
    {p_SIGN_BIT : Addr} {od_SIGN_BIT : Option Addr} {sl_SIGN_BIT : Array (Option Value)} {ta_SIGN_BIT tb_SIGN_BIT nn_SIGN_BIT : Nat} {p_SIZE_BITS : Addr} {od_SIZE_BITS : Option Addr} {sl_SIZE_BITS : Array (Option Value)} {ta_SIZE_BITS tb_SIZE_BITS nn_SIZE_BITS : Nat} {p_INFINITY : Addr} {od_INFINITY : Option Addr} {sl_INFINITY : Array (Option Value)} {ta_INFINITY tb_INFINITY nn_INFINITY : Nat} {p_NAN : Addr} {od_NAN : Option Addr} {sl_NAN : Array (Option Value)} {ta_NAN tb_NAN nn_NAN : Nat} {p_FRACTION_WIDTH : Addr} {od_FRACTION_WIDTH : Option Addr} {sl_FRACTION_WIDTH : Array (Option Value)} {ta_FRACTION_WIDTH tb_FRACTION_WIDTH nn_FRACTION_WIDTH : Nat} {p_HIDDEN_BIT : Addr} {od_HIDDEN_BIT : Option Addr} {sl_HIDDEN_BIT : Array (Option Value)} {ta_HIDDEN_BIT tb_HIDDEN_BIT nn_HIDDEN_BIT : Nat} {p_LEAST_POWER : Addr} {od_LEAST_POWER : Option Addr} {sl_LEAST_POWER : Array (Option Value)} {ta_LEAST_POWER tb_LEAST_POWER nn_LEAST_POWER : Nat} {f_is_nan : Addr} {od_is_nan an_is_nan : Option Addr} {sl_is_nan : Array (Option Value)} {oc_is_nan kV_is_nan dc_is_nan pm_is_nan cd_is_nan ct_is_nan : Value} {f_parts : Addr} {od_parts an_parts : Option Addr} {sl_parts : Array (Option Value)} {oc_parts kV_parts dc_parts pm_parts cd_parts ct_parts : Value} {f_rounded : Addr} {od_rounded an_rounded : Option Addr} {sl_rounded : Array (Option Value)} {oc_rounded kV_rounded dc_rounded pm_rounded cd_rounded ct_rounded : Value} {f_with_rest : Addr} {od_with_rest an_with_rest : Option Addr} {sl_with_rest : Array (Option Value)} {oc_with_rest kV_with_rest dc_with_rest pm_with_rest cd_with_rest ct_with_rest : Value} {f_quarters_and_rest : Addr} {od_quarters_and_rest an_quarters_and_rest : Option Addr} {sl_quarters_and_rest : Array (Option Value)} {oc_quarters_and_rest kV_quarters_and_rest dc_quarters_and_rest pm_quarters_and_rest cd_quarters_and_rest ct_quarters_and_rest : Value} {f_minus : Addr} {od_minus an_minus : Option Addr} {sl_minus : Array (Option Value)} {oc_minus kV_minus dc_minus pm_minus cd_minus ct_minus : Value} {f_add_endless : Addr} {od_add_endless an_add_endless : Option Addr} {sl_add_endless : Array (Option Value)} {oc_add_endless kV_add_endless dc_add_endless pm_add_endless cd_add_endless ct_add_endless : Value} {f_multiply : Addr} {od_multiply an_multiply : Option Addr} {sl_multiply : Array (Option Value)} {oc_multiply kV_multiply dc_multiply pm_multiply cd_multiply ct_multiply : Value} {f_divide : Addr} {od_divide an_divide : Option Addr} {sl_divide : Array (Option Value)} {oc_divide kV_divide dc_divide pm_divide cd_divide ct_divide : Value} {f_in_format : Addr} {od_in_format an_in_format : Option Addr} {sl_in_format : Array (Option Value)} {oc_in_format kV_in_format dc_in_format pm_in_format cd_in_format ct_in_format : Value} {f_from_whole : Addr} {od_from_whole an_from_whole : Option Addr} {sl_from_whole : Array (Option Value)} {oc_from_whole kV_from_whole dc_from_whole pm_from_whole cd_from_whole ct_from_whole : Value} {f_add : Addr} {od_add an_add : Option Addr} {sl_add : Array (Option Value)} {oc_add kV_add dc_add pm_add cd_add ct_add : Value} {f_narrowed : Addr} {od_narrowed an_narrowed : Option Addr} {sl_narrowed : Array (Option Value)} {oc_narrowed kV_narrowed dc_narrowed pm_narrowed cd_narrowed ct_narrowed : Value} {f_angle : Addr} {od_angle an_angle : Option Addr} {sl_angle : Array (Option Value)} {oc_angle kV_angle dc_angle pm_angle cd_angle ct_angle : Value} {f_subtract : Addr} {od_subtract an_subtract : Option Addr} {sl_subtract : Array (Option Value)} {oc_subtract kV_subtract dc_subtract pm_subtract cd_subtract ct_subtract : Value} {f_of_double : Addr} {od_of_double an_of_double : Option Addr} {sl_of_double : Array (Option Value)} {oc_of_double kV_of_double dc_of_double pm_of_double cd_of_double ct_of_double : Value} {f_series : Addr} {od_series an_series : Option Addr} {sl_series : Array (Option Value)} {oc_series kV_series dc_series pm_series cd_series ct_series : Value} {f_small_sine : Addr} {od_small_sine an_small_sine : Option Addr} {sl_small_sine : Array (Option Value)} {oc_small_sine kV_small_sine dc_small_sine pm_small_sine cd_small_sine ct_small_sine : Value} {f_small_cosine : Addr} {od_small_cosine an_small_cosine : Option Addr} {sl_small_cosine : Array (Option Value)} {oc_small_cosine kV_small_cosine dc_small_cosine pm_small_cosine cd_small_cosine ct_small_cosine : Value} {f_in_first_quarter : Addr} {od_in_first_quarter an_in_first_quarter : Option Addr} {sl_in_first_quarter : Array (Option Value)} {oc_in_first_quarter kV_in_first_quarter dc_in_first_quarter pm_in_first_quarter cd_in_first_quarter ct_in_first_quarter : Value} {f_cosine_and_sine : Addr} {od_cosine_and_sine an_cosine_and_sine : Option Addr} {sl_cosine_and_sine : Array (Option Value)} {oc_cosine_and_sine kV_cosine_and_sine dc_cosine_and_sine pm_cosine_and_sine cd_cosine_and_sine ct_cosine_and_sine : Value} {f_cosine : Addr} {od_cosine an_cosine : Option Addr} {sl_cosine : Array (Option Value)} {oc_cosine kV_cosine dc_cosine pm_cosine cd_cosine ct_cosine : Value} {f_weight_of_kind_0 : Addr} {od_weight_of_kind_0 an_weight_of_kind_0 : Option Addr} {sl_weight_of_kind_0 : Array (Option Value)} {oc_weight_of_kind_0 kV_weight_of_kind_0 dc_weight_of_kind_0 pm_weight_of_kind_0 cd_weight_of_kind_0 ct_weight_of_kind_0 : Value} {f_weight_of_kind_1 : Addr} {od_weight_of_kind_1 an_weight_of_kind_1 : Option Addr} {sl_weight_of_kind_1 : Array (Option Value)} {oc_weight_of_kind_1 kV_weight_of_kind_1 dc_weight_of_kind_1 pm_weight_of_kind_1 cd_weight_of_kind_1 ct_weight_of_kind_1 : Value} {f_weight_of_kind_2 : Addr} {od_weight_of_kind_2 an_weight_of_kind_2 : Option Addr} {sl_weight_of_kind_2 : Array (Option Value)} {oc_weight_of_kind_2 kV_weight_of_kind_2 dc_weight_of_kind_2 pm_weight_of_kind_2 cd_weight_of_kind_2 ct_weight_of_kind_2 : Value} {f_windowed : Addr} {od_windowed an_windowed : Option Addr} {sl_windowed : Array (Option Value)} {oc_windowed kV_windowed dc_windowed pm_windowed cd_windowed ct_windowed : Value} {f_window : Addr} {od_window an_window : Option Addr} {sl_window : Array (Option Value)} {oc_window kV_window dc_window pm_window cd_window ct_window : Value} {t_DOUBLE : Nat} {t_ONE_HALF : Nat} {t_ONE_WHOLE : Nat} {t_HALF_PI : Nat} {t_ROOT_OF_HALF : Nat} {t_DONE : Nat} {t_REFUSED : Nat} {t_LONGEST : Nat} {p_WEIGHTS : Addr} {od_WEIGHTS : Option Addr} {sl_WEIGHTS : Array (Option Value)} {nn_WEIGHTS : Nat} {p_SINE_TERMS : Addr} {od_SINE_TERMS : Option Addr} {sl_SINE_TERMS : Array (Option Value)} {nn_SINE_TERMS t_SINE_TERMS_0 t_SINE_TERMS_1 t_SINE_TERMS_2 t_SINE_TERMS_3 t_SINE_TERMS_4 t_SINE_TERMS_5 : Nat} {p_COSINE_TERMS : Addr} {od_COSINE_TERMS : Option Addr} {sl_COSINE_TERMS : Array (Option Value)} {nn_COSINE_TERMS t_COSINE_TERMS_0 t_COSINE_TERMS_1 t_COSINE_TERMS_2 t_COSINE_TERMS_3 t_COSINE_TERMS_4 t_COSINE_TERMS_5 : Nat} {p_QUARTERS : Addr} {od_QUARTERS : Option Addr} {sl_QUARTERS : Array (Option Value)} {nn_QUARTERS : Nat} {q_QUARTERS_0 q_QUARTERS_1 q_QUARTERS_2 q_QUARTERS_3 : Addr} {od_QUARTERS_0 : Option Addr} {sl_QUARTERS_0 : Array (Option Value)} {nn_QUARTERS_0 ta_QUARTERS_0 tb_QUARTERS_0 : Nat} {od_QUARTERS_1 : Option Addr} {sl_QUARTERS_1 : Array (Option Value)} {nn_QUARTERS_1 ta_QUARTERS_1 tb_QUARTERS_1 : Nat} {od_QUARTERS_2 : Option Addr} {sl_QUARTERS_2 : Array (Option Value)} {nn_QUARTERS_2 ta_QUARTERS_2 tb_QUARTERS_2 : Nat} {od_QUARTERS_3 : Option Addr} {sl_QUARTERS_3 : Array (Option Value)} {nn_QUARTERS_3 ta_QUARTERS_3 tb_QUARTERS_3 : Nat}
    (n_SIGN_BIT : PySem.W.nsIn K mainGlobals "SIGN_BIT" = some (some (.ref p_SIGN_BIT)))
    (l_SIGN_BIT : K.lookup p_SIGN_BIT = some ⟨.type "tuple", od_SIGN_BIT, .seq #[.int (2147483648) ta_SIGN_BIT, .int (9223372036854775808) tb_SIGN_BIT] nn_SIGN_BIT, sl_SIGN_BIT⟩)
    (n_SIZE_BITS : PySem.W.nsIn K mainGlobals "SIZE_BITS" = some (some (.ref p_SIZE_BITS)))
    (l_SIZE_BITS : K.lookup p_SIZE_BITS = some ⟨.type "tuple", od_SIZE_BITS, .seq #[.int (2147483647) ta_SIZE_BITS, .int (9223372036854775807) tb_SIZE_BITS] nn_SIZE_BITS, sl_SIZE_BITS⟩)
    (n_INFINITY : PySem.W.nsIn K mainGlobals "INFINITY" = some (some (.ref p_INFINITY)))
    (l_INFINITY : K.lookup p_INFINITY = some ⟨.type "tuple", od_INFINITY, .seq #[.int (2139095040) ta_INFINITY, .int (9218868437227405312) tb_INFINITY] nn_INFINITY, sl_INFINITY⟩)
    (n_NAN : PySem.W.nsIn K mainGlobals "NAN" = some (some (.ref p_NAN)))
    (l_NAN : K.lookup p_NAN = some ⟨.type "tuple", od_NAN, .seq #[.int (2143289344) ta_NAN, .int (9221120237041090560) tb_NAN] nn_NAN, sl_NAN⟩)
    (n_FRACTION_WIDTH : PySem.W.nsIn K mainGlobals "FRACTION_WIDTH" = some (some (.ref p_FRACTION_WIDTH)))
    (l_FRACTION_WIDTH : K.lookup p_FRACTION_WIDTH = some ⟨.type "tuple", od_FRACTION_WIDTH, .seq #[.int (23) ta_FRACTION_WIDTH, .int (52) tb_FRACTION_WIDTH] nn_FRACTION_WIDTH, sl_FRACTION_WIDTH⟩)
    (n_HIDDEN_BIT : PySem.W.nsIn K mainGlobals "HIDDEN_BIT" = some (some (.ref p_HIDDEN_BIT)))
    (l_HIDDEN_BIT : K.lookup p_HIDDEN_BIT = some ⟨.type "tuple", od_HIDDEN_BIT, .seq #[.int (8388608) ta_HIDDEN_BIT, .int (4503599627370496) tb_HIDDEN_BIT] nn_HIDDEN_BIT, sl_HIDDEN_BIT⟩)
    (n_LEAST_POWER : PySem.W.nsIn K mainGlobals "LEAST_POWER" = some (some (.ref p_LEAST_POWER)))
    (l_LEAST_POWER : K.lookup p_LEAST_POWER = some ⟨.type "tuple", od_LEAST_POWER, .seq #[.int (-149) ta_LEAST_POWER, .int (-1074) tb_LEAST_POWER] nn_LEAST_POWER, sl_LEAST_POWER⟩)
    (a_is_nan : PySem.W.nsIn K mainGlobals "is_nan" = some (some (.ref f_is_nan)))
    (l_is_nan : K.lookup f_is_nan = some ⟨oc_is_nan, od_is_nan, .func (PySem.W.fnOf "is_nan" "is_nan" (defArgs s_is_nan) (defBody s_is_nan) (defScope s_is_nan) .none kV_is_nan dc_is_nan pm_is_nan an_is_nan cd_is_nan ct_is_nan), sl_is_nan⟩)
    (c_is_nan : PySem.W.codeIn K cd_is_nan "is_nan" = true)
    (k_is_nan : PySem.W.keepIn K (.ref f_is_nan) = true)
    (a_parts : PySem.W.nsIn K mainGlobals "parts" = some (some (.ref f_parts)))
    (l_parts : K.lookup f_parts = some ⟨oc_parts, od_parts, .func (PySem.W.fnOf "parts" "parts" (defArgs s_parts) (defBody s_parts) (defScope s_parts) .none kV_parts dc_parts pm_parts an_parts cd_parts ct_parts), sl_parts⟩)
    (c_parts : PySem.W.codeIn K cd_parts "parts" = true)
    (k_parts : PySem.W.keepIn K (.ref f_parts) = true)
    (a_rounded : PySem.W.nsIn K mainGlobals "rounded" = some (some (.ref f_rounded)))
    (l_rounded : K.lookup f_rounded = some ⟨oc_rounded, od_rounded, .func (PySem.W.fnOf "rounded" "rounded" (defArgs s_rounded) (defBody s_rounded) (defScope s_rounded) .none kV_rounded dc_rounded pm_rounded an_rounded cd_rounded ct_rounded), sl_rounded⟩)
    (c_rounded : PySem.W.codeIn K cd_rounded "rounded" = true)
    (k_rounded : PySem.W.keepIn K (.ref f_rounded) = true)
    (a_with_rest : PySem.W.nsIn K mainGlobals "with_rest" = some (some (.ref f_with_rest)))
    (l_with_rest : K.lookup f_with_rest = some ⟨oc_with_rest, od_with_rest, .func (PySem.W.fnOf "with_rest" "with_rest" (defArgs s_with_rest) (defBody s_with_rest) (defScope s_with_rest) .none kV_with_rest dc_with_rest pm_with_rest an_with_rest cd_with_rest ct_with_rest), sl_with_rest⟩)
    (c_with_rest : PySem.W.codeIn K cd_with_rest "with_rest" = true)
    (k_with_rest : PySem.W.keepIn K (.ref f_with_rest) = true)
    (a_quarters_and_rest : PySem.W.nsIn K mainGlobals "quarters_and_rest" = some (some (.ref f_quarters_and_rest)))
    (l_quarters_and_rest : K.lookup f_quarters_and_rest = some ⟨oc_quarters_and_rest, od_quarters_and_rest, .func (PySem.W.fnOf "quarters_and_rest" "quarters_and_rest" (defArgs s_quarters_and_rest) (defBody s_quarters_and_rest) (defScope s_quarters_and_rest) .none kV_quarters_and_rest dc_quarters_and_rest pm_quarters_and_rest an_quarters_and_rest cd_quarters_and_rest ct_quarters_and_rest), sl_quarters_and_rest⟩)
    (c_quarters_and_rest : PySem.W.codeIn K cd_quarters_and_rest "quarters_and_rest" = true)
    (k_quarters_and_rest : PySem.W.keepIn K (.ref f_quarters_and_rest) = true)
    (a_minus : PySem.W.nsIn K mainGlobals "minus" = some (some (.ref f_minus)))
    (l_minus : K.lookup f_minus = some ⟨oc_minus, od_minus, .func (PySem.W.fnOf "minus" "minus" (defArgs s_minus) (defBody s_minus) (defScope s_minus) .none kV_minus dc_minus pm_minus an_minus cd_minus ct_minus), sl_minus⟩)
    (c_minus : PySem.W.codeIn K cd_minus "minus" = true)
    (k_minus : PySem.W.keepIn K (.ref f_minus) = true)
    (a_add_endless : PySem.W.nsIn K mainGlobals "add_endless" = some (some (.ref f_add_endless)))
    (l_add_endless : K.lookup f_add_endless = some ⟨oc_add_endless, od_add_endless, .func (PySem.W.fnOf "add_endless" "add_endless" (defArgs s_add_endless) (defBody s_add_endless) (defScope s_add_endless) .none kV_add_endless dc_add_endless pm_add_endless an_add_endless cd_add_endless ct_add_endless), sl_add_endless⟩)
    (c_add_endless : PySem.W.codeIn K cd_add_endless "add_endless" = true)
    (k_add_endless : PySem.W.keepIn K (.ref f_add_endless) = true)
    (a_multiply : PySem.W.nsIn K mainGlobals "multiply" = some (some (.ref f_multiply)))
    (l_multiply : K.lookup f_multiply = some ⟨oc_multiply, od_multiply, .func (PySem.W.fnOf "multiply" "multiply" (defArgs s_multiply) (defBody s_multiply) (defScope s_multiply) .none kV_multiply dc_multiply pm_multiply an_multiply cd_multiply ct_multiply), sl_multiply⟩)
    (c_multiply : PySem.W.codeIn K cd_multiply "multiply" = true)
    (k_multiply : PySem.W.keepIn K (.ref f_multiply) = true)
    (a_divide : PySem.W.nsIn K mainGlobals "divide" = some (some (.ref f_divide)))
    (l_divide : K.lookup f_divide = some ⟨oc_divide, od_divide, .func (PySem.W.fnOf "divide" "divide" (defArgs s_divide) (defBody s_divide) (defScope s_divide) .none kV_divide dc_divide pm_divide an_divide cd_divide ct_divide), sl_divide⟩)
    (c_divide : PySem.W.codeIn K cd_divide "divide" = true)
    (k_divide : PySem.W.keepIn K (.ref f_divide) = true)
    (a_in_format : PySem.W.nsIn K mainGlobals "in_format" = some (some (.ref f_in_format)))
    (l_in_format : K.lookup f_in_format = some ⟨oc_in_format, od_in_format, .func (PySem.W.fnOf "in_format" "in_format" (defArgs s_in_format) (defBody s_in_format) (defScope s_in_format) .none kV_in_format dc_in_format pm_in_format an_in_format cd_in_format ct_in_format), sl_in_format⟩)
    (c_in_format : PySem.W.codeIn K cd_in_format "in_format" = true)
    (k_in_format : PySem.W.keepIn K (.ref f_in_format) = true)
    (a_from_whole : PySem.W.nsIn K mainGlobals "from_whole" = some (some (.ref f_from_whole)))
    (l_from_whole : K.lookup f_from_whole = some ⟨oc_from_whole, od_from_whole, .func (PySem.W.fnOf "from_whole" "from_whole" (defArgs s_from_whole) (defBody s_from_whole) (defScope s_from_whole) .none kV_from_whole dc_from_whole pm_from_whole an_from_whole cd_from_whole ct_from_whole), sl_from_whole⟩)
    (c_from_whole : PySem.W.codeIn K cd_from_whole "from_whole" = true)
    (k_from_whole : PySem.W.keepIn K (.ref f_from_whole) = true)
    (a_add : PySem.W.nsIn K mainGlobals "add" = some (some (.ref f_add)))
    (l_add : K.lookup f_add = some ⟨oc_add, od_add, .func (PySem.W.fnOf "add" "add" (defArgs s_add) (defBody s_add) (defScope s_add) .none kV_add dc_add pm_add an_add cd_add ct_add), sl_add⟩)
    (c_add : PySem.W.codeIn K cd_add "add" = true)
    (k_add : PySem.W.keepIn K (.ref f_add) = true)
    (a_narrowed : PySem.W.nsIn K mainGlobals "narrowed" = some (some (.ref f_narrowed)))
    (l_narrowed : K.lookup f_narrowed = some ⟨oc_narrowed, od_narrowed, .func (PySem.W.fnOf "narrowed" "narrowed" (defArgs s_narrowed) (defBody s_narrowed) (defScope s_narrowed) .none kV_narrowed dc_narrowed pm_narrowed an_narrowed cd_narrowed ct_narrowed), sl_narrowed⟩)
    (c_narrowed : PySem.W.codeIn K cd_narrowed "narrowed" = true)
    (k_narrowed : PySem.W.keepIn K (.ref f_narrowed) = true)
    (a_angle : PySem.W.nsIn K mainGlobals "angle" = some (some (.ref f_angle)))
    (l_angle : K.lookup f_angle = some ⟨oc_angle, od_angle, .func (PySem.W.fnOf "angle" "angle" (defArgs s_angle) (defBody s_angle) (defScope s_angle) .none kV_angle dc_angle pm_angle an_angle cd_angle ct_angle), sl_angle⟩)
    (c_angle : PySem.W.codeIn K cd_angle "angle" = true)
    (k_angle : PySem.W.keepIn K (.ref f_angle) = true)
    (a_subtract : PySem.W.nsIn K mainGlobals "subtract" = some (some (.ref f_subtract)))
    (l_subtract : K.lookup f_subtract = some ⟨oc_subtract, od_subtract, .func (PySem.W.fnOf "subtract" "subtract" (defArgs s_subtract) (defBody s_subtract) (defScope s_subtract) .none kV_subtract dc_subtract pm_subtract an_subtract cd_subtract ct_subtract), sl_subtract⟩)
    (c_subtract : PySem.W.codeIn K cd_subtract "subtract" = true)
    (k_subtract : PySem.W.keepIn K (.ref f_subtract) = true)
    (a_of_double : PySem.W.nsIn K mainGlobals "of_double" = some (some (.ref f_of_double)))
    (l_of_double : K.lookup f_of_double = some ⟨oc_of_double, od_of_double, .func (PySem.W.fnOf "of_double" "of_double" (defArgs s_of_double) (defBody s_of_double) (defScope s_of_double) .none kV_of_double dc_of_double pm_of_double an_of_double cd_of_double ct_of_double), sl_of_double⟩)
    (c_of_double : PySem.W.codeIn K cd_of_double "of_double" = true)
    (k_of_double : PySem.W.keepIn K (.ref f_of_double) = true)
    (a_series : PySem.W.nsIn K mainGlobals "series" = some (some (.ref f_series)))
    (l_series : K.lookup f_series = some ⟨oc_series, od_series, .func (PySem.W.fnOf "series" "series" (defArgs s_series) (defBody s_series) (defScope s_series) .none kV_series dc_series pm_series an_series cd_series ct_series), sl_series⟩)
    (c_series : PySem.W.codeIn K cd_series "series" = true)
    (k_series : PySem.W.keepIn K (.ref f_series) = true)
    (a_small_sine : PySem.W.nsIn K mainGlobals "small_sine" = some (some (.ref f_small_sine)))
    (l_small_sine : K.lookup f_small_sine = some ⟨oc_small_sine, od_small_sine, .func (PySem.W.fnOf "small_sine" "small_sine" (defArgs s_small_sine) (defBody s_small_sine) (defScope s_small_sine) .none kV_small_sine dc_small_sine pm_small_sine an_small_sine cd_small_sine ct_small_sine), sl_small_sine⟩)
    (c_small_sine : PySem.W.codeIn K cd_small_sine "small_sine" = true)
    (k_small_sine : PySem.W.keepIn K (.ref f_small_sine) = true)
    (a_small_cosine : PySem.W.nsIn K mainGlobals "small_cosine" = some (some (.ref f_small_cosine)))
    (l_small_cosine : K.lookup f_small_cosine = some ⟨oc_small_cosine, od_small_cosine, .func (PySem.W.fnOf "small_cosine" "small_cosine" (defArgs s_small_cosine) (defBody s_small_cosine) (defScope s_small_cosine) .none kV_small_cosine dc_small_cosine pm_small_cosine an_small_cosine cd_small_cosine ct_small_cosine), sl_small_cosine⟩)
    (c_small_cosine : PySem.W.codeIn K cd_small_cosine "small_cosine" = true)
    (k_small_cosine : PySem.W.keepIn K (.ref f_small_cosine) = true)
    (a_in_first_quarter : PySem.W.nsIn K mainGlobals "in_first_quarter" = some (some (.ref f_in_first_quarter)))
    (l_in_first_quarter : K.lookup f_in_first_quarter = some ⟨oc_in_first_quarter, od_in_first_quarter, .func (PySem.W.fnOf "in_first_quarter" "in_first_quarter" (defArgs s_in_first_quarter) (defBody s_in_first_quarter) (defScope s_in_first_quarter) .none kV_in_first_quarter dc_in_first_quarter pm_in_first_quarter an_in_first_quarter cd_in_first_quarter ct_in_first_quarter), sl_in_first_quarter⟩)
    (c_in_first_quarter : PySem.W.codeIn K cd_in_first_quarter "in_first_quarter" = true)
    (k_in_first_quarter : PySem.W.keepIn K (.ref f_in_first_quarter) = true)
    (a_cosine_and_sine : PySem.W.nsIn K mainGlobals "cosine_and_sine" = some (some (.ref f_cosine_and_sine)))
    (l_cosine_and_sine : K.lookup f_cosine_and_sine = some ⟨oc_cosine_and_sine, od_cosine_and_sine, .func (PySem.W.fnOf "cosine_and_sine" "cosine_and_sine" (defArgs s_cosine_and_sine) (defBody s_cosine_and_sine) (defScope s_cosine_and_sine) .none kV_cosine_and_sine dc_cosine_and_sine pm_cosine_and_sine an_cosine_and_sine cd_cosine_and_sine ct_cosine_and_sine), sl_cosine_and_sine⟩)
    (c_cosine_and_sine : PySem.W.codeIn K cd_cosine_and_sine "cosine_and_sine" = true)
    (k_cosine_and_sine : PySem.W.keepIn K (.ref f_cosine_and_sine) = true)
    (a_cosine : PySem.W.nsIn K mainGlobals "cosine" = some (some (.ref f_cosine)))
    (l_cosine : K.lookup f_cosine = some ⟨oc_cosine, od_cosine, .func (PySem.W.fnOf "cosine" "cosine" (defArgs s_cosine) (defBody s_cosine) (defScope s_cosine) .none kV_cosine dc_cosine pm_cosine an_cosine cd_cosine ct_cosine), sl_cosine⟩)
    (c_cosine : PySem.W.codeIn K cd_cosine "cosine" = true)
    (k_cosine : PySem.W.keepIn K (.ref f_cosine) = true)
    (a_weight_of_kind_0 : PySem.W.nsIn K mainGlobals "weight_of_kind_0" = some (some (.ref f_weight_of_kind_0)))
    (l_weight_of_kind_0 : K.lookup f_weight_of_kind_0 = some ⟨oc_weight_of_kind_0, od_weight_of_kind_0, .func (PySem.W.fnOf "weight_of_kind_0" "weight_of_kind_0" (defArgs s_weight_of_kind_0) (defBody s_weight_of_kind_0) (defScope s_weight_of_kind_0) .none kV_weight_of_kind_0 dc_weight_of_kind_0 pm_weight_of_kind_0 an_weight_of_kind_0 cd_weight_of_kind_0 ct_weight_of_kind_0), sl_weight_of_kind_0⟩)
    (c_weight_of_kind_0 : PySem.W.codeIn K cd_weight_of_kind_0 "weight_of_kind_0" = true)
    (k_weight_of_kind_0 : PySem.W.keepIn K (.ref f_weight_of_kind_0) = true)
    (a_weight_of_kind_1 : PySem.W.nsIn K mainGlobals "weight_of_kind_1" = some (some (.ref f_weight_of_kind_1)))
    (l_weight_of_kind_1 : K.lookup f_weight_of_kind_1 = some ⟨oc_weight_of_kind_1, od_weight_of_kind_1, .func (PySem.W.fnOf "weight_of_kind_1" "weight_of_kind_1" (defArgs s_weight_of_kind_1) (defBody s_weight_of_kind_1) (defScope s_weight_of_kind_1) .none kV_weight_of_kind_1 dc_weight_of_kind_1 pm_weight_of_kind_1 an_weight_of_kind_1 cd_weight_of_kind_1 ct_weight_of_kind_1), sl_weight_of_kind_1⟩)
    (c_weight_of_kind_1 : PySem.W.codeIn K cd_weight_of_kind_1 "weight_of_kind_1" = true)
    (k_weight_of_kind_1 : PySem.W.keepIn K (.ref f_weight_of_kind_1) = true)
    (a_weight_of_kind_2 : PySem.W.nsIn K mainGlobals "weight_of_kind_2" = some (some (.ref f_weight_of_kind_2)))
    (l_weight_of_kind_2 : K.lookup f_weight_of_kind_2 = some ⟨oc_weight_of_kind_2, od_weight_of_kind_2, .func (PySem.W.fnOf "weight_of_kind_2" "weight_of_kind_2" (defArgs s_weight_of_kind_2) (defBody s_weight_of_kind_2) (defScope s_weight_of_kind_2) .none kV_weight_of_kind_2 dc_weight_of_kind_2 pm_weight_of_kind_2 an_weight_of_kind_2 cd_weight_of_kind_2 ct_weight_of_kind_2), sl_weight_of_kind_2⟩)
    (c_weight_of_kind_2 : PySem.W.codeIn K cd_weight_of_kind_2 "weight_of_kind_2" = true)
    (k_weight_of_kind_2 : PySem.W.keepIn K (.ref f_weight_of_kind_2) = true)
    (a_windowed : PySem.W.nsIn K mainGlobals "windowed" = some (some (.ref f_windowed)))
    (l_windowed : K.lookup f_windowed = some ⟨oc_windowed, od_windowed, .func (PySem.W.fnOf "windowed" "windowed" (defArgs s_windowed) (defBody s_windowed) (defScope s_windowed) .none kV_windowed dc_windowed pm_windowed an_windowed cd_windowed ct_windowed), sl_windowed⟩)
    (c_windowed : PySem.W.codeIn K cd_windowed "windowed" = true)
    (k_windowed : PySem.W.keepIn K (.ref f_windowed) = true)
    (a_window : PySem.W.nsIn K mainGlobals "window" = some (some (.ref f_window)))
    (l_window : K.lookup f_window = some ⟨oc_window, od_window, .func (PySem.W.fnOf "window" "window" (defArgs s_window) (defBody s_window) (defScope s_window) .none kV_window dc_window pm_window an_window cd_window ct_window), sl_window⟩)
    (c_window : PySem.W.codeIn K cd_window "window" = true)
    (k_window : PySem.W.keepIn K (.ref f_window) = true)
    (n_DOUBLE : PySem.W.nsIn K mainGlobals "DOUBLE" = some (some (.int (1) t_DOUBLE)))
    (n_ONE_HALF : PySem.W.nsIn K mainGlobals "ONE_HALF" = some (some (.int (4602678819172646912) t_ONE_HALF)))
    (n_ONE_WHOLE : PySem.W.nsIn K mainGlobals "ONE_WHOLE" = some (some (.int (4607182418800017408) t_ONE_WHOLE)))
    (n_HALF_PI : PySem.W.nsIn K mainGlobals "HALF_PI" = some (some (.int (4609753056924675352) t_HALF_PI)))
    (n_ROOT_OF_HALF : PySem.W.nsIn K mainGlobals "ROOT_OF_HALF" = some (some (.int (4604544271217802189) t_ROOT_OF_HALF)))
    (n_DONE : PySem.W.nsIn K mainGlobals "DONE" = some (some (.int (0) t_DONE)))
    (n_REFUSED : PySem.W.nsIn K mainGlobals "REFUSED" = some (some (.int (-2) t_REFUSED)))
    (n_LONGEST : PySem.W.nsIn K mainGlobals "LONGEST" = some (some (.int (8192) t_LONGEST)))
    (n_WEIGHTS : PySem.W.nsIn K mainGlobals "WEIGHTS" = some (some (.ref p_WEIGHTS)))
    (l_WEIGHTS : K.lookup p_WEIGHTS = some ⟨.type "tuple", od_WEIGHTS, .seq #[.ref f_weight_of_kind_0, .ref f_weight_of_kind_1, .ref f_weight_of_kind_2] nn_WEIGHTS, sl_WEIGHTS⟩)
    (n_SINE_TERMS : PySem.W.nsIn K mainGlobals "SINE_TERMS" = some (some (.ref p_SINE_TERMS)))
    (l_SINE_TERMS : K.lookup p_SINE_TERMS = some ⟨.type "tuple", od_SINE_TERMS, .seq #[.int (13818544856648471881) t_SINE_TERMS_0, .int (4575957461383575718) t_SINE_TERMS_1, .int (13774824197404582357) t_SINE_TERMS_2, .int (4523617212983017085) t_SINE_TERMS_3, .int (13716528393433619691) t_SINE_TERMS_4, .int (4460209850635244924) t_SINE_TERMS_5] nn_SINE_TERMS, sl_SINE_TERMS⟩)
    (n_COSINE_TERMS : PySem.W.nsIn K mainGlobals "COSINE_TERMS" = some (some (.ref p_COSINE_TERMS)))
    (l_COSINE_TERMS : K.lookup p_COSINE_TERMS = some ⟨.type "tuple", od_COSINE_TERMS, .seq #[.int (4586165620538955084) t_COSINE_TERMS_0, .int (13787419979223748983) t_COSINE_TERMS_1, .int (4537941361668330896) t_COSINE_TERMS_2, .int (13732177093731308205) t_COSINE_TERMS_3, .int (4477121870137962948) t_COSINE_TERMS_4, .int (13666448951086692564) t_COSINE_TERMS_5] nn_COSINE_TERMS, sl_COSINE_TERMS⟩)
    (n_QUARTERS : PySem.W.nsIn K mainGlobals "QUARTERS" = some (some (.ref p_QUARTERS)))
    (l_QUARTERS : K.lookup p_QUARTERS = some ⟨.type "tuple", od_QUARTERS, .seq #[.ref q_QUARTERS_0, .ref q_QUARTERS_1, .ref q_QUARTERS_2, .ref q_QUARTERS_3] nn_QUARTERS, sl_QUARTERS⟩)
    (l_QUARTERS_0 : K.lookup q_QUARTERS_0 = some ⟨.type "tuple", od_QUARTERS_0, .seq #[.int (4607182418800017408) ta_QUARTERS_0, .int (0) tb_QUARTERS_0] nn_QUARTERS_0, sl_QUARTERS_0⟩)
    (l_QUARTERS_1 : K.lookup q_QUARTERS_1 = some ⟨.type "tuple", od_QUARTERS_1, .seq #[.int (0) ta_QUARTERS_1, .int (4607182418800017408) tb_QUARTERS_1] nn_QUARTERS_1, sl_QUARTERS_1⟩)
    (l_QUARTERS_2 : K.lookup q_QUARTERS_2 = some ⟨.type "tuple", od_QUARTERS_2, .seq #[.int (13830554455654793216) ta_QUARTERS_2, .int (0) tb_QUARTERS_2] nn_QUARTERS_2, sl_QUARTERS_2⟩)
    (l_QUARTERS_3 : K.lookup q_QUARTERS_3 = some ⟨.type "tuple", od_QUARTERS_3, .seq #[.int (0) ta_QUARTERS_3, .int (13830554455654793216) tb_QUARTERS_3] nn_QUARTERS_3, sl_QUARTERS_3⟩)
    (b_max : PySem.W.nsIn K mainGlobals "max" = some none)
    (b_min : PySem.W.nsIn K mainGlobals "min" = some none)
    (b_divmod : PySem.W.nsIn K mainGlobals "divmod" = some none)
    (b_abs : PySem.W.nsIn K mainGlobals "abs" = some none)
    (b_len : PySem.W.nsIn K mainGlobals "len" = some none)
    (b_enumerate : PySem.W.nsIn K mainGlobals "enumerate" = some none)
    : ∃ fd : FuncData, (∀ (s : Shared) (us : List Value), us.length = (["f", "kind", "x"] : List Str).length → BindsTo s fd ⟨us, []⟩ ((["f", "kind", "x"] : List Str).zip us)) ∧ ∀ base : Heap, K.In base → base.Ns mainGlobals mg → FnOk P w K mg base CX0 11 fa fd ["f", "kind", "x"] (sp_window K) := by
  have e := hfa.symm.trans (PySem.W.mg_of X G a_window)
  cases e
  have T_SIGN_BIT : Tab K mg "SIGN_BIT" (fun F => ((HB F : Nat) : Int)) := tab_mk X G n_SIGN_BIT l_SIGN_BIT (by decide +kernel) (by decide +kernel)
  have T_SIZE_BITS : Tab K mg "SIZE_BITS" (fun F => ((HB F : Nat) : Int) - 1) := tab_mk X G n_SIZE_BITS l_SIZE_BITS (by decide +kernel) (by decide +kernel)
  have T_INFINITY : Tab K mg "INFINITY" (fun F => ((Sp18.top F : Nat) : Int)) := tab_mk X G n_INFINITY l_INFINITY (by decide +kernel) (by decide +kernel)
  have T_NAN : Tab K mg "NAN" (fun F => ((Sp18.NONE F : Nat) : Int)) := tab_mk X G n_NAN l_NAN (by decide +kernel) (by decide +kernel)
  have T_FRACTION_WIDTH : Tab K mg "FRACTION_WIDTH" (fun F => ((F.p - 1 : Nat) : Int)) := tab_mk X G n_FRACTION_WIDTH l_FRACTION_WIDTH (by decide +kernel) (by decide +kernel)
  have T_HIDDEN_BIT : Tab K mg "HIDDEN_BIT" (fun F => ((PW F : Nat) : Int)) := tab_mk X G n_HIDDEN_BIT l_HIDDEN_BIT (by decide +kernel) (by decide +kernel)
  have T_LEAST_POWER : Tab K mg "LEAST_POWER" (fun F => F.least) := tab_mk X G n_LEAST_POWER l_LEAST_POWER (by decide +kernel) (by decide +kernel)
  have hSINE_TERMS : ∀ H, SqT K H p_SINE_TERMS (Sp18.SINE.map fun n => V.int (n : Nat)) := fun H => .inr ⟨_, _, _, l_SINE_TERMS, rfl, rfl, line_of_le (by decide : 6 ≤ 100000), (.cons ⟨_, rfl⟩ (.cons ⟨_, rfl⟩ (.cons ⟨_, rfl⟩ (.cons ⟨_, rfl⟩ (.cons ⟨_, rfl⟩ (.cons ⟨_, rfl⟩ .nil))))))⟩
  have hCOSINE_TERMS : ∀ H, SqT K H p_COSINE_TERMS (Sp18.COSINE.map fun n => V.int (n : Nat)) := fun H => .inr ⟨_, _, _, l_COSINE_TERMS, rfl, rfl, line_of_le (by decide : 6 ≤ 100000), (.cons ⟨_, rfl⟩ (.cons ⟨_, rfl⟩ (.cons ⟨_, rfl⟩ (.cons ⟨_, rfl⟩ (.cons ⟨_, rfl⟩ (.cons ⟨_, rfl⟩ .nil))))))⟩
  have hQUARTERS := ftab_sq (fs := [q_QUARTERS_0, q_QUARTERS_1, q_QUARTERS_2, q_QUARTERS_3]) l_QUARTERS rfl (by simp)
  have hQUARTERSi : ∀ (H : Hp) (i : Nat) a, [q_QUARTERS_0, q_QUARTERS_1, q_QUARTERS_2, q_QUARTERS_3][i]? = some a → SqT K H a [.int ((quarter i).1 : Nat), .int ((quarter i).2 : Nat)] := fun H i a e => match i, e with
    | 0, e => by cases e; exact .inr ⟨_, _, _, l_QUARTERS_0, rfl, rfl, two_le_line, .cons ⟨_, rfl⟩ (.cons ⟨_, rfl⟩ .nil)⟩
    | 1, e => by cases e; exact .inr ⟨_, _, _, l_QUARTERS_1, rfl, rfl, two_le_line, .cons ⟨_, rfl⟩ (.cons ⟨_, rfl⟩ .nil)⟩
    | 2, e => by cases e; exact .inr ⟨_, _, _, l_QUARTERS_2, rfl, rfl, two_le_line, .cons ⟨_, rfl⟩ (.cons ⟨_, rfl⟩ .nil)⟩
    | 3, e => by cases e; exact .inr ⟨_, _, _, l_QUARTERS_3, rfl, rfl, two_le_line, .cons ⟨_, rfl⟩ (.cons ⟨_, rfl⟩ .nil)⟩
    | (n + 4), e => by simp at e
  have F_is_nan := fun_mk (st := s_is_nan) l_is_nan c_is_nan k_is_nan
  have bi_is_nan := F_is_nan.binds (ps := ["f", "a"]) fun _ _ _ _ _ _ us hl => match us, hl with | [_, _], _ => rfl
  have F_parts := fun_mk (st := s_parts) l_parts c_parts k_parts
  have bi_parts := F_parts.binds (ps := ["f", "size"]) fun _ _ _ _ _ _ us hl => match us, hl with | [_, _], _ => rfl
  have F_rounded := fun_mk (st := s_rounded) l_rounded c_rounded k_rounded
  have bi_rounded := F_rounded.binds (ps := ["f", "sign", "m", "power"]) fun _ _ _ _ _ _ us hl => match us, hl with | [_, _, _, _], _ => rfl
  have F_with_rest := fun_mk (st := s_with_rest) l_with_rest c_with_rest k_with_rest
  have bi_with_rest := F_with_rest.binds (ps := ["m", "rest"]) fun _ _ _ _ _ _ us hl => match us, hl with | [_, _], _ => rfl
  have F_quarters_and_rest := fun_mk (st := s_quarters_and_rest) l_quarters_and_rest c_quarters_and_rest k_quarters_and_rest
  have bi_quarters_and_rest := F_quarters_and_rest.binds (ps := ["n", "j"]) fun _ _ _ _ _ _ us hl => match us, hl with | [_, _], _ => rfl
  have F_minus := fun_mk (st := s_minus) l_minus c_minus k_minus
  have bi_minus := F_minus.binds (ps := ["a"]) fun _ _ _ _ _ _ us hl => match us, hl with | [_], _ => rfl
  have F_add_endless := fun_mk (st := s_add_endless) l_add_endless c_add_endless k_add_endless
  have bi_add_endless := F_add_endless.binds (ps := ["f", "a", "b"]) fun _ _ _ _ _ _ us hl => match us, hl with | [_, _, _], _ => rfl
  have F_multiply := fun_mk (st := s_multiply) l_multiply c_multiply k_multiply
  have bi_multiply := F_multiply.binds (ps := ["f", "a", "b"]) fun _ _ _ _ _ _ us hl => match us, hl with | [_, _, _], _ => rfl
  have F_divide := fun_mk (st := s_divide) l_divide c_divide k_divide
  have bi_divide := F_divide.binds (ps := ["f", "a", "b"]) fun _ _ _ _ _ _ us hl => match us, hl with | [_, _, _], _ => rfl
  have F_in_format := fun_mk (st := s_in_format) l_in_format c_in_format k_in_format
  have bi_in_format := F_in_format.binds (ps := ["g", "f", "a"]) fun _ _ _ _ _ _ us hl => match us, hl with | [_, _, _], _ => rfl
  have F_from_whole := fun_mk (st := s_from_whole) l_from_whole c_from_whole k_from_whole
  have bi_from_whole := F_from_whole.binds (ps := ["f", "k"]) fun _ _ _ _ _ _ us hl => match us, hl with | [_, _], _ => rfl
  have F_add := fun_mk (st := s_add) l_add c_add k_add
  have bi_add := F_add.binds (ps := ["f", "a", "b"]) fun _ _ _ _ _ _ us hl => match us, hl with | [_, _, _], _ => rfl
  have F_narrowed := fun_mk (st := s_narrowed) l_narrowed c_narrowed k_narrowed
  have bi_narrowed := F_narrowed.binds (ps := ["a"]) fun _ _ _ _ _ _ us hl => match us, hl with | [_], _ => rfl
  have F_angle := fun_mk (st := s_angle) l_angle c_angle k_angle
  have bi_angle := F_angle.binds (ps := ["r", "n"]) fun _ _ _ _ _ _ us hl => match us, hl with | [_, _], _ => rfl
  have F_subtract := fun_mk (st := s_subtract) l_subtract c_subtract k_subtract
  have bi_subtract := F_subtract.binds (ps := ["f", "a", "b"]) fun _ _ _ _ _ _ us hl => match us, hl with | [_, _, _], _ => rfl
  have F_of_double := fun_mk (st := s_of_double) l_of_double c_of_double k_of_double
  have bi_of_double := F_of_double.binds (ps := ["f", "a"]) fun _ _ _ _ _ _ us hl => match us, hl with | [_, _], _ => rfl
  have F_series := fun_mk (st := s_series) l_series c_series k_series
  have bi_series := F_series.binds (ps := ["terms", "z"]) fun _ _ _ _ _ _ us hl => match us, hl with | [_, _], _ => rfl
  have F_small_sine := fun_mk (st := s_small_sine) l_small_sine c_small_sine k_small_sine
  have bi_small_sine := F_small_sine.binds (ps := ["t"]) fun _ _ _ _ _ _ us hl => match us, hl with | [_], _ => rfl
  have F_small_cosine := fun_mk (st := s_small_cosine) l_small_cosine c_small_cosine k_small_cosine
  have bi_small_cosine := F_small_cosine.binds (ps := ["t"]) fun _ _ _ _ _ _ us hl => match us, hl with | [_], _ => rfl
  have F_in_first_quarter := fun_mk (st := s_in_first_quarter) l_in_first_quarter c_in_first_quarter k_in_first_quarter
  have bi_in_first_quarter := F_in_first_quarter.binds (ps := ["n", "r"]) fun _ _ _ _ _ _ us hl => match us, hl with | [_, _], _ => rfl
  have F_cosine_and_sine := fun_mk (st := s_cosine_and_sine) l_cosine_and_sine c_cosine_and_sine k_cosine_and_sine
  have bi_cosine_and_sine := F_cosine_and_sine.binds (ps := ["n", "j"]) fun _ _ _ _ _ _ us hl => match us, hl with | [_, _], _ => rfl
  have F_cosine := fun_mk (st := s_cosine) l_cosine c_cosine k_cosine
  have bi_cosine := F_cosine.binds (ps := ["n", "j"]) fun _ _ _ _ _ _ us hl => match us, hl with | [_, _], _ => rfl
  have F_weight_of_kind_0 := fun_mk (st := s_weight_of_kind_0) l_weight_of_kind_0 c_weight_of_kind_0 k_weight_of_kind_0
  have bi_weight_of_kind_0 := F_weight_of_kind_0.binds (ps := ["n", "i"]) fun _ _ _ _ _ _ us hl => match us, hl with | [_, _], _ => rfl
  have F_weight_of_kind_1 := fun_mk (st := s_weight_of_kind_1) l_weight_of_kind_1 c_weight_of_kind_1 k_weight_of_kind_1
  have bi_weight_of_kind_1 := F_weight_of_kind_1.binds (ps := ["n", "i"]) fun _ _ _ _ _ _ us hl => match us, hl with | [_, _], _ => rfl
  have F_weight_of_kind_2 := fun_mk (st := s_weight_of_kind_2) l_weight_of_kind_2 c_weight_of_kind_2 k_weight_of_kind_2
  have bi_weight_of_kind_2 := F_weight_of_kind_2.binds (ps := ["n", "i"]) fun _ _ _ _ _ _ us hl => match us, hl with | [_, _], _ => rfl
  have F_windowed := fun_mk (st := s_windowed) l_windowed c_windowed k_windowed
  have bi_windowed := F_windowed.binds (ps := ["f", "kind", "row"]) fun _ _ _ _ _ _ us hl => match us, hl with | [_, _, _], _ => rfl
  have F_window := fun_mk (st := s_window) l_window c_window k_window
  refine ⟨PySem.W.fnOf "window" "window" (defArgs s_window) (defBody s_window) (defScope s_window) .none kV_window dc_window pm_window an_window cd_window ct_window, fun s us hu => match us, hu with | [_, _, _], _ => .of_eq rfl, fun base KB GB => ?_⟩
  have O_is_nan := ok_is_nan (P := P) (w := w) (mg := mg) (base := base) F_is_nan T_SIZE_BITS T_INFINITY
  have D_is_nan := def_mk O_is_nan (PySem.W.mg_of X G a_is_nan) k_is_nan bi_is_nan
  have O_parts := ok_parts (P := P) (w := w) (mg := mg) (base := base) F_parts T_FRACTION_WIDTH T_LEAST_POWER T_HIDDEN_BIT
  have D_parts := def_mk O_parts (PySem.W.mg_of X G a_parts) k_parts bi_parts
  have O_rounded := ok_rounded (P := P) (w := w) (mg := mg) (base := base) F_rounded T_LEAST_POWER T_FRACTION_WIDTH T_INFINITY (PySem.W.mg_none_of X G b_max) (PySem.W.mg_none_of X G b_min)
  have D_rounded := def_mk O_rounded (PySem.W.mg_of X G a_rounded) k_rounded bi_rounded
  have O_with_rest := ok_with_rest (P := P) (w := w) (mg := mg) (base := base) F_with_rest 
  have D_with_rest := def_mk O_with_rest (PySem.W.mg_of X G a_with_rest) k_with_rest bi_with_rest
  have O_quarters_and_rest := ok_quarters_and_rest (P := P) (w := w) (mg := mg) (base := base) F_quarters_and_rest (PySem.W.mg_none_of X G b_divmod)
  have D_quarters_and_rest := def_mk O_quarters_and_rest (PySem.W.mg_of X G a_quarters_and_rest) k_quarters_and_rest bi_quarters_and_rest
  have O_minus := ok_minus (P := P) (w := w) (mg := mg) (base := base) F_minus T_SIGN_BIT (PySem.W.mg_of X G n_DOUBLE)
  have D_minus := def_mk O_minus (PySem.W.mg_of X G a_minus) k_minus bi_minus
  have O_add_endless := ok_add_endless (P := P) (w := w) (mg := mg) (base := base) F_add_endless T_NAN T_SIZE_BITS T_INFINITY T_SIGN_BIT D_is_nan
  have D_add_endless := def_mk O_add_endless (PySem.W.mg_of X G a_add_endless) k_add_endless bi_add_endless
  have O_multiply := ok_multiply (P := P) (w := w) (mg := mg) (base := base) F_multiply T_SIGN_BIT T_SIZE_BITS T_INFINITY T_NAN D_is_nan D_parts D_rounded
  have D_multiply := def_mk O_multiply (PySem.W.mg_of X G a_multiply) k_multiply bi_multiply
  have O_divide := ok_divide (P := P) (w := w) (mg := mg) (base := base) F_divide T_SIGN_BIT T_SIZE_BITS T_NAN T_INFINITY T_FRACTION_WIDTH D_is_nan D_parts D_rounded D_with_rest (PySem.W.mg_none_of X G b_divmod)
  have D_divide := def_mk O_divide (PySem.W.mg_of X G a_divide) k_divide bi_divide
  have O_in_format := ok_in_format (P := P) (w := w) (mg := mg) (base := base) F_in_format T_NAN T_SIZE_BITS T_SIGN_BIT T_INFINITY D_is_nan D_parts D_rounded
  have D_in_format := def_mk O_in_format (PySem.W.mg_of X G a_in_format) k_in_format bi_in_format
  have O_from_whole := ok_from_whole (P := P) (w := w) (mg := mg) (base := base) F_from_whole T_SIGN_BIT D_rounded (PySem.W.mg_none_of X G b_abs)
  have D_from_whole := def_mk O_from_whole (PySem.W.mg_of X G a_from_whole) k_from_whole bi_from_whole
  have O_add := ok_add (P := P) (w := w) (mg := mg) (base := base) F_add T_SIZE_BITS T_INFINITY T_SIGN_BIT D_add_endless D_parts D_rounded (PySem.W.mg_none_of X G b_min)
  have D_add := def_mk O_add (PySem.W.mg_of X G a_add) k_add bi_add
  have O_narrowed := ok_narrowed (P := P) (w := w) (mg := mg) (base := base) F_narrowed D_in_format
  have D_narrowed := def_mk O_narrowed (PySem.W.mg_of X G a_narrowed) k_narrowed bi_narrowed
  have O_angle := ok_angle (P := P) (w := w) (mg := mg) (base := base) F_angle D_divide D_from_whole D_multiply (PySem.W.mg_of X G n_DOUBLE) (PySem.W.mg_of X G n_HALF_PI)
  have D_angle := def_mk O_angle (PySem.W.mg_of X G a_angle) k_angle bi_angle
  have O_subtract := ok_subtract (P := P) (w := w) (mg := mg) (base := base) F_subtract T_SIGN_BIT D_add
  have D_subtract := def_mk O_subtract (PySem.W.mg_of X G a_subtract) k_subtract bi_subtract
  have O_of_double := ok_of_double (P := P) (w := w) (mg := mg) (base := base) F_of_double D_narrowed
  have D_of_double := def_mk O_of_double (PySem.W.mg_of X G a_of_double) k_of_double bi_of_double
  have O_series := ok_series (P := P) (w := w) (mg := mg) (base := base) F_series D_add D_multiply (PySem.W.mg_of X G n_DOUBLE)
  have D_series := def_mk O_series (PySem.W.mg_of X G a_series) k_series bi_series
  have O_small_sine := ok_small_sine (P := P) (w := w) (mg := mg) (base := base) F_small_sine D_multiply D_series D_add (PySem.W.mg_of X G n_DOUBLE) (PySem.W.mg_of X G n_SINE_TERMS) hSINE_TERMS
  have D_small_sine := def_mk O_small_sine (PySem.W.mg_of X G a_small_sine) k_small_sine bi_small_sine
  have O_small_cosine := ok_small_cosine (P := P) (w := w) (mg := mg) (base := base) F_small_cosine D_multiply D_series D_subtract (PySem.W.mg_of X G n_DOUBLE) (PySem.W.mg_of X G n_COSINE_TERMS) (PySem.W.mg_of X G n_ONE_HALF) (PySem.W.mg_of X G n_ONE_WHOLE) hCOSINE_TERMS
  have D_small_cosine := def_mk O_small_cosine (PySem.W.mg_of X G a_small_cosine) k_small_cosine bi_small_cosine
  have O_in_first_quarter := ok_in_first_quarter (P := P) (w := w) (mg := mg) (base := base) F_in_first_quarter D_angle D_small_sine D_small_cosine (PySem.W.mg_of X G n_ROOT_OF_HALF)
  have D_in_first_quarter := def_mk O_in_first_quarter (PySem.W.mg_of X G a_in_first_quarter) k_in_first_quarter bi_in_first_quarter
  have O_cosine_and_sine := ok_cosine_and_sine (P := P) (w := w) (mg := mg) (base := base) F_cosine_and_sine D_quarters_and_rest D_in_first_quarter D_minus (PySem.W.mg_of X G n_QUARTERS) hQUARTERS rfl hQUARTERSi
  have D_cosine_and_sine := def_mk O_cosine_and_sine (PySem.W.mg_of X G a_cosine_and_sine) k_cosine_and_sine bi_cosine_and_sine
  have O_cosine := ok_cosine (P := P) (w := w) (mg := mg) (base := base) F_cosine D_cosine_and_sine
  have D_cosine := def_mk O_cosine (PySem.W.mg_of X G a_cosine) k_cosine bi_cosine
  have O_weight_of_kind_0 := ok_weight_of_kind_0 (P := P) (w := w) (mg := mg) (base := base) F_weight_of_kind_0 D_subtract D_multiply D_cosine (PySem.W.mg_of X G n_ONE_HALF) (PySem.W.mg_of X G n_DOUBLE)
  have D_weight_of_kind_0 := def_mk O_weight_of_kind_0 (PySem.W.mg_of X G a_weight_of_kind_0) k_weight_of_kind_0 bi_weight_of_kind_0
  have O_weight_of_kind_1 := ok_weight_of_kind_1 (P := P) (w := w) (mg := mg) (base := base) F_weight_of_kind_1 D_subtract D_multiply D_cosine (PySem.W.mg_of X G n_DOUBLE)
  have D_weight_of_kind_1 := def_mk O_weight_of_kind_1 (PySem.W.mg_of X G a_weight_of_kind_1) k_weight_of_kind_1 bi_weight_of_kind_1
  have O_weight_of_kind_2 := ok_weight_of_kind_2 (P := P) (w := w) (mg := mg) (base := base) F_weight_of_kind_2 D_subtract D_multiply D_cosine D_add (PySem.W.mg_of X G n_ONE_HALF) (PySem.W.mg_of X G n_DOUBLE)
  have D_weight_of_kind_2 := def_mk O_weight_of_kind_2 (PySem.W.mg_of X G a_weight_of_kind_2) k_weight_of_kind_2 bi_weight_of_kind_2
  have hFs : ∀ j g, [f_weight_of_kind_0, f_weight_of_kind_1, f_weight_of_kind_2][j]? = some g → Held P w K mg base 9 (spW j) g := fun j g hg => match j, hg with
    | 0, hg => by cases hg; exact held_mk O_weight_of_kind_0 k_weight_of_kind_0 bi_weight_of_kind_0 (by decide)
    | 1, hg => by cases hg; exact held_mk O_weight_of_kind_1 k_weight_of_kind_1 bi_weight_of_kind_1 (by decide)
    | 2, hg => by cases hg; exact held_mk O_weight_of_kind_2 k_weight_of_kind_2 bi_weight_of_kind_2 (by decide)
    | j + 3, hg => by simp at hg
  have O_windowed := ok_windowed (P := P) (w := w) (mg := mg) (base := base) F_windowed D_multiply D_of_double (PySem.W.mg_of X G n_WEIGHTS) (PySem.W.mg_none_of X G b_len) (PySem.W.mg_none_of X G b_enumerate) (ftab_sq (fs := [f_weight_of_kind_0, f_weight_of_kind_1, f_weight_of_kind_2]) l_WEIGHTS rfl (by simp)) rfl hFs
  have D_windowed := def_mk O_windowed (PySem.W.mg_of X G a_windowed) k_windowed bi_windowed
  exact ok_window (P := P) (w := w) (mg := mg) (base := base) F_window D_windowed (PySem.W.mg_of X G n_LONGEST) (PySem.W.mg_of X G n_WEIGHTS) (PySem.W.mg_of X G n_REFUSED) (PySem.W.mg_of X G n_DONE) (PySem.W.mg_none_of X G b_len) (ftab_sq (fs := [f_weight_of_kind_0, f_weight_of_kind_1, f_weight_of_kind_2]) l_WEIGHTS rfl (by simp)) rfl
end Wk
open PySem PySem.W PyProof.Rows
set_option maxRecDepth 100000 in
set_option maxHeartbeats 0 in
theorem PySem.Challenge.cw_bitsignals_s12_window_holds : PySem.Challenge.rw_bitsignals_s12_window.Holds := by
  w_on; k_headS; (case hw => exact ⟨[.int 0, .int 0, .list []], by decide +kernel, by decide +kernel⟩)
  k_fillS
  refine L2.walk_specK (r := PySem.Challenge.rw_bitsignals_s12_window) (k := 11) (CX := L2.CX0) (ps := ["f", "kind", "x"]) (sp := L2.sp_window) (by decide +kernel) rfl rfl ⟨rfl, by decide, by decide⟩ (fun w h Y => PySem.W.kIn_of Y) ?F ?S (fun _ _ _ _ z => z)
  case F =>
    intro w mg fa h Y KX G hmg
    refine' Wk.all_mk KX G hmg ?n_SIGN_BIT ?l_SIGN_BIT ?n_SIZE_BITS ?l_SIZE_BITS ?n_INFINITY ?l_INFINITY ?n_NAN ?l_NAN ?n_FRACTION_WIDTH ?l_FRACTION_WIDTH ?n_HIDDEN_BIT ?l_HIDDEN_BIT ?n_LEAST_POWER ?l_LEAST_POWER ?a_is_nan ?l_is_nan ?c_is_nan ?k_is_nan ?a_parts ?l_parts ?c_parts ?k_parts ?a_rounded ?l_rounded ?c_rounded ?k_rounded ?a_with_rest ?l_with_rest ?c_with_rest ?k_with_rest ?a_quarters_and_rest ?l_quarters_and_rest ?c_quarters_and_rest ?k_quarters_and_rest ?a_minus ?l_minus ?c_minus ?k_minus ?a_add_endless ?l_add_endless ?c_add_endless ?k_add_endless ?a_multiply ?l_multiply ?c_multiply ?k_multiply ?a_divide ?l_divide ?c_divide ?k_divide ?a_in_format ?l_in_format ?c_in_format ?k_in_format ?a_from_whole ?l_from_whole ?c_from_whole ?k_from_whole ?a_add ?l_add ?c_add ?k_add ?a_narrowed ?l_narrowed ?c_narrowed ?k_narrowed ?a_angle ?l_angle ?c_angle ?k_angle ?a_subtract ?l_subtract ?c_subtract ?k_subtract ?a_of_double ?l_of_double ?c_of_double ?k_of_double ?a_series ?l_series ?c_series ?k_series ?a_small_sine ?l_small_sine ?c_small_sine ?k_small_sine ?a_small_cosine ?l_small_cosine ?c_small_cosine ?k_small_cosine ?a_in_first_quarter ?l_in_first_quarter ?c_in_first_quarter ?k_in_first_quarter ?a_cosine_and_sine ?l_cosine_and_sine ?c_cosine_and_sine ?k_cosine_and_sine ?a_cosine ?l_cosine ?c_cosine ?k_cosine ?a_weight_of_kind_0 ?l_weight_of_kind_0 ?c_weight_of_kind_0 ?k_weight_of_kind_0 ?a_weight_of_kind_1 ?l_weight_of_kind_1 ?c_weight_of_kind_1 ?k_weight_of_kind_1 ?a_weight_of_kind_2 ?l_weight_of_kind_2 ?c_weight_of_kind_2 ?k_weight_of_kind_2 ?a_windowed ?l_windowed ?c_windowed ?k_windowed ?a_window ?l_window ?c_window ?k_window ?n_DOUBLE ?n_ONE_HALF ?n_ONE_WHOLE ?n_HALF_PI ?n_ROOT_OF_HALF ?n_DONE ?n_REFUSED ?n_LONGEST ?n_WEIGHTS ?l_WEIGHTS ?n_SINE_TERMS ?l_SINE_TERMS ?n_COSINE_TERMS ?l_COSINE_TERMS ?n_QUARTERS ?l_QUARTERS ?l_QUARTERS_0 ?l_QUARTERS_1 ?l_QUARTERS_2 ?l_QUARTERS_3 ?b_max ?b_min ?b_divmod ?b_abs ?b_len ?b_enumerate
    (case n_SIGN_BIT => k_is)
    (case l_SIGN_BIT => k_is)
    (case n_SIZE_BITS => k_is)
    (case l_SIZE_BITS => k_is)
    (case n_INFINITY => k_is)
    (case l_INFINITY => k_is)
    (case n_NAN => k_is)
    (case l_NAN => k_is)
    (case n_FRACTION_WIDTH => k_is)
    (case l_FRACTION_WIDTH => k_is)
    (case n_HIDDEN_BIT => k_is)
    (case l_HIDDEN_BIT => k_is)
    (case n_LEAST_POWER => k_is)
    (case l_LEAST_POWER => k_is)
    (case a_is_nan => k_is)
    (case l_is_nan => k_is)
    (case c_is_nan => k_is)
    (case k_is_nan => k_is)
    (case a_parts => k_is)
    (case l_parts => k_is)
    (case c_parts => k_is)
    (case k_parts => k_is)
    (case a_rounded => k_is)
    (case l_rounded => k_is)
    (case c_rounded => k_is)
    (case k_rounded => k_is)
    (case a_with_rest => k_is)
    (case l_with_rest => k_is)
    (case c_with_rest => k_is)
    (case k_with_rest => k_is)
    (case a_quarters_and_rest => k_is)
    (case l_quarters_and_rest => k_is)
    (case c_quarters_and_rest => k_is)
    (case k_quarters_and_rest => k_is)
    (case a_minus => k_is)
    (case l_minus => k_is)
    (case c_minus => k_is)
    (case k_minus => k_is)
    (case a_add_endless => k_is)
    (case l_add_endless => k_is)
    (case c_add_endless => k_is)
    (case k_add_endless => k_is)
    (case a_multiply => k_is)
    (case l_multiply => k_is)
    (case c_multiply => k_is)
    (case k_multiply => k_is)
    (case a_divide => k_is)
    (case l_divide => k_is)
    (case c_divide => k_is)
    (case k_divide => k_is)
    (case a_in_format => k_is)
    (case l_in_format => k_is)
    (case c_in_format => k_is)
    (case k_in_format => k_is)
    (case a_from_whole => k_is)
    (case l_from_whole => k_is)
    (case c_from_whole => k_is)
    (case k_from_whole => k_is)
    (case a_add => k_is)
    (case l_add => k_is)
    (case c_add => k_is)
    (case k_add => k_is)
    (case a_narrowed => k_is)
    (case l_narrowed => k_is)
    (case c_narrowed => k_is)
    (case k_narrowed => k_is)
    (case a_angle => k_is)
    (case l_angle => k_is)
    (case c_angle => k_is)
    (case k_angle => k_is)
    (case a_subtract => k_is)
    (case l_subtract => k_is)
    (case c_subtract => k_is)
    (case k_subtract => k_is)
    (case a_of_double => k_is)
    (case l_of_double => k_is)
    (case c_of_double => k_is)
    (case k_of_double => k_is)
    (case a_series => k_is)
    (case l_series => k_is)
    (case c_series => k_is)
    (case k_series => k_is)
    (case a_small_sine => k_is)
    (case l_small_sine => k_is)
    (case c_small_sine => k_is)
    (case k_small_sine => k_is)
    (case a_small_cosine => k_is)
    (case l_small_cosine => k_is)
    (case c_small_cosine => k_is)
    (case k_small_cosine => k_is)
    (case a_in_first_quarter => k_is)
    (case l_in_first_quarter => k_is)
    (case c_in_first_quarter => k_is)
    (case k_in_first_quarter => k_is)
    (case a_cosine_and_sine => k_is)
    (case l_cosine_and_sine => k_is)
    (case c_cosine_and_sine => k_is)
    (case k_cosine_and_sine => k_is)
    (case a_cosine => k_is)
    (case l_cosine => k_is)
    (case c_cosine => k_is)
    (case k_cosine => k_is)
    (case a_weight_of_kind_0 => k_is)
    (case l_weight_of_kind_0 => k_is)
    (case c_weight_of_kind_0 => k_is)
    (case k_weight_of_kind_0 => k_is)
    (case a_weight_of_kind_1 => k_is)
    (case l_weight_of_kind_1 => k_is)
    (case c_weight_of_kind_1 => k_is)
    (case k_weight_of_kind_1 => k_is)
    (case a_weight_of_kind_2 => k_is)
    (case l_weight_of_kind_2 => k_is)
    (case c_weight_of_kind_2 => k_is)
    (case k_weight_of_kind_2 => k_is)
    (case a_windowed => k_is)
    (case l_windowed => k_is)
    (case c_windowed => k_is)
    (case k_windowed => k_is)
    (case a_window => k_is)
    (case l_window => k_is)
    (case c_window => k_is)
    (case k_window => k_is)
    (case n_DOUBLE => k_is)
    (case n_ONE_HALF => k_is)
    (case n_ONE_WHOLE => k_is)
    (case n_HALF_PI => k_is)
    (case n_ROOT_OF_HALF => k_is)
    (case n_DONE => k_is)
    (case n_REFUSED => k_is)
    (case n_LONGEST => k_is)
    (case n_WEIGHTS => k_is)
    (case l_WEIGHTS => k_is)
    (case n_SINE_TERMS => k_is)
    (case l_SINE_TERMS => k_is)
    (case n_COSINE_TERMS => k_is)
    (case l_COSINE_TERMS => k_is)
    (case n_QUARTERS => k_is)
    (case l_QUARTERS => k_is)
    (case l_QUARTERS_0 => k_is)
    (case l_QUARTERS_1 => k_is)
    (case l_QUARTERS_2 => k_is)
    (case l_QUARTERS_3 => k_is)
    (case b_max => k_is)
    (case b_min => k_is)
    (case b_divmod => k_is)
    (case b_abs => k_is)
    (case b_len => k_is)
    (case b_enumerate => k_is)
  case S =>
    intro K H xs a hO hwi hask hx
    obtain ⟨f, op, la, u⟩ := a
    cases hx with | cons h1 r1 =>
    cases r1 with | cons h2 r2 =>
    cases r2 with | cons h3 r3 =>
    cases r3
    cases h1 with | int _ =>
    cases h2 with | int _ =>
    cases h3 with | lst hs3 ha3 =>
    have e3 := L2.ints_dw la _ ha3
    subst e3
    obtain ⟨q1, q2, q3⟩ := Sig.window_asked (show PySp18.window_asked f op la = true from hask)
    have q : (Codec.inInt 0 1 f && (Codec.inInt 0 4294967295 op && ((Codec.inLen 0 16000 la && la.all (Codec.inInt 0 18446744073709551615)) && true))) = true := hwi
    simp only [Bool.and_eq_true] at q
    have l3 := (Codec.inNat_iff.mp q.2.2.1.1).2
    exact ⟨f, op, _, la, rfl, q1, q2, L2.pl_of hO, hs3, by omega, q3, fun H2 p hp => .lst (L2.SqL.of hp) (L2.dw_ints _)⟩
#print axioms PySem.Challenge.cw_bitsignals_s12_window_holds

