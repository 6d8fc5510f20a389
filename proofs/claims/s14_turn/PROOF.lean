import PyProof.Rows.All
import Wide.All
import OpenK.AllK
import Wide.FinOn
import PyProof.EqAt
import PyProof.EqKinds
import PyProof.TupleCall
import KE.BitLaws
import Open.SpecLaws
import KE.OsHead
import KE.OsGo
import PySem.Challenge.RW_bitsignals_s14_turn
set_option Elab.async false
set_option linter.all false
set_option maxRecDepth 100000
namespace L2
open PySem PySem.Spec PyProof.Rows
abbrev Key := Sum Int Str
def keyIs : Key → Value → Bool
  | .inl k, v => Value.isInt k v
  | .inr x, v => Value.isStrOf x v
def keyH (w : World) : Key → Int
  | .inl k => hashInt k
  | .inr x => hashStr w x
theorem keyIs_shape : ∀ {k : Key} {v : Value}, keyIs k v = true → (∃ i t, k = Sum.inl i ∧ v = Value.int i t) ∨ (∃ x t, k = Sum.inr x ∧ v = Value.str x t)
  | .inl i, v, h => by
    obtain ⟨t, e⟩ := Value.isInt_shape (k := i) (v := v) h
    exact .inl ⟨i, t, rfl, e⟩
  | .inr x, v, h => by
    obtain ⟨t, e⟩ := Value.isStrOf_shape (x := x) (v := v) h
    exact .inr ⟨x, t, rfl, e⟩
theorem key_ll (a b : Int) : decide ((Sum.inl a : Key) = Sum.inl b) = (a == b) := by
  by_cases e : a = b
  · subst e; simp
  · have h : ¬ (Sum.inl a : Key) = Sum.inl b := fun q => e (Sum.inl.inj q)
    rw [decide_eq_false h]
    exact (beq_eq_false_iff_ne.mpr e).symm
theorem key_rr (a b : Str) : decide ((Sum.inr a : Key) = Sum.inr b) = decide (a = b) := by
  by_cases e : a = b
  · subst e; simp
  · have h : ¬ (Sum.inr a : Key) = Sum.inr b := fun q => e (Sum.inr.inj q)
    rw [decide_eq_false h, decide_eq_false e]
theorem key_lr (a : Int) (b : Str) : decide ((Sum.inl a : Key) = Sum.inr b) = false := decide_eq_false (fun q => nomatch q)
theorem key_rl (a : Str) (b : Int) : decide ((Sum.inr a : Key) = Sum.inl b) = false := decide_eq_false (fun q => nomatch q)
def mixKind (prog : Program) (w : World) : PySem.KeyKind prog w Key where
  is := keyIs
  hash := keyH w
  inj := fun v a b ha hb => by
    rcases keyIs_shape ha with ⟨i, t, rfl, rfl⟩ | ⟨x, t, rfl, rfl⟩
    · rcases keyIs_shape hb with ⟨j, u, rfl, e⟩ | ⟨y, u, rfl, e⟩
      · injection e with e1 _; rw [e1]
      · exact nomatch e
    · rcases keyIs_shape hb with ⟨j, u, rfl, e⟩ | ⟨y, u, rfl, e⟩
      · exact nomatch e
      · injection e with e1 _; rw [e1]
  byValue := fun k v h => by
    rcases keyIs_shape h with ⟨i, t, rfl, rfl⟩ | ⟨x, t, rfl, rfl⟩ <;> rfl
  pyHash := fun hv h => by
    rcases keyIs_shape hv with ⟨i, t, rfl, rfl⟩ | ⟨x, t, rfl, rfl⟩
    · exact wpAny_pyHash_int h
    · exact wpAny_pyHash_str h
  eqBool := fun hu hv h => by
    rcases keyIs_shape hu with ⟨i, t, rfl, rfl⟩ | ⟨x, t, rfl, rfl⟩
    · rcases keyIs_shape hv with ⟨j, u, rfl, rfl⟩ | ⟨y, u, rfl, rfl⟩
      · rw [key_ll] at h; exact wpAny_eqBool_int h
      · rw [key_lr] at h; exact SeqAt.EqAt.int_str i t y u _ _ _ _ h
    · rcases keyIs_shape hv with ⟨j, u, rfl, rfl⟩ | ⟨y, u, rfl, rfl⟩
      · rw [key_rl] at h; exact SeqAt.EqAt.str_int x t j u _ _ _ _ h
      · rw [key_rr] at h; exact wpAny_eqBool_str h
  «strs» := fun k x t v h => by
    rcases keyIs_shape h with ⟨i, u, rfl, e⟩ | ⟨y, u, rfl, e⟩
    · exact nomatch e
    · injection e with e1 _
      subst e1
      cases v <;> rfl
end L2
namespace L2
open PySem PySem.Spec PyProof.Rows
inductive V where
  | non | bl (b : Bool) | int (i : Int) | str (x : Str) | byt (b : Array UInt8) | flt (b : UInt64) | ref (a : Addr) | ty (n : String)
  deriving DecidableEq
def RelV : V → Value → Prop
  | .non, u => u = Value.none
  | .bl b, u => u = Value.bool b
  | .int i, u => ∃ t, u = Value.int i t
  | .str x, u => ∃ t, u = Value.str x t
  | .byt b, u => ∃ t, u = Value.bytes b t
  | .flt b, u => ∃ t, u = Value.float b t
  | .ref a, u => u = Value.ref a
  | .ty n, u => u = Value.type n
abbrev Vals : List V → List Value → Prop := Paired RelV
theorem Vals.length {xs : List V} {us : List Value} (r : Vals xs us) : xs.length = us.length := Paired.length r
theorem Vals.get : ∀ {xs : List V} {us : List Value} {i : Nat} {x : V}, Vals xs us → xs[i]? = some x → ∃ u, us[i]? = some u ∧ RelV x u
  | _, _, _, _, .nil, e => by simp at e
  | _, _, 0, _, .cons r _, e => by simp at e; subst e; exact ⟨_, rfl, r⟩
  | _, _, i + 1, x, .cons _ t, e => by
    obtain ⟨u, h1, h2⟩ := Vals.get (i := i) (x := x) t (by simpa using e)
    exact ⟨u, by simpa using h1, h2⟩
theorem Vals.append : ∀ {xs ys : List V} {us ws : List Value}, Vals xs us → Vals ys ws → Vals (xs ++ ys) (us ++ ws)
  | _, _, _, _, .nil, s => s
  | _, _, _, _, .cons r t, s => .cons r (Vals.append t s)
theorem Vals.drop : ∀ {xs : List V} {us : List Value} (n : Nat), Vals xs us → Vals (xs.drop n) (us.drop n)
  | _, _, 0, r => r
  | _, _, _ + 1, .nil => .nil
  | _, _, n + 1, .cons _ t => Vals.drop n t
theorem Vals.none_of : ∀ {xs : List V} {us : List Value} {i : Nat}, Vals xs us → xs[i]? = none → us[i]? = none := fun {xs us i} r e => by
  have h1 := r.length
  have h2 : xs.length ≤ i := List.getElem?_eq_none_iff.mp e
  exact List.getElem?_eq_none_iff.mpr (by omega)
def RelO : Option V → Option Value → Prop
  | some v, some u => RelV v u
  | none, none => True
  | _, _ => False
def KV {κ : Type} : List (κ × V) → List (κ × Value) → Prop := Paired fun (p : κ × V) (q : κ × Value) => p.1 = q.1 ∧ RelV p.2 q.2
def kV : Key → V
  | .inl i => .int i
  | .inr x => .str x
inductive HO where
  | lst (xs : List V)
  | tup (xs : List V)
  | dK (kvs : List (Key × V)) | dT (kvs : List (List Key × V))
  | set (S : Int → Bool) (n : Nat)
  | ins (C dx : Addr) (fs : List (Str × V))
  | own (x : Addr)
  | xd (fs : List (Str × V))
  | met (f x : Addr)
  | rng (lo hi : Int)
  | frz (o : Obj) (u : HO)
  | tbl (ps : Array Value)
  | ext (φ : Heap → Prop)
abbrev Hp := Addr → Option HO
def upd (H : Hp) (a : Addr) (o : HO) : Hp := fun b => if b = a then some o else H b
theorem upd_same {H : Hp} {a : Addr} {o : HO} : upd H a o a = some o := by unfold upd; rw [if_pos rfl]
theorem upd_ne {H : Hp} {a b : Addr} {o : HO} (h : b ≠ a) : upd H a o b = H b := by unfold upd; rw [if_neg h]
theorem ne_of_none {H : Hp} {a b : Addr} {o : HO} (h : H a = some o) (h' : H b = none) : a ≠ b := by
  intro e; subst e; rw [h] at h'; cases h'
section
variable (P : Program) (w : World)
def ObjOk (H : Hp) (h : Heap) (a : Addr) : HO → Prop
  | .lst xs => xs.length ≤ sizeLine ∧ ∃ (its : List Value) (n : Nat), Vals xs its ∧ h.get? a = some { cls := .type "list", data := .seq its.toArray n }
  | .tup xs => xs.length ≤ sizeLine ∧ ∃ its : List Value, Vals xs its ∧ IsTup h a its.toArray
  | .dK kvs => kvs.length ≤ sizeLine ∧ (a == sysModules) = false ∧ ∃ vs, KV kvs vs ∧ h.DictOf (mixKind P w) a vs
  | .dT kvs => kvs.length ≤ sizeLine ∧ (a == sysModules) = false ∧ ∃ xs : List (List Key × Addr × Value),
      Paired (fun (p : List Key × V) (q : List Key × Addr × Value) => p.1 = q.1 ∧ H q.2.1 = some (.tup (p.1.map kV)) ∧ RelV p.2 q.2.2) kvs xs ∧
      ∃ o es ep, h.get? a = some o ∧ o.ExactDict ∧ o.data = .dict es ep ∧ es.toList = xs.map (entryOfKey (tupleKind (mixKind P w))) ∧ (xs.map (·.1)).Nodup
  | .set S n => h.SetOf (intKind P w) a S n
  | .ins C dx fs => H dx = some (.own a) ∧ fs.length ≤ 1000 ∧ dx ≠ a ∧ h.get? a = some (PySem.W.instObj C dx) ∧
      ∃ mA, h.Ns1 dx mA ∧ (∀ f, RelO (fs.lookup f) (mA f)) ∧ PySem.Within mA (fs.map (·.1))
  | .own _ => ∃ o, h.get? a = some o
  | .xd fs => ∃ mA, h.Ns1 a mA ∧ ∀ f, RelO (fs.lookup f) (mA f)
  | .rng lo hi => ∃ t u v, h.get? a = some { cls := .type "range", data := .fields #[.int lo t, .int hi u, .int 1 v] }
  | .frz o u => h.get? a = some o ∧ ObjOk H h a u
  | .tbl ps => h.get? a = some { cls := .none, data := .fields ps }
  | .met f x => h.get? a = some (PySem.W.methodObj (.ref f) (.ref x))
  | .ext φ => φ h ∧ (∃ o, h.get? a = some o) ∧ ∀ h1 h2 : Heap, φ h1 → (∀ o, h1.get? a = some o → h2.get? a = some o) → φ h2
def HOk (H : Hp) (h : Heap) : Prop := ∀ a o, H a = some o → ObjOk P w H h a o
end
section
variable {P : Program} {w : World} {H H' : Hp} {h h' : Heap} {a : Addr} {o : HO}
theorem ObjOk.lt (x : ObjOk P w H h a o) : a < h.objs.size := by
  cases o with
  | lst xs => obtain ⟨_, _, _, _, e⟩ := x; exact Heap.lt_size e
  | tup xs => obtain ⟨_, _, _, p⟩ := x; exact p.lt
  | dK kvs => obtain ⟨_, _, _, _, o, _, _, e, _⟩ := x; exact Heap.lt_size e
  | dT kvs => obtain ⟨_, _, _, _, o, _, _, e, _⟩ := x; exact Heap.lt_size e
  | set S n => obtain ⟨o, _, _, _, e, _⟩ := x; exact Heap.lt_size e
  | ins C dx fs => obtain ⟨_, _, _, e, _⟩ := x; exact Heap.lt_size e
  | own y => obtain ⟨_, e⟩ := x; exact Heap.lt_size e
  | xd fs => obtain ⟨_, ⟨_, _, _, e, _⟩, _⟩ := x; exact Heap.lt_size e
  | rng lo hi => obtain ⟨_, _, _, e⟩ := x; exact Heap.lt_size e
  | frz ob u => obtain ⟨e, _⟩ := x; exact Heap.lt_size e
  | tbl ps => exact Heap.lt_size (show h.get? a = some _ from x)
  | met f y => exact Heap.lt_size (show h.get? a = some _ from x)
  | ext φ => obtain ⟨_, ⟨_, e⟩, _⟩ := x; exact Heap.lt_size e
theorem Paired.mapP {α β : Type} {F G : α → β → Prop} : ∀ {l₁ : List α} {l₂ : List β}, Paired F l₁ l₂ → (∀ a b, F a b → G a b) → Paired G l₁ l₂
  | _, _, .nil, _ => .nil
  | _, _, .cons r t, f => .cons (f _ _ r) (Paired.mapP t f)
theorem ObjOk.stay (x : ObjOk P w H h a o) (k : ∀ b u, (b = a ∨ H b = some (.own a)) → h.get? b = some u → h'.get? b = some u)
    (ho : ∀ b, H b = some (.own a) → H' b = some (.own a)) (ht : ∀ b xs, H b = some (.tup xs) → H' b = some (.tup xs)) : ObjOk P w H' h' a o := by
  induction o with
  | lst xs => obtain ⟨z, its, n, r, e⟩ := x; exact ⟨z, its, n, r, k _ _ (.inl rfl) e⟩
  | tup xs => obtain ⟨z, its, r, ob, e, c⟩ := x; exact ⟨z, its, r, ob, k _ _ (.inl rfl) e, c⟩
  | dK kvs => obtain ⟨z, y, vs, r, ob, es, ep, e, c⟩ := x; exact ⟨z, y, vs, r, ob, es, ep, k _ _ (.inl rfl) e, c⟩
  | dT kvs =>
    obtain ⟨z, y, xs, r, ob, es, ep, e, c⟩ := x
    exact ⟨z, y, xs, Paired.mapP r fun p q z => ⟨z.1, ht _ _ z.2.1, z.2.2⟩, ob, es, ep, k _ _ (.inl rfl) e, c⟩
  | set S n => obtain ⟨ob, es, ep, t, e, c⟩ := x; exact ⟨ob, es, ep, t, k _ _ (.inl rfl) e, c⟩
  | ins C dx fs =>
    obtain ⟨d, z, ne, e, mA, ⟨od, es, ep, e2, c⟩, r⟩ := x
    exact ⟨ho _ d, z, ne, k _ _ (.inl rfl) e, mA, ⟨od, es, ep, k _ _ (.inr d) e2, c⟩, r⟩
  | own y => obtain ⟨ob, e⟩ := x; exact ⟨ob, k _ _ (.inl rfl) e⟩
  | xd fs => obtain ⟨mA, ⟨od, es, ep, e, c⟩, r⟩ := x; exact ⟨mA, ⟨od, es, ep, k _ _ (.inl rfl) e, c⟩, r⟩
  | rng lo hi => obtain ⟨t, u, v, e⟩ := x; exact ⟨t, u, v, k _ _ (.inl rfl) e⟩
  | frz ob u ih => obtain ⟨e, q⟩ := x; exact ⟨k _ _ (.inl rfl) e, ih q⟩
  | tbl ps =>
    have e : h.get? a = some { cls := .none, data := .fields ps } := x
    show h'.get? a = some { cls := .none, data := .fields ps }
    exact k a _ (.inl rfl) e
  | met f y =>
    have e : h.get? a = some (PySem.W.methodObj (.ref f) (.ref y)) := x
    show h'.get? a = some (PySem.W.methodObj (.ref f) (.ref y))
    exact k a _ (.inl rfl) e
  | ext φ => obtain ⟨p, ⟨o, e⟩, st⟩ := x; exact ⟨st _ _ p fun o q => k _ _ (.inl rfl) q, ⟨o, k _ _ (.inl rfl) e⟩, st⟩
theorem HOk.lt (x : HOk P w H h) (e : H a = some o) : a < h.objs.size := (x a o e).lt
theorem HOk.fresh (x : HOk P w H h) (e : h.objs.size ≤ a) : H a = none := by
  cases q : H a with
  | none => rfl
  | some u => exact absurd (Nat.lt_of_lt_of_le (x.lt q) e) (Nat.lt_irrefl _)
theorem HOk.kept (x : HOk P w H h) (k : ∀ b u, h.get? b = some u → h'.get? b = some u) : HOk P w H h' := fun a o e =>
  (x a o e).stay (fun b u _ q => k b u q) (fun _ q => q) fun _ _ q => q
theorem HOk.laid (x : HOk P w H h) (k : ∀ b u, h.get? b = some u → h'.get? b = some u) (hp : h.objs.size ≤ a) (new : ObjOk P w (upd H a o) h' a o) : HOk P w (upd H a o) h' := fun b u e => by
  have hn := x.fresh hp
  by_cases hb : b = a
  · subst hb; rw [upd_same] at e; cases e; exact new
  · rw [upd_ne hb] at e
    exact (x b u e).stay (fun c v _ q => k c v q) (fun c q => by rw [upd_ne (ne_of_none q hn)]; exact q) fun c xs q => by rw [upd_ne (ne_of_none q hn)]; exact q
end
def Rd (H : Hp) (a : Addr) (u : HO) : Prop := H a = some u ∨ ∃ o, H a = some (.frz o u)
theorem Rd.ok {P : Program} {w : World} {H : Hp} {h : Heap} {a : Addr} {u : HO} (r : Rd H a u) (x : HOk P w H h) : ObjOk P w H h a u := by
  rcases r with r | ⟨o, r⟩
  · exact x a u r
  · obtain ⟨_, q⟩ := x a _ r
    exact q
def Mut : Option HO → Prop
  | some (.lst _) => True
  | some (.dK _) => True
  | some (.dT _) => True
  | some (.set _ _) => True
  | some (.ins _ _ _) => True
  | some (.ext _) => True
  | _ => False
section
variable {P : Program} {w : World} {H : Hp} {h h' : Heap} {x e : Addr} {o' : HO}
theorem HOk.write (ok : HOk P w H h) (mu : Mut (H x)) (he : e = x ∨ H e = some (.own x)) (k : ∀ b u, b ≠ e → h.get? b = some u → h'.get? b = some u) (heo : ∃ u, h'.get? e = some u)
    (new : ObjOk P w (upd H x o') h' x o') : HOk P w (upd H x o') h' := fun b u q => by
  have nown : ∀ c y, H c = some (.own y) → c ≠ x := fun c y r z => by subst z; rw [r] at mu; exact mu
  have ntup : ∀ c xs, H c = some (.tup xs) → c ≠ x := fun c xs r z => by subst z; rw [r] at mu; exact mu
  by_cases hb : b = x
  · subst hb; rw [upd_same] at q; cases q; exact new
  · rw [upd_ne hb] at q
    by_cases hbe : b = e
    · have q' : H b = some (.own x) := by
        rcases he with z | z
        · exact absurd (hbe.trans z) hb
        · rw [hbe]; exact z
      rw [q] at q'; cases q'
      obtain ⟨v, hv⟩ := heo
      exact ⟨v, by rw [hbe]; exact hv⟩
    · refine (ok b u q).stay (fun c v hc r => k c v ?_ r) (fun c r => by rw [upd_ne (nown c b r)]; exact r) fun c xs r => by rw [upd_ne (ntup c xs r)]; exact r
      rcases hc with rfl | hc
      · exact hbe
      · rintro rfl
        rcases he with z | z
        · exact nown c b hc z
        · rw [hc] at z; cases z; exact hb rfl
end
structure Un (fs ex : List Addr) (H H' : Hp) (h h' : Heap) : Prop where
  keep : ∀ b o, h.get? b = some o → H b = none → b ∉ fs → b ∉ ex → h'.get? b = some o
  slot : ∀ b o, h.get? b = some o → H b = none → b ∈ fs → b ∉ ex → ∃ sl, h'.get? b = some { o with slots := sl }
  free : ∀ b o, h.get? b = some o → H b = none → b ∉ ex → H' b = none
  there : ∀ b o, h.get? b = some o → b ∉ ex → ∃ o', h'.get? b = some o'
  tups : ∀ b xs, H b = some (.tup xs) → H' b = some (.tup xs)
  frzs : ∀ b o u, H b = some (.frz o u) → H' b = some (.frz o u)
  tbls : ∀ b ps, H b = some (.tbl ps) → ∃ more, H' b = some (.tbl (ps ++ more))
section
variable {fs fs' ex ex' : List Addr} {H H1 H2 : Hp} {h h1 h2 h' : Heap} {a x e : Addr} {o : HO}
theorem Un.any (u : Un fs ex H H1 h h1) {b : Addr} {ob : Obj} (q : h.get? b = some ob) (n : H b = none) (hx : b ∉ ex) : ∃ sl, h1.get? b = some { ob with slots := sl } := by
  by_cases hb : b ∈ fs
  · exact u.slot b ob q n hb hx
  · exact ⟨ob.slots, u.keep b ob q n hb hx⟩
theorem Un.trans (a : Un fs ex H H1 h h1) (b : Un fs ex H1 H2 h1 h2) : Un fs ex H H2 h h2 where
  keep := fun c ob q n hc hx => b.keep c ob (a.keep c ob q n hc hx) (a.free c ob q n hx) hc hx
  slot := fun c ob q n hc hx => by
    obtain ⟨sl, e1⟩ := a.slot c ob q n hc hx
    obtain ⟨sl', e2⟩ := b.slot c _ e1 (a.free c ob q n hx) hc hx
    exact ⟨sl', e2⟩
  free := fun c ob q n hx => by
    obtain ⟨o', e1⟩ := a.there c ob q hx
    exact b.free c o' e1 (a.free c ob q n hx) hx
  there := fun c ob q hx => by
    obtain ⟨o', e1⟩ := a.there c ob q hx
    exact b.there c o' e1 hx
  tups := fun c xs q => b.tups c xs (a.tups c xs q)
  frzs := fun c ob xs q => b.frzs c ob xs (a.frzs c ob xs q)
  tbls := fun c ps q => by
    obtain ⟨m1, e1⟩ := a.tbls c ps q
    obtain ⟨m2, e2⟩ := b.tbls c _ e1
    exact ⟨m1 ++ m2, by rw [e2, Array.append_assoc]⟩
theorem Un.kept (k : ∀ b u, h.get? b = some u → h'.get? b = some u) : Un fs ex H H h h' :=
  ⟨fun b ob q _ _ _ => k b ob q, fun b ob q _ _ _ => ⟨ob.slots, k b ob q⟩, fun _ _ _ n _ => n, fun b ob q _ => ⟨ob, k b ob q⟩, fun _ _ q => q, fun _ _ _ q => q, fun _ ps q => ⟨#[], by rw [q]; simp⟩⟩
theorem Un.refl : Un fs ex H H h h := Un.kept fun _ _ q => q
theorem Un.laid (k : ∀ b u, h.get? b = some u → h'.get? b = some u) (hp : h.objs.size ≤ a) (hn : H a = none) : Un fs ex H (upd H a o) h h' where
  keep := fun b u q _ _ _ => k b u q
  slot := fun b u q _ _ _ => ⟨u.slots, k b u q⟩
  free := fun b u q n _ => by rw [upd_ne (Nat.ne_of_lt (Nat.lt_of_lt_of_le (Heap.lt_size q) hp))]; exact n
  there := fun b u q _ => ⟨u, k b u q⟩
  tups := fun b xs q => by rw [upd_ne (ne_of_none q hn)]; exact q
  frzs := fun b u xs q => by rw [upd_ne (ne_of_none q hn)]; exact q
  tbls := fun b ps q => ⟨#[], by rw [upd_ne (ne_of_none q hn), q]; simp⟩
theorem Un.write (mu : Mut (H x)) (he : e = x ∨ H e = some (.own x)) (k : ∀ b u, b ≠ e → h.get? b = some u → h'.get? b = some u) (heo : ∃ u, h'.get? e = some u) : Un fs ex H (upd H x o) h h' := by
  have hx : ∀ b, H b = none → b ≠ x := fun b n z => by subst z; rw [n] at mu; exact mu
  have hb : ∀ b, H b = none → b ≠ e := fun b n z => by
    subst z
    rcases he with r | r
    · exact hx b n r
    · rw [n] at r; cases r
  have hm : ∀ b u, H b = some u → ¬ Mut (some u) → b ≠ x := fun b u q nm z => by subst z; rw [q] at mu; exact nm mu
  refine ⟨fun b u q n _ _ => k b u (hb b n) q, fun b u q n _ _ => ⟨u.slots, k b u (hb b n) q⟩, fun b u q n _ => by rw [upd_ne (hx b n)]; exact n, fun b u q _ => ?_,
    fun b xs q => by rw [upd_ne (hm b _ q fun z => z)]; exact q, fun b u xs q => by rw [upd_ne (hm b _ q fun z => z)]; exact q, fun b ps q => ⟨#[], by rw [upd_ne (hm b _ q fun z => z), q]; simp⟩⟩
  by_cases hbe : b = e
  · subst hbe; exact heo
  · exact ⟨u, k b u hbe q⟩
end
def trk (h : Heap) (H : Hp) : List Addr := (List.range h.objs.size).filter fun a => (H a).isSome
def hidT (h : Heap) (H : Hp) : Heap := PySem.W.hideAll h (trk h H)
theorem hidT_size (h : Heap) (H : Hp) : (hidT h H).objs.size = h.objs.size := PySem.W.hideAll_size _ _
theorem hidT_get {h : Heap} {H : Hp} {b : Addr} {o : Obj} (e : h.get? b = some o) (n : H b = none) : (hidT h H).get? b = some o :=
  PySem.W.hideAll_get _ e fun hm => by
    have q : (H b).isSome = true := (List.mem_filter.mp hm).2
    rw [n] at q; simp at q
theorem of_hidT {h : Heap} {H : Hp} {b : Addr} {o : Obj} (e : (hidT h H).get? b = some o) : h.get? b = some o ∧ H b = none := by
  have e' : h.get? b = some o := PySem.W.of_hideAll (trk h H) e
  refine ⟨e', ?_⟩
  cases q : H b with
  | none => rfl
  | some x =>
    have hm : b ∈ trk h H := List.mem_filter.mpr ⟨List.mem_range.mpr (Heap.lt_size e'), by simp [q]⟩
    have z : (hidT h H).get? b = none := PySem.W.hideAll_none (trk h H) hm
    rw [z] at e; cases e
def allNews (g h : Heap) (L : Addr) : List (Addr × Obj) := (List.range h.objs.size).filterMap fun a => if a = L ∨ (g.get? a).isSome = true then none else (h.get? a).map fun o => (a, o)
def rest (g h : Heap) (L d : Addr) : List (Addr × Obj) := (allNews g h L).filter fun p => decide (p.1 ≠ d)
end L2
namespace L2
open PySem PySem.Spec PyProof.Rows
structure Mod (K : PySem.W.Frag) (mg : Str → Option Value) (base : Heap) : Prop where
  kin : K.In base
  glob : base.Ns mainGlobals mg
  blt : ∃ mb, base.Ns builtinsNs mb ∧ ∀ x : Str, x ≠ "__name__" → mb x = bootBuiltins x
  nolimit : base.NoLimit
structure Cx where
  prog : Program
  w : World
  K : PySem.W.Frag
  mg : Str → Option Value
  base : Heap
  A : Around
  N : List Str
  s_0 : Shared
  H_0 : Hp
  env : Env
  outer : List Env
  stack : List Env
  ex : List Addr
  fn : Str → Bool
  calm : Bool
  pn : List (Addr × Obj)
  xe : Value → Shared → Prop
def frs (l : List Env) : List Addr := l.filterMap (·.frame)
abbrev Cx.fs (X : Cx) : List Addr := frs X.outer
def Vis (sc : Scope) (x : Str) : Prop := sc.names.lookup x = some .local ∨ sc.names.lookup x = some .cell ∨ sc.names.lookup x = some .free
def Loc (sc : Scope) (x : Str) : Prop := sc.names.lookup x = some .local ∨ sc.names.lookup x = some .cell
def Look (env : Env) (h : Heap) (m : Str → Option Value) (x : Str) (u : Value) : Prop :=
  (env.kindOf x = some .local ∧ m x = some u) ∨ ((env.kindOf x = some .cell ∨ env.kindOf x = some .free) ∧ ∃ c, env.cells.lookup x = some c ∧ h.IsCell c (some u))
structure Cx.Ok (X : Cx) : Prop where
  mod : Mod X.K X.mg X.base
  kind : X.env.scope.kind = .function
  glob : X.env.globals = mainGlobals
  blt : X.env.builtins = builtinsNs
  above : X.s_0.heap.objs.size ≤ X.env.locals
  inj : ∀ x y c, X.env.cells.lookup x = some c → X.env.cells.lookup y = some c → x = y
  has : ∀ x, (X.env.kindOf x = some .cell ∨ X.env.kindOf x = some .free) → ∃ c, X.env.cells.lookup x = some c
  cab : ∀ x c, X.fn x = true → X.env.cells.lookup x = some c → X.s_0.heap.objs.size ≤ c
  hd : X.calm = true → X.A.handled = none
  frames : X.A.frames = some X.stack
  stk : X.stack = X.outer ∨ (X.stack = X.env :: X.outer ∧ X.env.frame = some X.env.locals)
  exf : ∀ b ∈ X.ex, b ≠ X.env.locals ∧ ∀ x c, X.env.cells.lookup x = some c → c ≠ b
  bs : ∀ b o, X.base.get? b = some o → X.s_0.heap.get? b = some o ∧ X.H_0 b = none
  bsz : X.base.objs.size ≤ X.s_0.heap.objs.size
  noex : ∀ b o, X.base.get? b = some o → b ∉ X.ex
  exfs : ∀ b ∈ X.ex, b ∉ X.fs
  funs : X.s_0.heap.FunFrames X.base X.outer
  frf : ∀ b ∈ X.fs, X.H_0 b = none
structure Inv (X : Cx) (pins : List (Addr × Obj)) (σ : List (Option V)) (H : Hp) (s : Shared) : Prop where
  ok : X.Ok
  os : s.os = X.s_0.os
  bare : AllBare s.gens
  base : Un X.fs X.ex X.H_0 H X.s_0.heap s.heap
  loc : ∃ m, s.heap.Ns X.env.locals m ∧ ∀ (i : Nat) (x : Str) (v : V), X.N[i]? = some x → σ[i]? = some (some v) → Vis X.env.scope x → ∃ u, RelV v u ∧ Look X.env s.heap m x u
  cell : ∀ x c, X.env.cells.lookup x = some c → ∃ v, s.heap.IsCell c v
  free : H X.env.locals = none
  freeC : ∀ x c, X.env.cells.lookup x = some c → H c = none
  pin : ∀ p ∈ X.pn ++ pins, s.heap.get? p.1 = some p.2 ∧ H p.1 = none ∧ p.1 ≠ X.env.locals ∧ p.1 ∉ X.fs ∧ ∀ v, p.2.data ≠ .cell v
  hok : HOk X.prog X.w H s.heap
  len : σ.length = X.N.length
section
variable {X : Cx} {pins : List (Addr × Obj)} {σ : List (Option V)} {H H' : Hp} {s : Shared} {h' : Heap}
theorem Cx.Ok.nofr (ok : X.Ok) {b : Addr} {o : Obj} (e : X.base.get? b = some o) : b ∉ X.fs := fun hb => by
  have := (ok.funs.mem hb).1
  rw [e] at this; cases this
theorem Inv.bs (I : Inv X pins σ H s) : ∀ b o, X.base.get? b = some o → s.heap.get? b = some o ∧ H b = none := fun b o e =>
  ⟨I.base.keep b o (I.ok.bs b o e).1 (I.ok.bs b o e).2 (I.ok.nofr e) (I.ok.noex b o e), I.base.free b o (I.ok.bs b o e).1 (I.ok.bs b o e).2 (I.ok.noex b o e)⟩
theorem Inv.bk (I : Inv X pins σ H s) : ∀ b o, X.base.get? b = some o → s.heap.get? b = some o := fun b o e => (I.bs b o e).1
theorem Inv.mod (I : Inv X pins σ H s) : Mod X.K X.mg X.base := I.ok.mod
theorem Inv.kIn (I : Inv X pins σ H s) : X.K.In s.heap := I.ok.mod.kin.keeps I.bk
theorem Inv.lt (I : Inv X pins σ H s) : X.env.locals < s.heap.objs.size := let ⟨_, hn, _⟩ := I.loc; hn.lt
theorem Inv.sz (I : Inv X pins σ H s) : X.s_0.heap.objs.size ≤ s.heap.objs.size := Nat.le_trans I.ok.above (Nat.le_of_lt I.lt)
theorem Inv.nofs (I : Inv X pins σ H s) {a : Addr} (h : s.heap.objs.size ≤ a) : a ∉ X.fs := fun hb => by
  obtain ⟨_, o, ho, _⟩ := I.ok.funs.mem hb
  exact absurd (Nat.lt_of_lt_of_le (Heap.lt_size ho) (Nat.le_trans I.sz h)) (Nat.lt_irrefl _)
theorem Inv.cne (I : Inv X pins σ H s) : ∀ x c, X.env.cells.lookup x = some c → c ≠ X.env.locals := fun x c e z => by
  obtain ⟨v, o, ho, hd⟩ := I.cell x c e
  obtain ⟨m, ⟨o', es, ep, ho', hd', _⟩, _⟩ := I.loc
  rw [z, ho'] at ho; cases ho; rw [hd'] at hd; cases hd
theorem Inv.funs (I : Inv X pins σ H s) : s.heap.FunFrames X.base X.outer := by
  have all : ∀ (l : List Env), (∀ b ∈ frs l, b ∈ X.fs) → X.s_0.heap.FunFrames X.base l → s.heap.FunFrames X.base l := by
    intro l
    induction l with
    | nil => intro _ _; trivial
    | cons env r ih =>
      intro hs hl
      obtain ⟨hk, ⟨L, o, hf, hn, ho, hd⟩, hr⟩ := hl
      have hL : L ∈ X.fs := hs L (by unfold frs; rw [List.filterMap_cons, hf]; exact List.mem_cons_self)
      obtain ⟨sl, e⟩ := I.base.slot L o ho (I.ok.frf L hL) hL fun z => I.ok.exfs L z hL
      exact ⟨hk, ⟨L, _, hf, hn, e, hd⟩, ih (fun b hb => hs b (by unfold frs; rw [List.filterMap_cons, hf]; exact List.mem_cons_of_mem _ hb)) hr⟩
  exact all X.outer (fun _ hb => hb) I.ok.funs
theorem Inv.stack (I : Inv X pins σ H s) : s.heap.FunFrames X.base X.stack := by
  rcases I.ok.stk with e | ⟨e, hf⟩
  · rw [e]; exact I.funs
  · rw [e]
    obtain ⟨m, hn, _⟩ := I.loc
    refine .cons (by rw [I.ok.kind]; decide) hf hn ?_ I.funs
    exact Heap.get?_none_of_le (Nat.le_trans I.ok.bsz I.ok.above)
theorem Inv.stkSub (I : Inv X pins σ H s) : ∀ b ∈ frs X.stack, b ∈ X.env.locals :: X.fs := fun b hb => by
  rcases I.ok.stk with e | ⟨e, hf⟩
  · rw [e] at hb; exact List.mem_cons_of_mem _ hb
  · rw [e] at hb
    unfold frs at hb
    rw [List.filterMap_cons, hf] at hb
    exact hb
theorem Inv.stkFree (I : Inv X pins σ H s) : ∀ b ∈ frs X.stack, H b = none := fun b hb => by
  rcases List.mem_cons.mp (I.stkSub b hb) with e | hb
  · rw [e]; exact I.free
  · obtain ⟨_, o, ho, _⟩ := I.ok.funs.mem hb
    exact I.base.free b o ho (I.ok.frf b hb) fun z => I.ok.exfs b z hb
theorem Inv.step {g' : Array GenState} {t' : Nat} {d' : Drawn} {ch : List Addr} (I : Inv X pins σ H s)
    (hch : ∀ b ∈ ch, (b ∈ X.ex ∨ X.s_0.heap.objs.size ≤ b) ∧ b ≠ X.env.locals ∧ (∀ x c, X.env.cells.lookup x = some c → c ≠ b) ∧ ∀ p ∈ X.pn ++ pins, p.1 ≠ b)
    (keep : ∀ b o, b ≠ X.env.locals → b ∉ X.fs → b ∉ ch → s.heap.get? b = some o → H b = none → h'.get? b = some o)
    (slot : ∀ b o, b ≠ X.env.locals → b ∈ X.fs → b ∉ ch → s.heap.get? b = some o → H b = none → ∃ sl, h'.get? b = some { o with slots := sl }) (free : ∀ b o, b ∉ ch → s.heap.get? b = some o → H b = none → H' b = none)
    (there : ∀ b o, b ∉ ch → s.heap.get? b = some o → ∃ o', h'.get? b = some o')
    (tups : ∀ b xs, H b = some (.tup xs) → H' b = some (.tup xs)) (frzs : ∀ b o u, H b = some (.frz o u) → H' b = some (.frz o u)) (tbls : ∀ b ps, H b = some (.tbl ps) → ∃ more, H' b = some (.tbl (ps ++ more)))
    (ns : ∀ m, s.heap.Ns X.env.locals m → h'.Ns X.env.locals m) (hok : HOk X.prog X.w H' h') (hg : AllBare g') :
    Inv X pins σ H' { s with heap := h', gens := g', drawn := d', toks := t' } := by
  have neL : ∀ b o, X.s_0.heap.get? b = some o → b ≠ X.env.locals := fun b o e => Nat.ne_of_lt (Nat.lt_of_lt_of_le (Heap.lt_size e) I.ok.above)
  have neC : ∀ b o, X.s_0.heap.get? b = some o → b ∉ X.ex → b ∉ ch := fun b o e hx hb => by
    rcases (hch b hb).1 with z | z
    · exact hx z
    · exact absurd (Nat.lt_of_lt_of_le (Heap.lt_size e) z) (Nat.lt_irrefl _)
  have cellK : ∀ x c, X.env.cells.lookup x = some c → ∀ v, s.heap.IsCell c v → h'.IsCell c v := fun x c e v ⟨o, ho, hd⟩ => by
    have nch : c ∉ ch := fun z => (hch c z).2.2.1 x c e rfl
    by_cases hc : c ∈ X.fs
    · obtain ⟨sl, q⟩ := slot c o (I.cne x c e) hc nch ho (I.freeC x c e)
      exact ⟨_, q, hd⟩
    · exact ⟨o, keep c o (I.cne x c e) hc nch ho (I.freeC x c e), hd⟩
  refine ⟨I.ok, I.os, hg, ⟨fun b o e n hb hx => ?_, fun b o e n hb hx => ?_, fun b o e n hx => ?_, fun b o e hx => ?_, fun b xs e => tups b xs (I.base.tups b xs e), fun b o xs e => frzs b o xs (I.base.frzs b o xs e), fun b ps e => ?_⟩, ?_, fun x c e => ?_, ?_, fun x c e => ?_, fun p hp => ?_, hok, I.len⟩
  · exact keep b o (neL b o e) hb (neC b o e hx) (I.base.keep b o e n hb hx) (I.base.free b o e n hx)
  · obtain ⟨sl, e1⟩ := I.base.slot b o e n hb hx
    obtain ⟨sl', e2⟩ := slot b _ (neL b o e) hb (neC b o e hx) e1 (I.base.free b o e n hx)
    exact ⟨sl', e2⟩
  · obtain ⟨o', e1⟩ := I.base.there b o e hx
    exact free b o' (neC b o e hx) e1 (I.base.free b o e n hx)
  · obtain ⟨o', e1⟩ := I.base.there b o e hx
    exact there b o' (neC b o e hx) e1
  · obtain ⟨m1, e1⟩ := I.base.tbls b ps e
    obtain ⟨m2, e2⟩ := tbls b _ e1
    exact ⟨m1 ++ m2, by rw [e2, Array.append_assoc]⟩
  · obtain ⟨m, hn, hl⟩ := I.loc
    refine ⟨m, ns m hn, fun i x v e1 e2 e3 => ?_⟩
    obtain ⟨u, r, l⟩ := hl i x v e1 e2 e3
    refine ⟨u, r, ?_⟩
    rcases l with l | ⟨k, c, e, z⟩
    · exact .inl l
    · exact .inr ⟨k, c, e, cellK x c e _ z⟩
  · obtain ⟨v, z⟩ := I.cell x c e
    exact ⟨v, cellK x c e v z⟩
  · obtain ⟨m, ⟨o, _, _, ho, _⟩, _⟩ := I.loc
    exact free _ o (fun z => (hch _ z).2.1 rfl) ho I.free
  · obtain ⟨v, o, ho, hd⟩ := I.cell x c e
    exact free c o (fun z => (hch c z).2.2.1 x c e rfl) ho (I.freeC x c e)
  · obtain ⟨e, n, ne, nf, d⟩ := I.pin p hp
    have nch : p.1 ∉ ch := fun z => (hch p.1 z).2.2.2 p hp rfl
    exact ⟨keep p.1 p.2 ne nf nch e n, free p.1 p.2 nch e n, ne, nf, d⟩
theorem Inv.un {t' : Nat} (I : Inv X pins σ H s) (u : Un X.fs [] H H' s.heap h') (hok : HOk X.prog X.w H' h') : Inv X pins σ H' { s with heap := h', toks := t' } := by
  obtain ⟨m, ⟨o, es, ep, ho, r⟩, _⟩ := id I.loc
  obtain ⟨sl, hL⟩ := u.any ho I.free (by simp)
  exact I.step (g' := s.gens) (d' := s.drawn) (ch := []) (fun _ z => nomatch z) (fun b o _ hb _ e n => u.keep b o e n hb (by simp)) (fun b o _ hb _ e n => u.slot b o e n hb (by simp)) (fun b o _ e n => u.free b o e n (by simp)) (fun b o _ e => u.there b o e (by simp)) u.tups u.frzs u.tbls (fun m' hm => by
    obtain ⟨o', es', ep', ho', r'⟩ := hm
    rw [ho] at ho'; cases ho'
    exact ⟨_, es', ep', hL, r'⟩) hok I.bare
theorem Inv.call {g' : Array GenState} {t' : Nat} {d' : Drawn} {ch : List Addr} (I : Inv X pins σ H s) (u : Un (frs X.stack) ch H H' s.heap h') (hok : HOk X.prog X.w H' h') (hg : AllBare g')
    (hch : ∀ b ∈ ch, (b ∈ X.ex ∨ X.s_0.heap.objs.size ≤ b) ∧ b ≠ X.env.locals ∧ (∀ x c, X.env.cells.lookup x = some c → c ≠ b) ∧ ∀ p ∈ X.pn ++ pins, p.1 ≠ b) :
    Inv X pins σ H' { s with heap := h', gens := g', drawn := d', toks := t' } := by
  obtain ⟨m, ⟨o, es, ep, ho, r⟩, _⟩ := id I.loc
  obtain ⟨sl, hL⟩ := u.any ho I.free fun z => (hch _ z).2.1 rfl
  exact I.step (ch := ch) hch (fun b o hL hb hc e n => u.keep b o e n (fun z => (List.mem_cons.mp (I.stkSub b z)).elim hL hb) hc) (fun b o _ _ hc e n => u.any e n hc) (fun b o hc e n => u.free b o e n hc) (fun b o hc e => u.there b o e hc) u.tups u.frzs u.tbls (fun m' hm => by
    obtain ⟨o', es', ep', ho', r'⟩ := hm
    rw [ho] at ho'; cases ho'
    exact ⟨_, es', ep', hL, r'⟩) hok hg
theorem Inv.turned {t' : Nat} {it : Addr} (I : Inv X pins σ H s) (k : ∀ b o, b ≠ it → s.heap.get? b = some o → h'.get? b = some o) (hn : H it = none) (hL : it ≠ X.env.locals)
    (h1 : it ∈ X.ex ∨ X.s_0.heap.objs.size ≤ it) (h2 : ∀ x c, X.env.cells.lookup x = some c → c ≠ it) (h3 : ∀ p ∈ X.pn ++ pins, p.1 ≠ it) : Inv X pins σ H { s with heap := h', toks := t' } := by
  have nit : ∀ b u, H b = some u → b ≠ it := fun b u e z => by rw [z, hn] at e; cases e
  refine I.step (g' := s.gens) (d' := s.drawn) (ch := [it]) (fun b hb => ?_) (fun b o _ _ hc e _ => k b o (fun z => hc (by simp [z])) e) (fun b o _ _ hc e _ => ⟨o.slots, k b o (fun z => hc (by simp [z])) e⟩) (fun _ _ _ _ n => n)
    (fun b o hc e => ⟨o, k b o (fun z => hc (by simp [z])) e⟩) (fun _ _ e => e) (fun _ _ _ e => e) (fun b ps e => ⟨#[], by rw [e]; simp⟩) (fun m hm => ?_) (fun b u e => ?_) I.bare
  · have e : b = it := by simpa using hb
    subst e
    exact ⟨h1, hL, h2, h3⟩
  · obtain ⟨o, es, ep, ho, r⟩ := hm
    exact ⟨o, es, ep, k _ o (Ne.symm hL) ho, r⟩
  · refine (I.hok b u e).stay (fun c v hc q => k c v ?_ q) (fun _ q => q) fun _ _ q => q
    rcases hc with z | z
    · rw [z]; exact nit b u e
    · exact nit c _ z
theorem Inv.tok (I : Inv X pins σ H s) (t : Nat) : Inv X pins σ H { s with toks := t } := I.un (h' := s.heap) (t' := t) Un.refl I.hok
theorem Inv.kept {t' : Nat} (I : Inv X pins σ H s) (k : ∀ b u, s.heap.get? b = some u → h'.get? b = some u) : Inv X pins σ H { s with heap := h', toks := t' } := I.un (Un.kept k) (I.hok.kept k)
theorem Inv.laid {a : Addr} {o : HO} {t' : Nat} (I : Inv X pins σ H s) (k : ∀ b u, s.heap.get? b = some u → h'.get? b = some u) (hp : s.heap.objs.size ≤ a) (new : ObjOk X.prog X.w (upd H a o) h' a o) :
    Inv X pins σ (upd H a o) { s with heap := h', toks := t' } := I.un (Un.laid k hp (I.hok.fresh hp)) (I.hok.laid k hp new)
theorem Inv.write {x e : Addr} {o : HO} {t' : Nat} (I : Inv X pins σ H s) (mu : Mut (H x)) (he : e = x ∨ H e = some (.own x)) (k : ∀ b u, b ≠ e → s.heap.get? b = some u → h'.get? b = some u) (heo : ∃ u, h'.get? e = some u)
    (new : ObjOk X.prog X.w (upd H x o) h' x o) : Inv X pins σ (upd H x o) { s with heap := h', toks := t' } := I.un (Un.write mu he k heo) (I.hok.write mu he k heo new)
theorem Inv.weak {σ' : List (Option V)} (I : Inv X pins σ H s) (hl : σ'.length = σ.length) (w : ∀ (i : Nat) v, σ'[i]? = some (some v) → σ[i]? = some (some v)) : Inv X pins σ' H s :=
  ⟨I.ok, I.os, I.bare, I.base, let ⟨m, hn, hl'⟩ := I.loc; ⟨m, hn, fun i x v e1 e2 e3 => hl' i x v e1 (w i v e2) e3⟩, I.cell, I.free, I.freeC, I.pin, I.hok, hl.trans I.len⟩
theorem Inv.pins_of {pins' : List (Addr × Obj)} (I : Inv X pins σ H s) (h : ∀ p ∈ pins', s.heap.get? p.1 = some p.2 ∧ H p.1 = none ∧ p.1 ≠ X.env.locals ∧ p.1 ∉ X.fs ∧ ∀ v, p.2.data ≠ .cell v) : Inv X pins' σ H s :=
  ⟨I.ok, I.os, I.bare, I.base, I.loc, I.cell, I.free, I.freeC, fun p hp => (List.mem_append.mp hp).elim (fun z => I.pin p (List.mem_append_left _ z)) (h p), I.hok, I.len⟩
theorem nodup_ix {N : List Str} (hN : N.Nodup) {i j : Nat} {x : Str} (a : N[i]? = some x) (b : N[j]? = some x) : i = j := by
  obtain ⟨h1, e1⟩ := List.getElem?_eq_some_iff.mp a
  obtain ⟨h2, e2⟩ := List.getElem?_eq_some_iff.mp b
  exact (List.getElem_inj hN).mp (e1.trans e2.symm)
theorem store_ok2 {M : Model} {A : Around} {E : Value → Shared → Prop} {i : Nat} {x : Str} {v : V} {u : Value} {Q : Unit → Shared → Prop} (I : Inv X pins σ H s) (hN : X.N.Nodup) (hi : X.N[i]? = some x) (hx : Loc X.env.scope x) (r : RelV v u)
    (h : ∀ s', Inv X pins (σ.set i (some v)) H s' → (∃ a, Heap.SameBut a s.heap s'.heap ∧ (a = X.env.locals ∨ X.env.cells.lookup x = some a)) → Q () s') (hf : X.fn x = true ∨ X.env.scope.names.lookup x = some .local := by first | exact .inl rfl | exact .inr rfl | assumption) : wpAny M A (storeName X.env x u) Q E s := by
  obtain ⟨m, hn, hl⟩ := id I.loc
  have hcls : (X.env.scope.kind == .class || (X.env.scope.kind == .module && X.env.locals != X.env.globals)) = false := by rw [I.ok.kind]; rfl
  have hiσ : i < σ.length := by rw [I.len]; exact (List.getElem?_eq_some_iff.mp hi).1
  have cne := I.cne
  have tracked : ∀ {a : Addr} {h' : Heap}, (∃ o, s.heap.get? a = some o ∧ H a = none) → Heap.SameBut a s.heap h' → HOk X.prog X.w H h' := fun {a h'} ha hs b ob e => by
    obtain ⟨_, _, hfree⟩ := ha
    refine (I.hok b ob e).stay (fun c w' hc q => (hs.2 c ?_).trans q) (fun _ q => q) fun _ _ q => q
    rintro rfl
    rcases hc with rfl | hc
    · rw [hfree] at e; cases e
    · rw [hfree] at hc; cases hc
  rcases hx with hk | hk
  · refine wpAny_storeName_local hk hn (fun h' hn' hs => ?_) hcls
    obtain ⟨oL, _, _, hoL, _⟩ := id hn
    refine h _ ⟨I.ok, I.os, I.bare, ⟨fun b o e n hb hx => ?_, fun b o e n hb hx => ?_, I.base.free, fun b o e hx => ?_, I.base.tups, I.base.frzs, I.base.tbls⟩, ⟨_, hn', fun j y v' e1 e2 e3 => ?_⟩, fun y c e => ?_, I.free, I.freeC, fun p hp => ?_, tracked ⟨oL, hoL, I.free⟩ hs, by simpa using I.len⟩ ⟨_, hs, .inl rfl⟩
    · exact (hs.2 b (Nat.ne_of_lt (Nat.lt_of_lt_of_le (Heap.lt_size e) I.ok.above))).trans (I.base.keep b o e n hb hx)
    · obtain ⟨sl, e1⟩ := I.base.slot b o e n hb hx
      exact ⟨sl, (hs.2 b (Nat.ne_of_lt (Nat.lt_of_lt_of_le (Heap.lt_size e) I.ok.above))).trans e1⟩
    · obtain ⟨o', e1⟩ := I.base.there b o e hx
      exact ⟨o', (hs.2 b (Nat.ne_of_lt (Nat.lt_of_lt_of_le (Heap.lt_size e) I.ok.above))).trans e1⟩
    · by_cases hj : j = i
      · subst hj
        rw [hi] at e1; cases e1
        rw [List.getElem?_set_self hiσ] at e2
        cases e2
        exact ⟨u, r, .inl ⟨hk, by simp⟩⟩
      · rw [List.getElem?_set_ne (Ne.symm hj)] at e2
        obtain ⟨u', r', q⟩ := hl j y v' e1 e2 e3
        refine ⟨u', r', ?_⟩
        rcases q with ⟨k, e⟩ | ⟨k, c, e, z⟩
        · refine .inl ⟨k, ?_⟩
          have : y ≠ x := fun e => hj (nodup_ix hN e1 (e ▸ hi))
          simp [this, e]
        · exact .inr ⟨k, c, e, z.sameBut hs (cne y c e)⟩
    · obtain ⟨w', z⟩ := I.cell y c e
      exact ⟨w', z.sameBut hs (cne y c e)⟩
    · obtain ⟨e, n, ne, nf, d⟩ := I.pin p hp
      exact ⟨(hs.2 p.1 ne).trans e, n, ne, nf, d⟩
  · have hfn : X.fn x = true := by
      rcases hf with z | z
      · exact z
      · rw [z] at hk; cases hk
    obtain ⟨c, hc⟩ := I.ok.has x (.inl hk)
    obtain ⟨w', z⟩ := I.cell x c hc
    refine wpAny_storeName_cell I.ok.kind hk hc z (fun h' hc' hs => ?_)
    obtain ⟨oc, hoc, hocd⟩ := id z
    refine h { s with heap := h' } ⟨I.ok, I.os, I.bare, ⟨fun b o e n hb hx => ?_, fun b o e n hb hx => ?_, I.base.free, fun b o e hx => ?_, I.base.tups, I.base.frzs, I.base.tbls⟩, ⟨m, hn.sameBut hs (Ne.symm (cne x c hc)), fun j y v' e1 e2 e3 => ?_⟩, fun y c' e => ?_, I.free, I.freeC, fun p hp => ?_, tracked ⟨oc, hoc, I.freeC x c hc⟩ hs, by simpa using I.len⟩ ⟨c, hs, .inr hc⟩
    · exact (hs.2 b (Nat.ne_of_lt (Nat.lt_of_lt_of_le (Heap.lt_size e) (I.ok.cab x c hfn hc)))).trans (I.base.keep b o e n hb hx)
    · obtain ⟨sl, e1⟩ := I.base.slot b o e n hb hx
      exact ⟨sl, (hs.2 b (Nat.ne_of_lt (Nat.lt_of_lt_of_le (Heap.lt_size e) (I.ok.cab x c hfn hc)))).trans e1⟩
    · obtain ⟨o', e1⟩ := I.base.there b o e hx
      exact ⟨o', (hs.2 b (Nat.ne_of_lt (Nat.lt_of_lt_of_le (Heap.lt_size e) (I.ok.cab x c hfn hc)))).trans e1⟩
    · by_cases hj : j = i
      · subst hj
        rw [hi] at e1; cases e1
        rw [List.getElem?_set_self hiσ] at e2
        cases e2
        exact ⟨u, r, .inr ⟨.inl hk, c, hc, hc'⟩⟩
      · rw [List.getElem?_set_ne (Ne.symm hj)] at e2
        obtain ⟨u', r', q⟩ := hl j y v' e1 e2 e3
        refine ⟨u', r', ?_⟩
        rcases q with q | ⟨k, c', e, z'⟩
        · exact .inl q
        · refine .inr ⟨k, c', e, z'.sameBut hs ?_⟩
          rintro rfl
          exact hj (nodup_ix hN e1 (I.ok.inj _ _ _ e hc ▸ hi))
    · by_cases hcc : c' = c
      · subst hcc; exact ⟨_, hc'⟩
      · obtain ⟨w2, z2⟩ := I.cell y c' e
        exact ⟨w2, z2.sameBut hs hcc⟩
    · obtain ⟨e, n, ne, nf, d⟩ := I.pin p hp
      refine ⟨(hs.2 p.1 ?_).trans e, n, ne, nf, d⟩
      intro q
      rw [q, hoc] at e
      have q' : oc = p.2 := Option.some.inj e
      exact d w' (by rw [← q']; exact hocd)
theorem store_ok {M : Model} {A : Around} {E : Value → Shared → Prop} {i : Nat} {x : Str} {v : V} {u : Value} {Q : Unit → Shared → Prop} (I : Inv X pins σ H s) (hN : X.N.Nodup) (hi : X.N[i]? = some x) (hx : Loc X.env.scope x) (r : RelV v u)
    (h : ∀ s', Inv X pins (σ.set i (some v)) H s' → Q () s') (hf : X.fn x = true ∨ X.env.scope.names.lookup x = some .local := by first | exact .inl rfl | exact .inr rfl | assumption) : wpAny M A (storeName X.env x u) Q E s :=
  store_ok2 I hN hi hx r (fun s' I' _ => h s' I') hf
theorem Inv.call' {s' : Shared} {ch : List Addr} (I : Inv X pins σ H s) (ho : s'.os = s.os) (u : Un (frs X.stack) ch H H' s.heap s'.heap) (hok : HOk X.prog X.w H' s'.heap) (hg : AllBare s'.gens)
    (hch : ∀ b ∈ ch, (b ∈ X.ex ∨ X.s_0.heap.objs.size ≤ b) ∧ b ≠ X.env.locals ∧ (∀ x c, X.env.cells.lookup x = some c → c ≠ b) ∧ ∀ p ∈ X.pn ++ pins, p.1 ≠ b) : Inv X pins σ H' s' := by
  obtain ⟨h', g', d', t', o'⟩ := s'
  have e : o' = s.os := ho
  subst e
  exact I.call (g' := g') (t' := t') (d' := d') u hok hg hch
end
abbrev XK := Value → Option Addr → Hp → Prop
abbrev St := List (Option V)
abbrev VK := V → Hp → Prop
abbrev TE := St → Hp → VK → Prop
abbrev TT := St → Hp → (Bool → Hp → Prop) → Prop
abbrev TA := St → Hp → (List V → Hp → Prop) → Prop
structure Ends where
  nx : St → Hp → Prop
  rt : VK
  bk : St → Hp → Prop := fun _ _ => False
  ct : St → Hp → Prop := fun _ _ => False
abbrev TS := Ends → St → Hp → Prop
def EP (X : Cx) (pins : List (Addr × Obj)) (σ : St) (Q : VK) (u : Value) (s' : Shared) : Prop := ∃ v H', Inv X pins σ H' s' ∧ RelV v u ∧ Q v H'
def TP (X : Cx) (pins : List (Addr × Obj)) (σ : St) (Q : Bool → Hp → Prop) (b : Bool) (s' : Shared) : Prop := ∃ H', Inv X pins σ H' s' ∧ Q b H'
def AP (X : Cx) (pins : List (Addr × Obj)) (σ : St) (Q : List V → Hp → Prop) (us : List Value) (s' : Shared) : Prop := ∃ vs H', Inv X pins σ H' s' ∧ Vals vs us ∧ Q vs H'
def SP (X : Cx) (pins : List (Addr × Obj)) (D : Ends) (f : Flow) (s' : Shared) : Prop :=
  match f with
  | .next => ∃ σ' H', Inv X pins σ' H' s' ∧ D.nx σ' H'
  | .brk => ∃ σ' H', Inv X pins σ' H' s' ∧ D.bk σ' H'
  | .cont => ∃ σ' H', Inv X pins σ' H' s' ∧ D.ct σ' H'
  | .ret u => ∃ v σ' H', Inv X pins σ' H' s' ∧ RelV v u ∧ D.rt v H'
def PE (X : Cx) (e : Expr) (t : TE) : Prop :=
  ∀ (pins : List (Addr × Obj)) (s : Shared) (σ : St) (H : Hp) (Q : VK), Inv X pins σ H s → t σ H Q → wpAny (model X.prog X.w) X.A (eval e X.env) (EP X pins σ Q) X.xe s
def PT (X : Cx) (e : Expr) (t : TT) : Prop :=
  ∀ (pins : List (Addr × Obj)) (s : Shared) (σ : St) (H : Hp) (Q : Bool → Hp → Prop), Inv X pins σ H s → t σ H Q → wpAny (model X.prog X.w) X.A (isTrue e X.env (eval e X.env)) (TP X pins σ Q) X.xe s
def PW (X : Cx) (e : Expr) (t : TT) : Prop :=
  ∀ (whole : Sem Value) (pins : List (Addr × Obj)) (s : Shared) (σ : St) (H : Hp) (Q : Bool → Hp → Prop), Inv X pins σ H s → t σ H Q → wpAny (model X.prog X.w) X.A (isTrue e X.env whole) (TP X pins σ Q) X.xe s
theorem PW.pt {X : Cx} {e : Expr} {t : TT} (h : PW X e t) : PT X e t := h _
def PA (X : Cx) (es : List Expr) (t : TA) : Prop :=
  ∀ (pos : Pos) (pins : List (Addr × Obj)) (s : Shared) (σ : St) (H : Hp) (Q : List V → Hp → Prop), Inv X pins σ H s → t σ H Q → wpAny (model X.prog X.w) X.A (spliced (backTo pos (starEach es X.env))) (AP X pins σ Q) X.xe s
def PS (X : Cx) (st : Stmt) (t : TS) : Prop :=
  ∀ (pins : List (Addr × Obj)) (s : Shared) (σ : St) (H : Hp) (D : Ends), Inv X pins σ H s → t D σ H → wpAny (model X.prog X.w) X.A (exec st X.env) (SP X pins D) X.xe s
def PSs (X : Cx) (st : List Stmt) (t : TS) : Prop :=
  ∀ (pins : List (Addr × Obj)) (s : Shared) (σ : St) (H : Hp) (D : Ends), Inv X pins σ H s → t D σ H → wpAny (model X.prog X.w) X.A (execs st X.env) (SP X pins D) X.xe s
theorem thn {α : Type} {t : Sem α} {Q Q' : α → Shared → Prop} {M : Model} {A : Around} {E : Value → Shared → Prop} {s : Shared} (h : wpAny M A t Q E s) (hQ : ∀ a s, Q a s → Q' a s) : wpAny M A t Q' E s := wpAny_mono h hQ fun _ _ x => x
end L2
namespace L2
open PySem PySem.Spec PyProof.Rows
section
variable {X : Cx}
def tVar (i : Nat) : TE := fun σ H Q => ∃ v, σ[i]? = some (some v) ∧ Q v H
def tC (v : V) : TE := fun _ H Q => Q v H
theorem pe_var {i : Nat} {x : Str} {pos : Pos} (hN : X.N[i]? = some x) (hv : Vis X.env.scope x) (hd : (x == ("__debug__" : Str)) = false := by decide) (hcd : (x == ("__classdict__" : Str)) = false := by decide) : PE X (.Name x pos) (tVar i) := by
  intro pins s σ H Q I h
  obtain ⟨v, e, h⟩ := h
  obtain ⟨m, hn, hl⟩ := I.loc
  obtain ⟨u, r, l⟩ := hl i x v hN e hv
  have fin : EP X pins σ Q u s := ⟨v, H, I, r, h⟩
  rcases l with ⟨hk, hm⟩ | ⟨hk, c, hc, hcell⟩
  · exact wpAny_Name (wpAny_loadName_local I.ok.kind hk hn hm fin) hd
  · rcases hk with hk | hk
    · exact wpAny_Name (wpAny_loadName_cell I.ok.kind hk hc hcell fin) hd
    · exact wpAny_Name (wpAny_loadName_free I.ok.kind hk hc hcell fin hcd) hd
theorem pe_int {i j pos} : PE X (.Constant (.int i) j pos) (tC (.int i)) := fun _ _ _ H _ I h => wpAny_Constant_int ⟨.int i, H, I.tok _, ⟨_, rfl⟩, h⟩
theorem pe_bl {b j pos} : PE X (.Constant (.bool b) j pos) (tC (.bl b)) := fun _ _ _ H _ I h => Constant_bool ⟨.bl b, H, I, rfl, h⟩
theorem pe_non {j pos} : PE X (.Constant .none j pos) (tC .non) := fun _ _ _ H _ I h => Constant_none ⟨.non, H, I, rfl, h⟩
def Gl (X : Cx) (x : Str) : Prop := X.env.kindOf x = some .globalImplicit
theorem ld_glob {E : Value → Shared → Prop} {pins : List (Addr × Obj)} {s : Shared} {σ : St} {H : Hp} {x : Str} {u : Value} {pos : Pos} {Q : Value → Shared → Prop} (I : Inv X pins σ H s) (hg : Gl X x) (hm : X.mg x = some u) (h : Q u s)
    (hd : (x == ("__debug__" : Str)) = false := by decide) : wpAny (model X.prog X.w) X.A (eval (.Name x pos) X.env) Q E s :=
  Calls.Name_function_global I.ok.kind hg (Calls.loadGlobal_global (by rw [I.ok.glob]; exact I.mod.glob.keeps I.bk) hm h) hd
theorem ld_blt {E : Value → Shared → Prop} {pins : List (Addr × Obj)} {s : Shared} {σ : St} {H : Hp} {x : Str} {u : Value} {pos : Pos} {Q : Value → Shared → Prop} (I : Inv X pins σ H s) (hg : Gl X x) (hm : X.mg x = none) (hv : bootBuiltins x = some u) (h : Q u s)
    (hn : x ≠ "__name__" := by decide) (hd : (x == ("__debug__" : Str)) = false := by decide) : wpAny (model X.prog X.w) X.A (eval (.Name x pos) X.env) Q E s := by
  obtain ⟨mb, h1, h2⟩ := I.mod.blt
  exact Calls.Name_function_global I.ok.kind hg (Calls.loadGlobal_builtin (by rw [I.ok.glob]; exact I.mod.glob.keeps I.bk) hm (by rw [I.ok.blt]; exact h1.keeps I.bk) ((h2 x hn).trans hv) h) hd
theorem pe_glob {x : Str} {v : V} {u : Value} {pos : Pos} (hg : Gl X x) (hm : X.mg x = some u) (r : RelV v u) (hd : (x == ("__debug__" : Str)) = false := by decide) : PE X (.Name x pos) (tC v) :=
  fun _ _ _ H _ I h => ld_glob I hg hm ⟨v, H, I, r, h⟩ hd
variable {a b : Expr} {ta tb : TE} {pos : Pos}
def tB (t : TE) : TT := fun σ H Q => t σ H fun x H1 => ∃ c, x = .bl c ∧ Q c H1
theorem pt_val {e : Expr} {t : TE} (h : PE X e t) (he : ∀ whole, isTrue e X.env whole = (do let v ← whole; standAt e.pos; holding [v] (truthy v)) := by intro _; rfl) : PT X e (tB t) := by
  intro pins s σ H Q I hw
  refine isTrue_plain (thn (h pins s σ H _ I hw) fun v s1 ⟨x, H1, I1, r1, q1⟩ => ?_) (he _)
  obtain ⟨d, rfl, q⟩ := q1
  cases r1
  exact wpAny_truthy_bool ⟨H1, I1, q⟩
variable {tA tB' : TT} {rest : List Expr}
def tAnd (t u : TT) : TT := fun σ H Q => t σ H fun c H1 => if c = true then u σ H1 Q else Q false H1
def tOr (t u : TT) : TT := fun σ H Q => t σ H fun c H1 => if c = true then Q true H1 else u σ H1 Q
theorem pw_and1 (ha : PT X a tA) : PW X (.BoolOp .And [a] pos) tA := by
  intro wh pins s σ H Q I h
  refine isTrue_and (thn (ha pins s σ H Q I h) fun c s1 e => ?_)
  cases c with
  | true => exact isTrue_and_nil e
  | false => exact e
theorem pw_or1 (ha : PT X a tA) : PW X (.BoolOp .Or [a] pos) tA := by
  intro wh pins s σ H Q I h
  refine isTrue_or (thn (ha pins s σ H Q I h) fun c s1 e => ?_)
  cases c with
  | false => exact isTrue_or_nil e
  | true => exact e
theorem pw_and (ha : PT X a tA) (hb : PW X (.BoolOp .And (b :: rest) pos) tB') : PW X (.BoolOp .And (a :: b :: rest) pos) (tAnd tA tB') := by
  intro wh pins s σ H Q I h
  refine isTrue_and (thn (ha pins s σ H _ I h) fun c s1 ⟨H1, I1, q1⟩ => ?_)
  cases c with
  | true => exact hb wh pins s1 σ H1 Q I1 q1
  | false => exact ⟨H1, I1, q1⟩
theorem pw_or (ha : PT X a tA) (hb : PW X (.BoolOp .Or (b :: rest) pos) tB') : PW X (.BoolOp .Or (a :: b :: rest) pos) (tOr tA tB') := by
  intro wh pins s σ H Q I h
  refine isTrue_or (thn (ha pins s σ H _ I h) fun c s1 ⟨H1, I1, q1⟩ => ?_)
  cases c with
  | true => exact ⟨H1, I1, q1⟩
  | false => exact hb wh pins s1 σ H1 Q I1 q1
def tAndV (ta tb : TE) : TE := fun σ H Q => ta σ H fun x H1 => ∃ c, x = .bl c ∧ if c = true then tb σ H1 Q else Q (.bl false) H1
theorem pe_one {op} {t : TE} (h : PE X a t) : PE X (.BoolOp op [a] pos) t := fun pins s σ H Q I hw => BoolOp_one (h pins s σ H Q I hw)
theorem pe_and (ha : PE X a ta) (hb : PE X (.BoolOp .And (b :: rest) pos) tb) : PE X (.BoolOp .And (a :: b :: rest) pos) (tAndV ta tb) := by
  intro pins s σ H Q I h
  refine BoolOp_and (thn (ha pins s σ H _ I h) fun v s1 ⟨x, H1, I1, r1, q1⟩ => ?_)
  obtain ⟨c, rfl, q1⟩ := q1
  cases r1
  refine wpAny_truthy_bool ?_
  cases c with
  | true => exact hb pins s1 σ H1 Q I1 q1
  | false => exact ⟨.bl false, H1, I1, rfl, q1⟩
def tIf (t : TT) (ta tb : TE) : TE := fun σ H Q => t σ H fun c H1 => if c = true then ta σ H1 Q else tb σ H1 Q
theorem pe_ifExp {c : Expr} (hc : PT X c tA) (ha : PE X a ta) (hb : PE X b tb) : PE X (.IfExp c a b pos) (tIf tA ta tb) := by
  intro pins s σ H Q I h
  refine wpAny_IfExp (thn (hc pins s σ H _ I h) fun d s1 ⟨H1, I1, q1⟩ => ?_)
  cases d with
  | true => exact ha pins s1 σ H1 Q I1 q1
  | false => exact hb pins s1 σ H1 Q I1 q1
end
end L2
namespace L2
open PySem PySem.Spec PyProof.Rows
def SqL (K : PySem.W.Frag) (H : Hp) (a : Addr) (xs : List V) : Prop :=
  Rd H a (.lst xs) ∨
    ∃ (o : Obj) (its : Array Value) (n : Nat), K.lookup a = some o ∧ o.cls = .type "list" ∧ o.dict = none ∧ o.data = .seq its n ∧ its.size ≤ sizeLine ∧ Vals xs its.toList
def SqT (K : PySem.W.Frag) (H : Hp) (a : Addr) (xs : List V) : Prop :=
  Rd H a (.tup xs) ∨
    ∃ (o : Obj) (its : Array Value) (n : Nat), K.lookup a = some o ∧ o.cls = .type "tuple" ∧ o.data = .seq its n ∧ its.size ≤ sizeLine ∧ Vals xs its.toList
def absV : Value → Option V
  | .none => some .non
  | .bool b => some (.bl b)
  | .int i _ => some (.int i)
  | .str x _ => some (.str x)
  | .bytes b _ => some (.byt b)
  | .float b _ => some (.flt b)
  | .ref a => some (.ref a)
  | .type n => some (.ty n)
  | _ => none
theorem RelV.abs {x : V} {u : Value} (r : RelV x u) : absV u = some x := by
  cases x with
  | non => cases r; rfl
  | bl _ => cases r; rfl
  | int _ => obtain ⟨t, rfl⟩ := r; rfl
  | str _ => obtain ⟨t, rfl⟩ := r; rfl
  | byt _ => obtain ⟨t, rfl⟩ := r; rfl
  | flt _ => obtain ⟨t, rfl⟩ := r; rfl
  | ref _ => cases r; rfl
  | ty _ => cases r; rfl
theorem RelV.inj {x y : V} {u : Value} (r : RelV x u) (q : RelV y u) : x = y := Option.some.inj (r.abs.symm.trans q.abs)
theorem Vals.inj : ∀ {xs ys : List V} {us : List Value}, Vals xs us → Vals ys us → xs = ys
  | _, _, _, .nil, .nil => rfl
  | _, _, _, .cons r t, .cons r' t' => by rw [r.inj r', Vals.inj t t']
section
variable {X : Cx} {pins : List (Addr × Obj)} {σ : St} {H : Hp} {s : Shared} {a : Addr} {xs ys : List V}
theorem SqL.of {K : PySem.W.Frag} (h : H a = some (.lst xs)) : SqL K H a xs := .inl (.inl h)
theorem SqT.of {K : PySem.W.Frag} (h : H a = some (.tup xs)) : SqT K H a xs := .inl (.inl h)
theorem Inv.list (I : Inv X pins σ H s) (h : SqL X.K H a xs) : ∃ its : List Value, Vals xs its ∧ PlainL s.heap a its.toArray ∧ xs.length ≤ sizeLine := by
  rcases h with h | ⟨o, its, n, hk, hc, hd, hs, hz, r⟩
  · obtain ⟨z, its, n, r, e⟩ := h.ok I.hok
    exact ⟨its, r, ⟨_, n, e, rfl, rfl, rfl⟩, z⟩
  · refine ⟨its.toList, r, ⟨o, n, I.kIn a o hk, hc, hd, by simpa using hs⟩, ?_⟩
    have e := r.length
    simp only [Array.length_toList] at e
    omega
theorem Inv.tuple (I : Inv X pins σ H s) (h : SqT X.K H a xs) : ∃ its : List Value, Vals xs its ∧ IsTup s.heap a its.toArray ∧ xs.length ≤ sizeLine := by
  rcases h with h | ⟨o, its, n, hk, hc, hs, hz, r⟩
  · obtain ⟨z, its, r, p⟩ := h.ok I.hok
    exact ⟨its, r, p, z⟩
  · refine ⟨its.toList, r, ⟨o, I.kIn a o hk, hc, n, by simpa using hs⟩, ?_⟩
    have e := r.length
    simp only [Array.length_toList] at e
    omega
theorem Inv.list_inj (I : Inv X pins σ H s) (h : SqL X.K H a xs) (h' : SqL X.K H a ys) : xs = ys := by
  obtain ⟨its, r, ⟨o, n, e, _, _, d⟩, _⟩ := I.list h
  obtain ⟨its', r', ⟨o', n', e', _, _, d'⟩, _⟩ := I.list h'
  rw [e] at e'; cases e'
  rw [d] at d'
  injection d' with d1 _
  have : its = its' := by simpa using congrArg Array.toList d1
  subst this
  exact r.inj r'
theorem Inv.tuple_inj (I : Inv X pins σ H s) (h : SqT X.K H a xs) (h' : SqT X.K H a ys) : xs = ys := by
  obtain ⟨its, r, ⟨o, e, _, n, d⟩, _⟩ := I.tuple h
  obtain ⟨its', r', ⟨o', e', _, n', d'⟩, _⟩ := I.tuple h'
  rw [e] at e'; cases e'
  rw [d] at d'
  injection d' with d1 _
  have : its = its' := by simpa using congrArg Array.toList d1
  subst this
  exact r.inj r'
end
abbrev Cx.wish (X : Cx) (E : Value → Shared → Prop) : Cx := { X with xe := E }
abbrev Cx.nox (X : Cx) : Cx := X.wish fun _ _ => False
theorem Cx.Ok.wish {X : Cx} (ok : X.Ok) (E : Value → Shared → Prop) : (X.wish E).Ok :=
  ⟨ok.mod, ok.kind, ok.glob, ok.blt, ok.above, ok.inj, ok.has, ok.cab, ok.hd, ok.frames, ok.stk, ok.exf, ok.bs, ok.bsz, ok.noex, ok.exfs, ok.funs, ok.frf⟩
theorem Cx.Ok.unwish {X : Cx} {E : Value → Shared → Prop} (ok : (X.wish E).Ok) : X.Ok :=
  ⟨ok.mod, ok.kind, ok.glob, ok.blt, ok.above, ok.inj, ok.has, ok.cab, ok.hd, ok.frames, ok.stk, ok.exf, ok.bs, ok.bsz, ok.noex, ok.exfs, ok.funs, ok.frf⟩
section
variable {X : Cx} {pins : List (Addr × Obj)} {σ : St} {H : Hp} {s : Shared} {E : Value → Shared → Prop}
theorem Inv.wish (I : Inv X pins σ H s) (E : Value → Shared → Prop) : Inv (X.wish E) pins σ H s := ⟨I.ok.wish E, I.os, I.bare, I.base, I.loc, I.cell, I.free, I.freeC, I.pin, I.hok, I.len⟩
theorem Inv.unwish (I : Inv (X.wish E) pins σ H s) : Inv X pins σ H s := ⟨I.ok.unwish, I.os, I.bare, I.base, I.loc, I.cell, I.free, I.freeC, I.pin, I.hok, I.len⟩
theorem SP.unwish {D : Ends} {f : Flow} {s' : Shared} (h : SP (X.wish E) pins D f s') : SP X pins D f s' := by
  cases f with
  | next => obtain ⟨σ', H', I, q⟩ := h; exact ⟨σ', H', I.unwish, q⟩
  | brk => obtain ⟨σ', H', I, q⟩ := h; exact ⟨σ', H', I.unwish, q⟩
  | cont => obtain ⟨σ', H', I, q⟩ := h; exact ⟨σ', H', I.unwish, q⟩
  | ret u => obtain ⟨v, σ', H', I, r, q⟩ := h; exact ⟨v, σ', H', I.unwish, r, q⟩
theorem PSs.nox {st : List Stmt} {t : TS} (h : PSs X.nox st t) : PSs X st t := fun pins s σ H D I hw =>
  wpAny_mono (h pins s σ H D (I.wish _) hw) (fun _ _ q => q.unwish) fun _ _ z => False.elim z
end
section
variable {X : Cx} {st : Stmt} {rest : List Stmt} {t u : TS} {e : Expr} {te : TE} {pos : Pos}
def tNext : TS := fun D σ H => D.nx σ H
def tSeq (t u : TS) : TS := fun D σ H => t { D with nx := u D } σ H
theorem pss_nil : PSs X [] tNext := fun _ _ σ H _ I h => wpAny_execs_nil ⟨σ, H, I, h⟩
theorem pss_cons (h1 : PS X st t) (h2 : PSs X rest u) : PSs X (st :: rest) (tSeq t u) := by
  intro pins s σ H D I h
  refine wpAny_execs_cons (thn (h1 pins s σ H { D with nx := u D } I h) fun f s1 q => ?_)
  cases f with
  | next =>
    obtain ⟨σ', H', I', q⟩ := q
    exact h2 pins s1 σ' H' D I' q
  | ret v => exact q
  | brk => exact q
  | cont => exact q
theorem pss_one (h1 : PS X st t) : PSs X [st] t := by
  intro pins s σ H D I h
  refine wpAny_execs_cons (thn (h1 pins s σ H D I h) fun f s1 q => ?_)
  cases f with
  | next => exact wpAny_execs_nil q
  | ret v => exact q
  | brk => exact q
  | cont => exact q
theorem Inv.quiet {pins : List (Addr × Obj)} {σ : St} {H : Hp} {s : Shared} (I : Inv X pins σ H s) : interactive X.env = false := by simp [interactive, I.ok.kind]
def tDrop (te : TE) : TS := fun D σ H => te σ H fun _ H1 => D.nx σ H1
theorem ps_expr (he : PE X e te) (hs : swapsWith e none pos.line X.env = pure false := by rfl) : PS X (.Expr e pos) (tDrop te) := by
  intro pins s σ H D I h
  exact wpAny_Expr_any (thn (he pins s σ H _ I h) fun v s1 ⟨x, H1, I1, r1, q1⟩ => ⟨σ, H1, I1, q1⟩) I.quiet hs
def tRet (te : TE) : TS := fun D σ H => te σ H D.rt
theorem ps_ret (he : PE X e te) : PS X (.Return (some e) pos) (tRet te) := by
  intro pins s σ H D I h
  exact wpAny_Return_some (thn (he pins s σ H _ I h) fun v s1 ⟨x, H1, I1, r1, q1⟩ => ⟨x, σ, H1, I1, r1, q1⟩)
def tIfS (c : TT) (t u : TS) : TS := fun D σ H => c σ H fun b H1 => if b = true then t D σ H1 else u D σ H1
theorem ps_if {c : Expr} {a b : List Stmt} {tc : TT} (hc : PT X c tc) (ha : PSs X a t) (hb : PSs X b u) : PS X (.If c a b pos) (tIfS tc t u) := by
  intro pins s σ H D I h
  refine wpAny_If (thn (hc pins s σ H _ I h) fun d s1 ⟨H1, I1, q1⟩ => ?_)
  cases d with
  | true => exact ha pins s1 σ H1 D I1 q1
  | false => exact hb pins s1 σ H1 D I1 q1
end
abbrev TG := V → St → Hp → (St → Hp → Prop) → Prop
abbrev TGs := List V → St → Hp → (St → Hp → Prop) → Prop
def PG (X : Cx) (target : Expr) (t : TG) : Prop :=
  ∀ (pins : List (Addr × Obj)) (s : Shared) (σ : St) (H : Hp) (v : V) (u : Value) (Q : St → Hp → Prop), Inv X pins σ H s → RelV v u → t v σ H Q →
    wpAny (model X.prog X.w) X.A (assign target X.env u) (fun _ s' => ∃ σ' H', Inv X pins σ' H' s' ∧ Q σ' H') X.xe s
def PGs (X : Cx) (ts : List Expr) (t : TGs) : Prop :=
  ∀ (pins : List (Addr × Obj)) (s : Shared) (σ : St) (H : Hp) (vs : List V) (us : List Value) (Q : St → Hp → Prop), Inv X pins σ H s → Vals vs us → t vs σ H Q →
    wpAny (model X.prog X.w) X.A (assignInOrder ((assignEach ts X.env).map (·.2)) us) (fun _ s' => ∃ σ' H', Inv X pins σ' H' s' ∧ Q σ' H') X.xe s
section
variable {X : Cx} {pos : Pos}
def gName (i : Nat) : TG := fun v σ H Q => Q (σ.set i (some v)) H
theorem pg_name {i : Nat} {x : Str} (hN : X.N.Nodup) (hi : X.N[i]? = some x) (hx : Loc X.env.scope x) (hf : X.fn x = true ∨ X.env.scope.names.lookup x = some .local := by first | exact .inl rfl | exact .inr rfl | assumption) : PG X (.Name x pos) (gName i) := by
  intro pins s σ H v u Q I r h
  exact wpAny_assign_Name (store_ok I hN hi hx r (fun s' I' => ⟨_, H, I', h⟩) hf)
def gNil : TGs := fun vs σ H Q => vs = [] ∧ Q σ H
def gCons (t : TG) (u : TGs) : TGs := fun vs σ H Q => ∃ v r, vs = v :: r ∧ t v σ H fun σ' H' => u r σ' H' Q
theorem pgs_nil : PGs X [] gNil := by
  intro pins s σ H vs us Q I r h
  obtain ⟨e, h⟩ := h
  subst e
  cases r
  exact assignInOrder_nil ⟨σ, H, I, h⟩
theorem pgs_cons {e : Expr} {es : List Expr} {t : TG} {u : TGs} (h1 : PG X e t) (h2 : PGs X es u)
    (hs : (assignEach (e :: es) X.env).map (·.2) = assign e X.env :: (assignEach es X.env).map (·.2) := by rfl) : PGs X (e :: es) (gCons t u) := by
  intro pins s σ H vs us Q I r h
  obtain ⟨v, vr, e1, h⟩ := h
  subst e1
  cases r with
  | cons r rr =>
    rw [hs]
    refine assignInOrder_cons (thn (h1 pins s σ H _ _ _ I r h) fun _ s1 ⟨σ1, H1, I1, q1⟩ => ?_)
    exact h2 pins s1 σ1 H1 _ _ Q I1 rr q1
def gTup (K : PySem.W.Frag) (n : Nat) (t : TGs) : TG := fun v σ H Q => ∃ a xs, v = .ref a ∧ SqT K H a xs ∧ xs.length = n ∧ t xs σ H Q
theorem pg_tup {es : List Expr} {k : Nat} {t : TGs} {n : Nat} (hc : X.calm = true) (h : PGs X es t)
    (hn : (assignEach es X.env).length = n := by rfl) (hst : (assignEach es X.env).findIdx? (·.1) = none := by rfl) : PG X (.Tuple es k pos) (gTup X.K n t) := by
  intro pins s σ H v u Q I r hw
  obtain ⟨a, xs, e1, hq, hl, hw⟩ := hw
  subst e1
  cases r
  obtain ⟨its, rv, ht, hz⟩ := I.tuple hq
  refine assign_Tuple_tuple (I.ok.hd hc) ht (by simp [hn, ← hl, rv.length]) hst fun h' hx => ?_
  have I1 : Inv X pins σ H { s with heap := h' } := I.kept (t' := s.toks) fun b o e => hx b o (Nat.ne_of_lt (Heap.lt_size e)) e
  exact h pins _ σ H xs _ Q I1 (by simpa using rv) hw
def tAsg (te : TE) (g : TG) : TS := fun D σ H => te σ H fun x H1 => g x σ H1 D.nx
theorem ps_asg {tg e : Expr} {te : TE} {g : TG} (he : PE X e te) (hg : PG X tg g) (hs : swapsWithSole [tg] e pos.line X.env = pure false := by rfl) (hw : swappedStores [tg] e X.env = pure none := by rfl)
    (h1 : (assignEach [tg] X.env).map (·.2) = [assign tg X.env] := by rfl) : PS X (.Assign [tg] e pos) (tAsg te g) := by
  intro pins s σ H D I h
  refine wpAny_Assign_stores (thn (he pins s σ H _ I h) fun v s1 ⟨x, H1, I1, r1, q1⟩ => ?_) hs hw
  rw [h1]
  exact thn (hg pins s1 σ H1 x v _ I1 r1 q1) fun _ s2 q => q
theorem ps_set {i : Nat} {x : Str} {e : Expr} {te : TE} {pos' : Pos} (hN : X.N.Nodup) (hi : X.N[i]? = some x) (hx : Loc X.env.scope x) (he : PE X e te) (hs : swapsWith e (some (.Name x pos')) pos.line X.env = pure false := by rfl) (hf : X.fn x = true ∨ X.env.scope.names.lookup x = some .local := by first | exact .inl rfl | exact .inr rfl | assumption) :
    PS X (.Assign [.Name x pos'] e pos) (tAsg te (gName i)) := by
  intro pins s σ H D I h
  refine wpAny_Assign_Name (thn (he pins s σ H _ I h) fun v s1 ⟨y, H1, I1, r1, q1⟩ => ?_) hs
  exact store_ok I1 hN hi hx r1 (fun s2 I2 => ⟨_, H1, I2, q1⟩) hf
end
section
variable {X : Cx} {pos : Pos}
def tWhile (c : TT) (tb : TS) : TS := fun D σ H => ∃ W : Nat → St → Hp → Prop, (∃ m, W m σ H) ∧ ∀ m σ H, W m σ H →
  c σ H fun b H1 => if b = true then ∃ N : St → Hp → Prop, (∀ σ' H', N σ' H' → ∃ m', m' < m ∧ W m' σ' H') ∧ tb { D with nx := N, ct := N, bk := D.nx } σ H1 else D.nx σ H1
theorem ps_while {c : Expr} {body : List Stmt} {tc : TT} {tb : TS} (hp : PassesOwn (model X.prog X.w) X.A X.env X.xe) (hc : PT X c tc) (hb : PSs X body tb) : PS X (.While c body [] pos) (tWhile tc tb) := by
  intro pins s σ H D I h
  obtain ⟨W, ⟨m0, w0⟩, turn⟩ := h
  refine wpAny_While (codeAny_whileLoop (fun n s' => ∃ σ' H', Inv X pins σ' H' s' ∧ W n σ' H') ?_ m0 ⟨σ, H, I, w0⟩)
  rintro n s1 ⟨σ1, H1, I1, w1⟩
  refine wpAny_passesOwn hp (thn (hc pins s1 σ1 H1 _ I1 (turn n σ1 H1 w1)) fun b s2 ⟨H2, I2, q2⟩ => ?_)
  cases b with
  | true =>
    obtain ⟨N, hN, q2⟩ := q2
    rw [if_pos rfl]
    refine wpAny_passesOwn hp (thn (hb pins s2 σ1 H2 _ I2 q2) fun f s3 q3 => ?_)
    cases f with
    | next =>
      obtain ⟨σ3, H3, I3, n3⟩ := q3
      obtain ⟨m', hm, w3⟩ := hN σ3 H3 n3
      exact ⟨m', hm, σ3, H3, I3, w3⟩
    | cont =>
      obtain ⟨σ3, H3, I3, n3⟩ := q3
      obtain ⟨m', hm, w3⟩ := hN σ3 H3 n3
      exact ⟨m', hm, σ3, H3, I3, w3⟩
    | brk => exact q3
    | ret v => exact q3
  | false =>
    rw [if_neg Bool.false_ne_true]
    exact wpAny_execs_nil ⟨σ1, H2, I2, q2⟩
end
structure It where
  go : Nat → Hp → Prop
  yld : Nat → Hp → V → Hp → Prop
  stop : Nat → Hp → Prop
def FpOk (X : Cx) (pins : List (Addr × Obj)) (H : Hp) (b : Addr) : Prop :=
  H b = none ∧ b ≠ X.env.locals ∧ b ∉ X.fs ∧ (b ∈ X.ex ∨ X.s_0.heap.objs.size ≤ b) ∧ (∀ x c, X.env.cells.lookup x = some c → c ≠ b) ∧ ∀ p ∈ X.pn ++ pins, p.1 ≠ b
theorem Inv.fpOk {X : Cx} {pins : List (Addr × Obj)} {σ : St} {H H' : Hp} {s : Shared} {b : Addr} (I : Inv X pins σ H s) (hb : s.heap.objs.size ≤ b) (hn : H' b = none) : FpOk X pins H' b := by
  refine ⟨hn, Nat.ne_of_gt (Nat.lt_of_lt_of_le I.lt hb), I.nofs hb, .inr (Nat.le_trans I.sz hb), fun x c e z => ?_, fun p hp z => ?_⟩
  · obtain ⟨v, q⟩ := I.cell x c e
    exact absurd (Nat.lt_of_lt_of_le q.lt (by rw [z]; exact hb)) (Nat.lt_irrefl _)
  · exact absurd (Nat.lt_of_lt_of_le (Heap.lt_size (I.pin p hp).1) (by rw [z]; exact hb)) (Nat.lt_irrefl _)
structure Turn (P : Program) (w : World) (K : PySem.W.Frag) (tg : Expr) (J : It) (fp : List Addr) (it : Addr) (tn : Nat → Heap → Prop) : Prop where
  mem : it ∈ fp
  obj : ∀ i h, tn i h → ∀ b ∈ fp, ∃ o, h.get? b = some o ∧ ∀ v, o.data ≠ .cell v
  keep : ∀ i h h', tn i h → (∀ b ∈ fp, ∀ o, h.get? b = some o → h'.get? b = some o) → tn i h'
  item : ∀ (X : Cx), X.prog = P → X.w = w → X.K = K → X.calm = true → ∀ (i : Nat) (pins : List (Addr × Obj)) (s : Shared) (σ : St) (H : Hp) (E : Value → Shared → Prop), Inv X pins σ H s → (∀ b ∈ fp, FpOk X pins H b) → tn i s.heap → J.go i H →
    wpAny (model P w) X.A (pyNext (.ref it)) (fun r s1 => ∃ u, r = some u ∧
      wpAny (model P w) X.A (letOwnedTupleGo tg (.ref it) u) (fun _ s2 => ∃ x H', Inv X pins σ H' s2 ∧ RelV x u ∧ J.yld i H x H' ∧ tn (i + 1) s2.heap ∧ ∀ b ∈ fp, H' b = none) E s1) E s
  done : ∀ (X : Cx), X.prog = P → X.w = w → X.K = K → X.calm = true → ∀ (i : Nat) (pins : List (Addr × Obj)) (s : Shared) (σ : St) (H : Hp) (E : Value → Shared → Prop), Inv X pins σ H s → (∀ b ∈ fp, FpOk X pins H b) → tn i s.heap → J.stop i H →
    wpAny (model P w) X.A (pyNext (.ref it)) (fun r s1 => r = none ∧ Inv X pins σ H s1) E s
  self : ∀ (A : Around) (i : Nat) (s : Shared) (Q : Value → Shared → Prop) (E : Value → Shared → Prop), tn i s.heap → Q (.ref it) s → wpAny (model P w) A (pyIter (.ref it)) Q E s
abbrev TI := St → Hp → (It → Hp → Prop) → Prop
def PIE (X : Cx) (pins : List (Addr × Obj)) (σ : St) (tg : Expr) (R : It → Hp → Prop) (itv : Value) (s2 : Shared) : Prop :=
  ∃ (it : Addr) (fp : List Addr) (tn : Nat → Heap → Prop) (J : It) (H' : Hp), itv = .ref it ∧ Inv X pins σ H' s2 ∧ Turn X.prog X.w X.K tg J fp it tn ∧ tn 0 s2.heap ∧ (∀ b ∈ fp, FpOk X pins H' b) ∧ R J H'
def PI (X : Cx) (tg iter : Expr) (wi : TI) : Prop :=
  ∀ (pins : List (Addr × Obj)) (s : Shared) (σ : St) (H : Hp) (R : It → Hp → Prop), Inv X pins σ H s → wi σ H R →
    wpAny (model X.prog X.w) X.A (eval iter X.env) (fun v s1 => wpAny (model X.prog X.w) X.A (pyIter v) (PIE X pins σ tg R) X.xe s1) X.xe s
theorem go_of {M : Model} {A : Around} {E : Value → Shared → Prop} {s : Shared} {tg : Expr} {it : Addr} {u : Value} {o : Obj} {n : String} {vs : Array Value} {Q : Unit → Shared → Prop} (ho : s.heap.get? it = some o) (hc : o.cls = .type n) (hd : o.data = .fields vs)
    (hn : ["enumerate", "zip", "dict_itemiterator", "dict_reverseitemiterator", "odict_iterator", "itertools.zip_longest", "itertools.pairwise"].contains n = false) (hQ : Q () s) : wpAny M A (letOwnedTupleGo tg (.ref it) u) Q E s := by
  unfold letOwnedTupleGo
  cases tg <;> first
    | exact wpAny_pure hQ
    | (cases u <;> first
        | exact wpAny_pure hQ
        | (refine wpAny_bind (wpAny_load ho ?_)
           rw [hc, hd]
           show wpAny M A (if (["enumerate", "zip", "dict_itemiterator", "dict_reverseitemiterator", "odict_iterator", "itertools.zip_longest", "itertools.pairwise"].contains n && vs[0]? == some (rawInt _)) = true then _ else _) Q E s
           rw [if_neg (by intro h; rw [hn, Bool.false_and] at h; cases h)]
           exact wpAny_pure hQ))
def Itl (K : PySem.W.Frag) (a : Addr) : It :=
  ⟨fun i H => ∃ xs x, SqL K H a xs ∧ xs[i]? = some x, fun i H x H' => H' = H ∧ ∀ xs, SqL K H a xs → xs[i]? = some x, fun i H => ∃ xs, SqL K H a xs ∧ xs.length ≤ i⟩
def Itt (K : PySem.W.Frag) (a : Addr) : It :=
  ⟨fun i H => ∃ xs x, SqT K H a xs ∧ xs[i]? = some x, fun i H x H' => H' = H ∧ ∀ xs, SqT K H a xs → xs[i]? = some x, fun i H => ∃ xs, SqT K H a xs ∧ xs.length ≤ i⟩
def Itr (lo : Int) (n : Nat) : It := ⟨fun i _ => i < n, fun i H x H' => H' = H ∧ x = .int (lo + i), fun i _ => n ≤ i⟩
theorem turn_list {P : Program} {w : World} {K : PySem.W.Frag} {tg : Expr} (a it : Addr) : Turn P w K tg (Itl K a) [it] it (fun i h => h.IsListIter it a i) where
  mem := by simp
  obj := fun i h st b hb => by
    have e : b = it := by simpa using hb
    subst e
    obtain ⟨o, e, c, d⟩ := st
    exact ⟨o, e, fun v z => by rw [d] at z; cases z⟩
  keep := fun i h h' st k => st.at fun o e => k it (by simp) o e
  item := by
    intro X hP hw hK hc i pins s σ H E I hf st hg
    subst hP hw hK
    obtain ⟨xs, x, hq, hx⟩ := hg
    obtain ⟨its, rv, p, hz⟩ := I.list hq
    obtain ⟨u, hu, ru⟩ := rv.get hx
    obtain ⟨f0, f1, f2, f3, f4, f5⟩ := hf it (by simp)
    refine wpAny_pyNext_list_item st p.isList (x := u) (by simpa using hu) fun h' st' sb => ?_
    have I1 : Inv X pins σ H { s with heap := h' } := I.turned (t' := s.toks) (fun b o hb e => (sb.2 b hb).trans e) f0 f1 f3 f4 f5
    obtain ⟨o, e, c, d⟩ := id st'
    exact ⟨u, rfl, go_of (s := { s with heap := h' }) e c d (by decide) ⟨x, H, I1, ru, ⟨rfl, fun ys hy => by rw [I.list_inj hy hq]; exact hx⟩, st', fun b hb => (hf b hb).1⟩⟩
  done := by
    intro X hP hw hK hc i pins s σ H E I hf st hg
    subst hP hw hK
    obtain ⟨xs, hq, hx⟩ := hg
    obtain ⟨its, rv, p, hz⟩ := I.list hq
    obtain ⟨f0, f1, f2, f3, f4, f5⟩ := hf it (by simp)
    have hl := rv.length
    exact wpAny_pyNext_list_end (I.ok.hd hc) st p.isList (by simp; omega) fun h' eb => ⟨rfl, I.turned (t' := s.toks) (fun b o hb e => eb b o hb e) f0 f1 f3 f4 f5⟩
  self := fun _ _ _ _ _ st h => wpAny_pyIter_listiter st h
theorem turn_tuple {P : Program} {w : World} {K : PySem.W.Frag} {tg : Expr} (a it : Addr) : Turn P w K tg (Itt K a) [it] it (fun i h => h.IsTupleIter it a i) where
  mem := by simp
  obj := fun i h st b hb => by
    have e : b = it := by simpa using hb
    subst e
    obtain ⟨o, e, c, d⟩ := st
    exact ⟨o, e, fun v z => by rw [d] at z; cases z⟩
  keep := fun i h h' st k => st.at fun o e => k it (by simp) o e
  item := by
    intro X hP hw hK hc i pins s σ H E I hf st hg
    subst hP hw hK
    obtain ⟨xs, x, hq, hx⟩ := hg
    obtain ⟨its, rv, p, hz⟩ := I.tuple hq
    obtain ⟨u, hu, ru⟩ := rv.get hx
    obtain ⟨f0, f1, f2, f3, f4, f5⟩ := hf it (by simp)
    refine wpAny_pyNext_tuple_item st (show s.heap.IsTuple a its.toArray from p) (x := u) (by simpa using hu) fun h' st' sb => ?_
    have I1 : Inv X pins σ H { s with heap := h' } := I.turned (t' := s.toks) (fun b o hb e => (sb.2 b hb).trans e) f0 f1 f3 f4 f5
    obtain ⟨o, e, c, d⟩ := id st'
    exact ⟨u, rfl, go_of (s := { s with heap := h' }) e c d (by decide) ⟨x, H, I1, ru, ⟨rfl, fun ys hy => by rw [I.tuple_inj hy hq]; exact hx⟩, st', fun b hb => (hf b hb).1⟩⟩
  done := by
    intro X hP hw hK hc i pins s σ H E I hf st hg
    subst hP hw hK
    obtain ⟨xs, hq, hx⟩ := hg
    obtain ⟨its, rv, p, hz⟩ := I.tuple hq
    obtain ⟨f0, f1, f2, f3, f4, f5⟩ := hf it (by simp)
    have hl := rv.length
    exact wpAny_pyNext_tuple_end (I.ok.hd hc) st (show s.heap.IsTuple a its.toArray from p) (by simp; omega) fun h' eb => ⟨rfl, I.turned (t' := s.toks) (fun b o hb e => eb b o hb e) f0 f1 f3 f4 f5⟩
  self := fun _ _ _ _ _ st h => wpAny_pyIter_tupleiter st h
theorem turn_range {P : Program} {w : World} {K : PySem.W.Frag} {tg : Expr} (it : Addr) (lo : Int) (n : Nat) : Turn P w K tg (Itr lo n) [it] it (fun i h => IsRangeIter h it (lo + (i : Nat) * 1) ((n : Int) - (i : Nat)) 1) where
  mem := by simp
  obj := fun i h st b hb => by
    have e : b = it := by simpa using hb
    subst e
    exact ⟨_, st, fun v z => by
      have z' : Data.fields _ = Data.cell v := z
      cases z'⟩
  keep := fun i h h' st k => k it (by simp) _ st
  item := by
    intro X hP hw hK hc i pins s σ H E I hf st hg
    subst hP hw hK
    obtain ⟨f0, f1, f2, f3, f4, f5⟩ := hf it (by simp)
    have W := Walks.range (prog := X.prog) (w := X.w) (I.ok.hd hc) it lo 1 n
    refine W.item i s _ _ hg st fun v h' tk hv st' kk => ?_
    obtain ⟨t, rfl⟩ := hv
    have I1 : Inv X pins σ H { s with heap := h', toks := tk } := I.turned (fun b o hb e => kk b o (by simpa using hb) e) f0 f1 f3 f4 f5
    refine ⟨_, rfl, go_of (s := { s with heap := h', toks := tk }) (n := "range_iterator") st' rfl rfl (by decide) ⟨.int (lo + i), H, I1, ⟨t, ?_⟩, ⟨rfl, rfl⟩, st', fun b hb => (hf b hb).1⟩⟩
    rw [Int.mul_one]
  done := by
    intro X hP hw hK hc i pins s σ H E I hf st hg
    subst hP hw hK
    obtain ⟨f0, f1, f2, f3, f4, f5⟩ := hf it (by simp)
    exact wpAny_pyNext_range_end (I.ok.hd hc) st (by have : n ≤ i := hg; omega) fun h' eb => ⟨rfl, I.turned (t' := s.toks) (fun b o hb e => eb b o hb e) f0 f1 f3 f4 f5⟩
  self := fun _ _ _ _ _ st h => wpAny_pyIter_rangeiter st h
end L2
namespace L2
open PySem PySem.Spec PyProof.Rows
section
variable {X : Cx} {tg : Expr}
def iList (K : PySem.W.Frag) (tl : TE) : TI := fun σ H R => tl σ H fun x H1 => ∃ a, x = .ref a ∧ (∃ xs, SqL K H1 a xs) ∧ R (Itl K a) H1
def iTup (K : PySem.W.Frag) (tl : TE) : TI := fun σ H R => tl σ H fun x H1 => ∃ a, x = .ref a ∧ (∃ xs, SqT K H1 a xs) ∧ R (Itt K a) H1
theorem pi_list {l : Expr} {tl : TE} (hl : PE X l tl) : PI X tg l (iList X.K tl) := by
  intro pins s σ H R I h
  refine thn (hl pins s σ H _ I h) fun v s1 ⟨x, H1, I1, r1, q1⟩ => ?_
  obtain ⟨a, e, ⟨xs, hq⟩, q⟩ := q1
  subst e
  cases r1
  obtain ⟨its, rv, p, hz⟩ := I1.list hq
  refine wpAny_pyIter_list p.isList ?_
  refine ⟨s1.heap.objs.size, [s1.heap.objs.size], _, _, H1, rfl, I1.kept (t' := s1.toks) fun b o e => Heap.get?_push_of_some _ e, turn_list a _, ⟨_, Heap.get?_push_size _ rfl, rfl, rfl⟩, fun b hb => ?_, q⟩
  have e : b = s1.heap.objs.size := by simpa using hb
  subst e
  exact I1.fpOk (Nat.le_refl _) (I1.hok.fresh (Nat.le_refl _))
theorem pi_tup {l : Expr} {tl : TE} (hl : PE X l tl) : PI X tg l (iTup X.K tl) := by
  intro pins s σ H R I h
  refine thn (hl pins s σ H _ I h) fun v s1 ⟨x, H1, I1, r1, q1⟩ => ?_
  obtain ⟨a, e, ⟨xs, hq⟩, q⟩ := q1
  subst e
  cases r1
  obtain ⟨its, rv, p, hz⟩ := I1.tuple hq
  refine wpAny_pyIter_tuple (show s1.heap.IsTuple a its.toArray from p) ?_
  refine ⟨s1.heap.objs.size, [s1.heap.objs.size], _, _, H1, rfl, I1.kept (t' := s1.toks) fun b o e => Heap.get?_push_of_some _ e, turn_tuple a _, ⟨_, Heap.get?_push_size _ rfl, rfl, rfl⟩, fun b hb => ?_, q⟩
  have e : b = s1.heap.objs.size := by simpa using hb
  subst e
  exact I1.fpOk (Nat.le_refl _) (I1.hok.fresh (Nat.le_refl _))
theorem range_it {pins : List (Addr × Obj)} {σ : St} {H : Hp} {s : Shared} {R : It → Hp → Prop} {E : Value → Shared → Prop} {lo hi : Int} {t u v : Tok} {tk : Nat} (I : Inv X pins σ H s) (h1 : -(2 ^ 62) ≤ lo) (h2 : lo < 2 ^ 62) (h3 : -(2 ^ 62) ≤ hi) (h4 : hi < 2 ^ 62)
    (q : R (Itr lo (hi - lo).toNat) H) : wpAny (model X.prog X.w) X.A (pyIter (.ref s.heap.objs.size)) (PIE X pins σ tg R) E { s with heap := s.heap.push { cls := .type "range", data := .fields #[.int lo t, .int hi u, .int 1 v] }, toks := tk } := by
  refine wpAny_pyIter_range (IsRange.new ..) (small_one h1 h2 h3 h4) ?_
  have I1 : Inv X pins σ H { s with heap := s.heap.push { cls := .type "range", data := .fields #[.int lo t, .int hi u, .int 1 v] }, toks := tk } := I.kept fun b o e => Heap.get?_push_of_some _ e
  refine ⟨(s.heap.push { cls := .type "range", data := .fields #[.int lo t, .int hi u, .int 1 v] }).objs.size, [(s.heap.push { cls := .type "range", data := .fields #[.int lo t, .int hi u, .int 1 v] }).objs.size], _, _, H, rfl,
    I1.kept (t' := tk) fun b o e => Heap.get?_push_of_some _ e, turn_range _ lo (hi - lo).toNat, ?_, fun b hb => ?_, q⟩
  · have e1 : lo + ((0 : Nat) : Int) * 1 = lo := by simp
    have e2 : (((hi - lo).toNat : Nat) : Int) - ((0 : Nat) : Int) = Builtin.Range.rangeSize lo hi 1 := by rw [rangeSize_one]; split <;> omega
    show IsRangeIter _ _ (lo + ((0 : Nat) : Int) * 1) ((((hi - lo).toNat : Nat) : Int) - ((0 : Nat) : Int)) 1
    rw [e1, e2]
    exact Heap.get?_push_size _ rfl
  · have e : b = (s.heap.push { cls := .type "range", data := .fields #[.int lo t, .int hi u, .int 1 v] }).objs.size := by simpa using hb
    subst e
    exact I1.fpOk (Nat.le_refl _) (I1.hok.fresh (Nat.le_refl _))
def iRng1 (ta : TA) : TI := fun σ H R => ta σ H fun vs H1 => ∃ j : Int, vs = [.int j] ∧ -(2 ^ 62) ≤ j ∧ j < 2 ^ 62 ∧ R (Itr 0 j.toNat) H1
def iRng2 (ta : TA) : TI := fun σ H R => ta σ H fun vs H1 => ∃ i j : Int, vs = [.int i, .int j] ∧ (-(2 ^ 62) ≤ i ∧ i < 2 ^ 62 ∧ -(2 ^ 62) ≤ j ∧ j < 2 ^ 62) ∧ R (Itr i (j - i).toNat) H1
theorem pi_range1 {a : Expr} {ta : TA} {p pos : Pos} (hg : Gl X "range") (hm : X.mg "range" = none) (ha : PA X [a] ta) (hs : starEach [a] X.env = [(false, eval a X.env)] := by rfl) : PI X tg (.Call (.Name "range" p) [a] [] pos) (iRng1 ta) := by
  intro pins s σ H R I h
  refine Call_ (ld_blt I hg hm boot_range (PyProof.Rows.callWith_type1 (thn (ha pos pins s σ H _ I h) fun us s1 ⟨vs, H1, I1, r1, q1⟩ => ?_) hs rfl))
  obtain ⟨j, e, q1, q2, q⟩ := q1
  subst e
  cases r1 with
  | cons r rr =>
    cases rr
    obtain ⟨t, rfl⟩ := r
    exact call_range_1 (range_it I1 (by omega) (by omega) q1 q2 (by simpa using q))
theorem pi_range2 {a b : Expr} {ta : TA} {p pos : Pos} (hg : Gl X "range") (hm : X.mg "range" = none) (ha : PA X [a, b] ta) (hs : starEach [a, b] X.env = [(false, eval a X.env), (false, eval b X.env)] := by rfl) (hs2 : starEach [b] X.env = [(false, eval b X.env)] := by rfl) :
    PI X tg (.Call (.Name "range" p) [a, b] [] pos) (iRng2 ta) := by
  intro pins s σ H R I h
  refine Call_ (ld_blt I hg hm boot_range (PyProof.Rows.callWith_type1 (thn (ha pos pins s σ H _ I h) fun us s1 ⟨vs, H1, I1, r1, q1⟩ => ?_) (by rw [hs, hs2]) (by rw [hs2]; rfl)))
  obtain ⟨i, j, e, ⟨q1, q2, q3, q4⟩, q⟩ := q1
  subst e
  cases r1 with
  | cons r rr =>
    cases rr with
    | cons r' rr =>
      cases rr
      obtain ⟨t, rfl⟩ := r
      obtain ⟨t', rfl⟩ := r'
      exact call_range_2 (range_it I1 q1 q2 q3 q4 q)
def tFor (wi : TI) (g : TG) (tb : TS) : TS := fun D σ H => wi σ H fun J H1 => ∃ W : Nat → Nat → St → Hp → Prop, (∃ m, W 0 m σ H1) ∧ ∀ i m σ H, W i m σ H →
  (J.stop i H ∧ D.nx σ H) ∨ (J.go i H ∧ ∃ N : St → Hp → Prop, (∀ σ' H', N σ' H' → ∃ m', m' < m ∧ W (i + 1) m' σ' H') ∧ ∀ x H', J.yld i H x H' → g x σ H' fun σ2 H2 => tb { D with nx := N, ct := N, bk := D.nx } σ2 H2)
def pinsAt (fp : List Addr) (h : Heap) : List (Addr × Obj) := fp.filterMap fun b => (h.get? b).map fun o => (b, o)
theorem mem_pinsAt {fp : List Addr} {h : Heap} {b : Addr} {o : Obj} (hb : b ∈ fp) (e : h.get? b = some o) : (b, o) ∈ pinsAt fp h := List.mem_filterMap.mpr ⟨b, hb, by rw [e]; rfl⟩
theorem of_pinsAt {fp : List Addr} {h : Heap} {p : Addr × Obj} (hp : p ∈ pinsAt fp h) : p.1 ∈ fp ∧ h.get? p.1 = some p.2 := by
  obtain ⟨b, hb, e⟩ := List.mem_filterMap.mp hp
  cases q : h.get? b with
  | none => rw [q] at e; cases e
  | some o =>
    rw [q] at e
    have e' : (b, o) = p := Option.some.inj e
    subst e'
    exact ⟨hb, q⟩
theorem Inv.pinned {pins : List (Addr × Obj)} {σ : St} {H : Hp} {s : Shared} {fp : List Addr} (I : Inv X pins σ H s) (hf : ∀ b ∈ fp, FpOk X pins H b) (ho : ∀ b ∈ fp, ∃ o, s.heap.get? b = some o ∧ ∀ v, o.data ≠ .cell v) : Inv X (pins ++ pinsAt fp s.heap) σ H s :=
  I.pins_of fun p hp => (List.mem_append.mp hp).elim (fun z => I.pin p (List.mem_append_right _ z)) fun z => by
    obtain ⟨hb, e⟩ := of_pinsAt z
    obtain ⟨f0, f1, f2, _⟩ := hf p.1 hb
    obtain ⟨o, e', d⟩ := ho p.1 hb
    rw [e] at e'; cases e'
    exact ⟨e, f0, f1, f2, d⟩
theorem Inv.unpinned {pins pl : List (Addr × Obj)} {σ : St} {H : Hp} {s : Shared} (I : Inv X (pins ++ pl) σ H s) : Inv X pins σ H s := I.pins_of fun p hp => I.pin p (List.mem_append_right _ (List.mem_append_left _ hp))
theorem ps_for {iter : Expr} {body : List Stmt} {wi : TI} {g : TG} {tb : TS} {pos : Pos} (hp : PassesOwn (model X.prog X.w) X.A X.env X.xe) (hc : X.calm = true) (hi : PI X tg iter wi) (hg : PG X tg g) (hb : PSs X body tb)
    (hs : ∀ x, foldedSetIterable iter X.env x = pure x := by intro _; rfl) : PS X (.For tg iter body [] pos) (tFor wi g tb) := by
  intro pins s σ H D I h
  refine wpAny_For (thn (hi pins s σ H _ I h) fun v s1 h1 => thn h1 fun itv s2 h2 => ?_) hs
  obtain ⟨it, fp, tn, J, H2, e, I2, T, st2, f2, W, ⟨m0, w0⟩, turn⟩ := h2
  subst e
  have stat : ∀ {H' : Hp}, (∀ b ∈ fp, H' b = none) → ∀ b ∈ fp, FpOk X pins H' b := fun hn b hb => ⟨hn b hb, (f2 b hb).2⟩
  refine codeAny_forLoop_any (fun n s' => ∃ i σ' H', Inv X pins σ' H' s' ∧ tn i s'.heap ∧ (∀ b ∈ fp, H' b = none) ∧ W i n σ' H') ?_ m0 ⟨0, σ, H2, I2, st2, fun b hb => (f2 b hb).1, w0⟩
  rintro n s3 ⟨i, σ3, H3, I3, st3, fr3, w3⟩
  rcases turn i n σ3 H3 w3 with ⟨stop, qn⟩ | ⟨go, N, hN, step⟩
  · refine wpAny_passesOwn hp (thn (T.done X rfl rfl rfl hc i pins s3 σ3 H3 X.xe I3 (stat fr3) st3 stop) fun r s4 ⟨hr, I4⟩ => ?_)
    subst hr
    exact wpAny_execs_nil ⟨σ3, H3, I4, qn⟩
  · refine wpAny_passesOwn hp (thn (T.item X rfl rfl rfl hc i pins s3 σ3 H3 X.xe I3 (stat fr3) st3 go) fun r s4 ⟨u, hr, h4⟩ => ?_)
    subst hr
    refine wpAny_passesOwn hp (thn h4 fun _ s5 ⟨x, H5, I5, r5, y5, st5, fr5⟩ => ?_)
    have I5' := I5.pinned (stat fr5) (T.obj _ _ st5)
    refine wpAny_passesOwn hp (thn (hg _ s5 σ3 H5 x u _ I5' r5 (step x H5 y5)) fun _ s6 ⟨σ6, H6, I6, q6⟩ => ?_)
    refine wpAny_passesOwn hp (thn (hb _ s6 σ6 H6 _ I6 q6) fun f s7 q7 => ?_)
    have again : ∀ {σ7 : St} {H7 : Hp}, Inv X (pins ++ pinsAt fp s5.heap) σ7 H7 s7 → N σ7 H7 → ∃ m, m < n ∧ ∃ i σ' H', Inv X pins σ' H' s7 ∧ tn i s7.heap ∧ (∀ b ∈ fp, H' b = none) ∧ W i m σ' H' := fun {σ7 H7} I7 n7 => by
      obtain ⟨m', hm, w7⟩ := hN σ7 H7 n7
      refine ⟨m', hm, i + 1, σ7, H7, I7.unpinned, T.keep _ _ _ st5 fun b hb o e => (I7.pin (b, o) (List.mem_append_right _ (List.mem_append_right _ (mem_pinsAt hb e)))).1, fun b hb => ?_, w7⟩
      obtain ⟨o, e, d⟩ := T.obj _ _ st5 b hb
      exact (I7.pin (b, o) (List.mem_append_right _ (List.mem_append_right _ (mem_pinsAt hb e)))).2.1
    cases f with
    | next => obtain ⟨σ7, H7, I7, n7⟩ := q7; exact again I7 n7
    | cont => obtain ⟨σ7, H7, I7, n7⟩ := q7; exact again I7 n7
    | brk => obtain ⟨σ7, H7, I7, q7⟩ := q7; exact ⟨σ7, H7, I7.unpinned, q7⟩
    | ret v => obtain ⟨x7, σ7, H7, I7, r7, q7⟩ := q7; exact ⟨x7, σ7, H7, I7.unpinned, r7, q7⟩
end
theorem for_list {K : PySem.W.Frag} {a : Addr} {xs : List V} {g : TG} {tb : TS} {D : Ends} {σ : St} {H : Hp} (Pv : Nat → St → Hp → Prop) (h0 : Pv 0 σ H) (hl : ∀ i σ H, i ≤ xs.length → Pv i σ H → SqL K H a xs)
    (hs : ∀ i x σ H, xs[i]? = some x → Pv i σ H → g x σ H fun σ2 H2 => tb { D with nx := Pv (i + 1), ct := Pv (i + 1), bk := D.nx } σ2 H2) (hd : ∀ σ H, Pv xs.length σ H → D.nx σ H) :
    ∃ W : Nat → Nat → St → Hp → Prop, (∃ m, W 0 m σ H) ∧ ∀ i m σ H, W i m σ H →
      ((Itl K a).stop i H ∧ D.nx σ H) ∨ ((Itl K a).go i H ∧ ∃ N : St → Hp → Prop, (∀ σ' H', N σ' H' → ∃ m', m' < m ∧ W (i + 1) m' σ' H') ∧ ∀ x H', (Itl K a).yld i H x H' → g x σ H' fun σ2 H2 => tb { D with nx := N, ct := N, bk := D.nx } σ2 H2) := by
  refine ⟨fun i m σ H => m = xs.length - i ∧ i ≤ xs.length ∧ Pv i σ H, ⟨xs.length, by simp, Nat.zero_le _, h0⟩, ?_⟩
  rintro i m σ H ⟨rfl, hi, p⟩
  have q := hl i σ H hi p
  by_cases hlt : i < xs.length
  · refine .inr ⟨⟨xs, xs[i], q, by simp [hlt]⟩, Pv (i + 1), fun σ' H' p' => ⟨xs.length - (i + 1), by omega, rfl, hlt, p'⟩, fun x H' y => ?_⟩
    obtain ⟨e, y⟩ := y
    subst e
    exact hs i x σ _ (y xs q) p
  · have e : i = xs.length := by omega
    subst e
    exact .inl ⟨⟨xs, q, Nat.le_refl _⟩, hd σ H p⟩
theorem for_tup {K : PySem.W.Frag} {a : Addr} {xs : List V} {g : TG} {tb : TS} {D : Ends} {σ : St} {H : Hp} (Pv : Nat → St → Hp → Prop) (h0 : Pv 0 σ H) (hl : ∀ i σ H, i ≤ xs.length → Pv i σ H → SqT K H a xs)
    (hs : ∀ i x σ H, xs[i]? = some x → Pv i σ H → g x σ H fun σ2 H2 => tb { D with nx := Pv (i + 1), ct := Pv (i + 1), bk := D.nx } σ2 H2) (hd : ∀ σ H, Pv xs.length σ H → D.nx σ H) :
    ∃ W : Nat → Nat → St → Hp → Prop, (∃ m, W 0 m σ H) ∧ ∀ i m σ H, W i m σ H →
      ((Itt K a).stop i H ∧ D.nx σ H) ∨ ((Itt K a).go i H ∧ ∃ N : St → Hp → Prop, (∀ σ' H', N σ' H' → ∃ m', m' < m ∧ W (i + 1) m' σ' H') ∧ ∀ x H', (Itt K a).yld i H x H' → g x σ H' fun σ2 H2 => tb { D with nx := N, ct := N, bk := D.nx } σ2 H2) := by
  refine ⟨fun i m σ H => m = xs.length - i ∧ i ≤ xs.length ∧ Pv i σ H, ⟨xs.length, by simp, Nat.zero_le _, h0⟩, ?_⟩
  rintro i m σ H ⟨rfl, hi, p⟩
  have q := hl i σ H hi p
  by_cases hlt : i < xs.length
  · refine .inr ⟨⟨xs, xs[i], q, by simp [hlt]⟩, Pv (i + 1), fun σ' H' p' => ⟨xs.length - (i + 1), by omega, rfl, hlt, p'⟩, fun x H' y => ?_⟩
    obtain ⟨e, y⟩ := y
    subst e
    exact hs i x σ _ (y xs q) p
  · have e : i = xs.length := by omega
    subst e
    exact .inl ⟨⟨xs, q, Nat.le_refl _⟩, hd σ H p⟩
theorem for_range {lo : Int} {n : Nat} {g : TG} {tb : TS} {D : Ends} {σ : St} {H : Hp} (Pv : Nat → St → Hp → Prop) (h0 : Pv 0 σ H)
    (hs : ∀ i σ H, i < n → Pv i σ H → g (.int (lo + i)) σ H fun σ2 H2 => tb { D with nx := Pv (i + 1), ct := Pv (i + 1), bk := D.nx } σ2 H2) (hd : ∀ σ H, Pv n σ H → D.nx σ H) :
    ∃ W : Nat → Nat → St → Hp → Prop, (∃ m, W 0 m σ H) ∧ ∀ i m σ H, W i m σ H →
      ((Itr lo n).stop i H ∧ D.nx σ H) ∨ ((Itr lo n).go i H ∧ ∃ N : St → Hp → Prop, (∀ σ' H', N σ' H' → ∃ m', m' < m ∧ W (i + 1) m' σ' H') ∧ ∀ x H', (Itr lo n).yld i H x H' → g x σ H' fun σ2 H2 => tb { D with nx := N, ct := N, bk := D.nx } σ2 H2) := by
  refine ⟨fun i m σ H => m = n - i ∧ i ≤ n ∧ Pv i σ H, ⟨n, by simp, Nat.zero_le _, h0⟩, ?_⟩
  rintro i m σ H ⟨rfl, hi, p⟩
  by_cases hlt : i < n
  · refine .inr ⟨hlt, Pv (i + 1), fun σ' H' p' => ⟨n - (i + 1), by omega, rfl, hlt, p'⟩, fun x H' y => ?_⟩
    obtain ⟨e, y⟩ := y
    subst e y
    exact hs i σ _ hlt p
  · have e : i = n := by omega
    subst e
    exact .inl ⟨Nat.le_refl _, hd σ H p⟩
theorem while_by {c : TT} {tb : TS} {D : Ends} {σ : St} {H : Hp} (Pv : St → Hp → Prop) (μ : St → Hp → Nat) (h0 : Pv σ H)
    (hs : ∀ σ H, Pv σ H → c σ H fun b H1 => if b = true then tb { D with nx := fun σ' H' => Pv σ' H' ∧ μ σ' H' < μ σ H, ct := fun σ' H' => Pv σ' H' ∧ μ σ' H' < μ σ H, bk := D.nx } σ H1 else D.nx σ H1)
    (mono : ∀ σ H Q Q', (∀ b H1, Q b H1 → Q' b H1) → c σ H Q → c σ H Q') : tWhile c tb D σ H := by
  refine ⟨fun m σ H => m = μ σ H ∧ Pv σ H, ⟨_, rfl, h0⟩, ?_⟩
  rintro m σ H ⟨rfl, p⟩
  refine mono σ H _ _ (fun b H1 q => ?_) (hs σ H p)
  cases b with
  | true => exact ⟨_, fun σ' H' ⟨p', l⟩ => ⟨_, l, rfl, p'⟩, q⟩
  | false => exact q
end L2
namespace L2
open PySem PySem.Spec PyProof.Rows
abbrev R2 := V → V → Hp → VK → Prop
def OpR (X : Cx) (f : Value → Value → Sem Value) (r : R2) : Prop :=
  ∀ (pins : List (Addr × Obj)) (s : Shared) (σ : St) (H : Hp) (x y : V) (v u : Value) (Q : VK), Inv X pins σ H s → RelV x v → RelV y u → r x y H Q →
    wpAny (model X.prog X.w) X.A (f v u) (EP X pins σ Q) X.xe s
def UnR (X : Cx) (f : Value → Sem Value) (r : V → Hp → VK → Prop) : Prop :=
  ∀ (pins : List (Addr × Obj)) (s : Shared) (σ : St) (H : Hp) (x : V) (v : Value) (Q : VK), Inv X pins σ H s → RelV x v → r x H Q →
    wpAny (model X.prog X.w) X.A (f v) (EP X pins σ Q) X.xe s
def CallR (X : Cx) (f : Value) (r : List V → Hp → VK → Prop) : Prop :=
  ∀ (pins : List (Addr × Obj)) (s : Shared) (σ : St) (H : Hp) (xs : List V) (us : List Value) (Q : VK), Inv X pins σ H s → Vals xs us → r xs H Q →
    wpAny (model X.prog X.w) X.A (call f us) (EP X pins σ Q) X.xe s
def TruR (X : Cx) (r : V → Hp → (Bool → Hp → Prop) → Prop) : Prop :=
  ∀ (pins : List (Addr × Obj)) (s : Shared) (σ : St) (H : Hp) (x : V) (v : Value) (Q : Bool → Hp → Prop), Inv X pins σ H s → RelV x v → r x H Q →
    wpAny (model X.prog X.w) X.A (truthy v) (TP X pins σ Q) X.xe s
def tOp (r : R2) (ta tb : TE) : TE := fun σ H Q => ta σ H fun x H1 => tb σ H1 fun y H2 => r x y H2 Q
def tUn (r : V → Hp → VK → Prop) (ta : TE) : TE := fun σ H Q => ta σ H fun x H1 => r x H1 Q
def rI (C : Int → Int → Prop) (g : Int → Int → V) : R2 := fun x y H Q => ∃ i j, x = .int i ∧ y = .int j ∧ C i j ∧ Q (g i j) H
def rI0 (g : Int → Int → V) : R2 := fun x y H Q => ∃ i j, x = .int i ∧ y = .int j ∧ Q (g i j) H
def rU (g : Int → V) : V → Hp → VK → Prop := fun x H Q => ∃ i, x = .int i ∧ Q (g i) H
section
variable {X : Cx} {a b c : Expr} {ta tb tc : TE} {pos : Pos}
theorem binT (ha : PE X a ta) (hb : PE X b tb) {pins : List (Addr × Obj)} {s : Shared} {σ : St} {H : Hp} {R : V → V → Hp → Prop} (I : Inv X pins σ H s)
    (h : ta σ H fun x H1 => tb σ H1 fun y H2 => R x y H2) {Q : Value → Shared → Prop} {f : Value → Value → Sem Value}
    (hf : ∀ v u s2 x y H2, Inv X pins σ H2 s2 → RelV x v → RelV y u → R x y H2 → wpAny (model X.prog X.w) X.A (f v u) Q X.xe s2) :
    wpAny (model X.prog X.w) X.A (eval a X.env) (fun v s₁ => wpAny (model X.prog X.w) X.A (eval b X.env) (fun u s₂ => wpAny (model X.prog X.w) X.A (f v u) Q X.xe s₂) X.xe s₁) X.xe s := by
  refine thn (ha pins s σ H _ I h) fun v s1 ⟨x, H1, I1, r1, q1⟩ => ?_
  refine thn (hb pins s1 σ H1 _ I1 q1) fun u s2 ⟨y, H2, I2, r2, q2⟩ => ?_
  exact hf v u s2 x y H2 I2 r1 r2 q2
theorem pe_op {op : Operator} {r : R2} (ho : OpR X (binaryOp op) r) (ha : PE X a ta) (hb : PE X b tb) : PE X (.BinOp a op b pos) (tOp r ta tb) := by
  intro pins s σ H Q I h
  exact wpAny_BinOp (binT ha hb I h fun v u s2 x y H2 I2 rx ry q => ho pins s2 σ H2 x y v u Q I2 rx ry q)
theorem pe_un {op : UnaryOp} {r : V → Hp → VK → Prop} (ho : UnR X (unaryOp op) r) (ha : PE X a ta) : PE X (.UnaryOp op a pos) (tUn r ta) := by
  intro pins s σ H Q I h
  exact UnaryOp_ (thn (ha pins s σ H _ I h) fun v s1 ⟨x, H1, I1, r1, q1⟩ => ho pins s1 σ H1 x v Q I1 r1 q1)
theorem opI {f : Value → Value → Sem Value} {C : Int → Int → Prop} {g : Int → Int → Int}
    (rule : ∀ (i j : Int) (t u : Tok) (s : Shared) (Q : Value → Shared → Prop) (E : Value → Shared → Prop), C i j → Q (.int (g i j) s.toks) { s with toks := s.toks + 1 } → wpAny (model X.prog X.w) X.A (f (.int i t) (.int j u)) Q E s) :
    OpR X f (rI C fun i j => .int (g i j)) := by
  intro pins s σ H x y v u Q I rx ry h
  obtain ⟨i, j, rfl, rfl, hc, q⟩ := h
  obtain ⟨t, rfl⟩ := rx
  obtain ⟨t', rfl⟩ := ry
  exact rule i j t t' s _ _ hc ⟨.int (g i j), H, I.tok _, ⟨_, rfl⟩, q⟩
theorem opI0 {f : Value → Value → Sem Value} {g : Int → Int → Int}
    (rule : ∀ (i j : Int) (t u : Tok) (s : Shared) (Q : Value → Shared → Prop) (E : Value → Shared → Prop), Q (.int (g i j) s.toks) { s with toks := s.toks + 1 } → wpAny (model X.prog X.w) X.A (f (.int i t) (.int j u)) Q E s) :
    OpR X f (rI0 fun i j => .int (g i j)) := by
  intro pins s σ H x y v u Q I rx ry h
  obtain ⟨i, j, rfl, rfl, q⟩ := h
  obtain ⟨t, rfl⟩ := rx
  obtain ⟨t', rfl⟩ := ry
  exact rule i j t t' s _ _ ⟨.int (g i j), H, I.tok _, ⟨_, rfl⟩, q⟩
theorem opB0 {f : Value → Value → Sem Value} {g : Int → Int → Bool}
    (rule : ∀ (i j : Int) (t u : Tok) (s : Shared) (Q : Value → Shared → Prop) (E : Value → Shared → Prop), Q (.bool (g i j)) s → wpAny (model X.prog X.w) X.A (f (.int i t) (.int j u)) Q E s) :
    OpR X f (rI0 fun i j => .bl (g i j)) := by
  intro pins s σ H x y v u Q I rx ry h
  obtain ⟨i, j, rfl, rfl, q⟩ := h
  obtain ⟨t, rfl⟩ := rx
  obtain ⟨t', rfl⟩ := ry
  exact rule i j t t' s _ _ ⟨.bl (g i j), H, I, rfl, q⟩
def CPow (i j : Int) : Prop := 0 ≤ j ∧ j ≤ 1000000 ∧ i.natAbs < 2 ^ 64
def CMul (i j : Int) : Prop := (-(2 ^ 64) < i ∧ i < 2 ^ 64) ∨ (-(2 ^ 64) < j ∧ j < 2 ^ 64)
theorem CMul.ok {i j : Int} (h : CMul i j) : IntMulOk i j := by
  rcases h with ⟨h1, h2⟩ | ⟨h1, h2⟩
  · exact .of_left (intBits_le_64 h1 h2)
  · exact .of_right (intBits_le_64 h1 h2)
theorem two_pow_nn (k : Nat) : (0 : Int) ≤ 2 ^ k := by
  rw [two_pow_cast]
  exact Int.natCast_nonneg _
theorem op_add : OpR X (binaryOp .Add) (rI0 fun i j => .int (i + j)) := opI0 fun _ _ _ _ _ _ _ q => add_int q
theorem op_sub : OpR X (binaryOp .Sub) (rI0 fun i j => .int (i - j)) := opI0 fun _ _ _ _ _ _ _ q => sub_int q
theorem op_mul : OpR X (binaryOp .Mult) (rI CMul fun i j => .int (i * j)) := opI fun _ _ _ _ _ _ _ hc q => mul_int q hc.ok
theorem op_mod : OpR X (binaryOp .Mod) (rI (fun _ j => 0 < j) fun i j => .int (i % j)) := opI fun i j _ _ _ _ _ hc q => by
  have h1 : (0 : Int) < j := hc
  exact mod_int' (by omega) (by rw [Int.fmod_eq_emod_of_nonneg i (by omega)]; exact q)
theorem op_shl : OpR X (binaryOp .LShift) (rI CPow fun i j => .int (i * 2 ^ j.toNat)) := opI fun _ _ _ _ _ _ _ hc q => lshift_int_small hc.1 hc.2.1 hc.2.2 q
theorem op_shr : OpR X (binaryOp .RShift) (rI (fun _ j => 0 ≤ j) fun i j => .int (i / 2 ^ j.toNat)) := opI fun i j _ _ _ _ _ hc q =>
  rshift_int hc (by rw [Int.fdiv_eq_ediv_of_nonneg i (two_pow_nn _)]; exact q)
theorem op_and : OpR X (binaryOp .BitAnd) (rI0 fun i j => .int (Builtin.bitAnd i j)) := opI0 fun _ _ _ _ _ _ _ q => and_int q
theorem op_or : OpR X (binaryOp .BitOr) (rI0 fun i j => .int (Builtin.bitOr i j)) := opI0 fun _ _ _ _ _ _ _ q => or_int q
theorem op_xor : OpR X (binaryOp .BitXor) (rI0 fun i j => .int (Builtin.bitXor i j)) := opI0 fun _ _ _ _ _ _ _ q => xor_int q
theorem unI {f : Value → Sem Value} {g : Int → Int}
    (rule : ∀ (i : Int) (t : Tok) (s : Shared) (Q : Value → Shared → Prop) (E : Value → Shared → Prop), Q (.int (g i) s.toks) { s with toks := s.toks + 1 } → wpAny (model X.prog X.w) X.A (f (.int i t)) Q E s) :
    UnR X f (rU fun i => .int (g i)) := by
  intro pins s σ H x v Q I rx h
  obtain ⟨i, rfl, q⟩ := h
  obtain ⟨t, rfl⟩ := rx
  exact rule i t s _ _ ⟨.int (g i), H, I.tok _, ⟨_, rfl⟩, q⟩
theorem un_neg : UnR X (unaryOp .USub) (rU fun i => .int (-i)) := unI fun _ _ _ _ _ q => neg_int q
end
def scal : V → V → Bool
  | .non, .non => true | .non, .int _ => true | .int _, .non => true | .non, .bl _ => true | .bl _, .non => true | .non, .str _ => true | .str _, .non => true
  | .int _, .int _ => true | .bl _, .bl _ => true | .str _, .str _ => true | .byt _, .byt _ => true
  | .int _, .str _ => true | .str _, .int _ => true | .bl _, .str _ => true | .str _, .bl _ => true
  | _, _ => false
def rEq : R2 := fun x y H Q => scal x y = true ∧ Q (.bl (decide (x = y))) H
def rNe : R2 := fun x y H Q => scal x y = true ∧ Q (.bl (!decide (x = y))) H
theorem dec_int {i j : Int} : decide (V.int i = V.int j) = (i == j) := by
  rw [Bool.eq_iff_iff]
  simp
theorem dec_bl {i j : Bool} : decide (V.bl i = V.bl j) = (i == j) := by
  rw [Bool.eq_iff_iff]
  simp
theorem dec_str {i j : Str} : decide (V.str i = V.str j) = (i == j) := by
  rw [Bool.eq_iff_iff]
  simp
theorem dec_byt {i j : Array UInt8} : decide (V.byt i = V.byt j) = (i.toList == j.toList) := by
  rw [Bool.eq_iff_iff]
  cases i
  cases j
  simp
section
variable {X : Cx} {a b c : Expr} {ta tb tc : TE} {pos : Pos}
theorem fin_bl {pins : List (Addr × Obj)} {σ : St} {H : Hp} {s : Shared} {Q : VK} {k k' : Bool} (I : Inv X pins σ H s) (q : Q (.bl k) H) (e : k = k') : EP X pins σ Q (.bool k') s := by
  subst e
  exact ⟨.bl k, H, I, rfl, q⟩
theorem op_eq : OpR X (compareOp .Eq) rEq := by
  intro pins s σ H x y v u Q I rx ry h
  obtain ⟨hs, q⟩ := h
  cases x with
  | non =>
    cases rx
    cases y with
    | non => cases ry; exact PySem.EqNone.eq_none_none (fin_bl I q (by simp))
    | bl j => cases ry; exact PySem.EqNone.eq_none_bool (fin_bl I q (by simp))
    | int j => obtain ⟨t', rfl⟩ := ry; exact PySem.EqNone.eq_none_int (fin_bl I q (by simp))
    | str j => obtain ⟨t', rfl⟩ := ry; exact PySem.EqNone.eq_none_str (fin_bl I q (by simp))
    | _ => exact absurd (show false = true from hs) Bool.false_ne_true
  | bl i =>
    cases rx
    cases y with
    | non => cases ry; exact PySem.EqNone.eq_bool_none (fin_bl I q (by simp))
    | bl j => cases ry; exact eq_bool (fin_bl I q dec_bl)
    | str j => obtain ⟨t', rfl⟩ := ry; exact PySem.EqMixed.eq_bool_str (fin_bl I q (by simp))
    | _ => exact absurd (show false = true from hs) Bool.false_ne_true
  | int i =>
    obtain ⟨t, rfl⟩ := rx
    cases y with
    | non => cases ry; exact PySem.EqNone.eq_int_none (fin_bl I q (by simp))
    | int j => obtain ⟨t', rfl⟩ := ry; exact eq_int (fin_bl I q dec_int)
    | str j => obtain ⟨t', rfl⟩ := ry; exact PySem.EqMixed.eq_int_str (fin_bl I q (by simp))
    | _ => exact absurd (show false = true from hs) Bool.false_ne_true
  | str i =>
    obtain ⟨t, rfl⟩ := rx
    cases y with
    | non => cases ry; exact PySem.EqNone.eq_str_none (fin_bl I q (by simp))
    | bl j => cases ry; exact PySem.EqMixed.eq_str_bool (fin_bl I q (by simp))
    | int j => obtain ⟨t', rfl⟩ := ry; exact PySem.EqMixed.eq_str_int (fin_bl I q (by simp))
    | str j => obtain ⟨t', rfl⟩ := ry; exact eq_str (fin_bl I q dec_str)
    | _ => exact absurd (show false = true from hs) Bool.false_ne_true
  | byt i =>
    obtain ⟨t, rfl⟩ := rx
    cases y with
    | byt j => obtain ⟨t', rfl⟩ := ry; exact PySem.W.eq_bytes (fin_bl I q dec_byt)
    | _ => exact absurd (show false = true from hs) Bool.false_ne_true
  | _ => cases y <;> exact absurd (show false = true from hs) Bool.false_ne_true
theorem op_ne : OpR X (compareOp .NotEq) rNe := by
  intro pins s σ H x y v u Q I rx ry h
  obtain ⟨hs, q⟩ := h
  cases x with
  | non =>
    cases rx
    cases y with
    | non => cases ry; exact PySem.EqNone.ne_none_none (fin_bl I q (by simp))
    | bl j => cases ry; exact PySem.EqNone.ne_none_bool (fin_bl I q (by simp))
    | int j => obtain ⟨t', rfl⟩ := ry; exact PySem.EqNone.ne_none_int (fin_bl I q (by simp))
    | str j => obtain ⟨t', rfl⟩ := ry; exact PySem.EqNone.ne_none_str (fin_bl I q (by simp))
    | _ => exact absurd (show false = true from hs) Bool.false_ne_true
  | bl i =>
    cases rx
    cases y with
    | non => cases ry; exact PySem.EqNone.ne_bool_none (fin_bl I q (by simp))
    | bl j => cases ry; exact ne_bool (fin_bl I q (congrArg not dec_bl))
    | str j => obtain ⟨t', rfl⟩ := ry; exact PySem.EqMixed.ne_bool_str (fin_bl I q (by simp))
    | _ => exact absurd (show false = true from hs) Bool.false_ne_true
  | int i =>
    obtain ⟨t, rfl⟩ := rx
    cases y with
    | non => cases ry; exact PySem.EqNone.ne_int_none (fin_bl I q (by simp))
    | int j => obtain ⟨t', rfl⟩ := ry; exact ne_int (fin_bl I q (congrArg not dec_int))
    | str j => obtain ⟨t', rfl⟩ := ry; exact PySem.EqMixed.ne_int_str (fin_bl I q (by simp))
    | _ => exact absurd (show false = true from hs) Bool.false_ne_true
  | str i =>
    obtain ⟨t, rfl⟩ := rx
    cases y with
    | non => cases ry; exact PySem.EqNone.ne_str_none (fin_bl I q (by simp))
    | bl j => cases ry; exact PySem.EqMixed.ne_str_bool (fin_bl I q (by simp))
    | int j => obtain ⟨t', rfl⟩ := ry; exact PySem.EqMixed.ne_str_int (fin_bl I q (by simp))
    | str j => obtain ⟨t', rfl⟩ := ry; exact ne_str (fin_bl I q (congrArg not dec_str))
    | _ => exact absurd (show false = true from hs) Bool.false_ne_true
  | byt i =>
    obtain ⟨t, rfl⟩ := rx
    cases y with
    | byt j => obtain ⟨t', rfl⟩ := ry; exact PySem.W.ne_bytes (fin_bl I q (congrArg not dec_byt))
    | _ => exact absurd (show false = true from hs) Bool.false_ne_true
  | _ => cases y <;> exact absurd (show false = true from hs) Bool.false_ne_true
theorem op_lt : OpR X (compareOp .Lt) (rI0 fun i j => .bl (decide (i < j))) := opB0 fun _ _ _ _ _ _ _ q => lt_int q
theorem op_le : OpR X (compareOp .LtE) (rI0 fun i j => .bl (decide (i ≤ j))) := opB0 fun _ _ _ _ _ _ _ q => le_int q
theorem op_gt : OpR X (compareOp .Gt) (rI0 fun i j => .bl (decide (j < i))) := opB0 fun _ _ _ _ _ _ _ q => gt_int q
theorem op_ge : OpR X (compareOp .GtE) (rI0 fun i j => .bl (decide (j ≤ i))) := opB0 fun _ _ _ _ _ _ _ q => ge_int q
theorem op_isN : OpR X (compareOp .Is) (fun x y H Q => y = .non ∧ Q (.bl (decide (x = .non))) H) := by
  intro pins s σ H x y v u Q I rx ry h
  obtain ⟨rfl, q⟩ := h
  cases ry
  refine is_none_gen (fin_bl I q ?_)
  cases x <;> first
    | (cases rx; rfl)
    | (obtain ⟨t, rfl⟩ := rx; rfl)
theorem nomark (b : Expr) {op : CmpOp} (h : op ≠ .In := by decide) (h2 : op ≠ .NotIn := by decide) : behindInMarks op b = false := by
  have e1 : (op == CmpOp.In) = false := by cases op <;> first | rfl | exact absurd rfl h
  have e2 : (op == CmpOp.NotIn) = false := by cases op <;> first | rfl | exact absurd rfl h2
  cases b <;> simp [behindInMarks, e1, e2]
theorem pe_cmpR {op : CmpOp} {r : R2} (ho : OpR X (compareOp op) r) (ha : PE X a ta) (hb : PE X b tb) (hm : behindInMarks op b = false) : PE X (.Compare a [op] [b] pos) (tOp r ta tb) := by
  intro pins s σ H Q I h
  exact wpAny_Compare1 (binT ha hb I h fun v u s2 x y H2 I2 rx ry q => ho pins s2 σ H2 x y v u Q I2 rx ry q) hm
def tTest (t : TE) : TT := fun σ H Q => t σ H fun x H' => ∃ k, x = .bl k ∧ Q k H'
theorem pt_cmpR {op : CmpOp} {r : R2} (ho : OpR X (compareOp op) r) (ha : PE X a ta) (hb : PE X b tb) (hm : behindInMarks op b = false) : PT X (.Compare a [op] [b] pos) (tTest (tOp r ta tb)) := by
  intro pins s σ H Q I h
  refine wpAny_isTrue_Compare1 (thn (ha pins s σ H _ I h) fun v s1 ⟨x, H1, I1, r1, q1⟩ => thn (hb pins s1 σ H1 _ I1 q1) fun u s2 ⟨y, H2, I2, r2, q2⟩ =>
    thn (ho pins s2 σ H2 x y v u _ I2 r1 r2 q2) fun c s3 ⟨z, H3, I3, r3, k, e, q3⟩ => ?_) hm
  subst e
  cases r3
  exact wpAny_truthy_bool ⟨H3, I3, q3⟩
def TruV (K : PySem.W.Frag) (x : V) (H : Hp) (k : Bool) : Prop :=
  match x with
  | .non => k = false
  | .bl b => k = b
  | .int i => k = (i != 0)
  | .str y => y.length ≤ sizeLine ∧ k = ((y.length : Int) != 0)
  | .byt y => y.size ≤ sizeLine ∧ k = ((y.size : Int) != 0)
  | .ref p => (∃ xs, SqL K H p xs ∧ k = !xs.isEmpty) ∨ (∃ xs, SqT K H p xs ∧ k = !xs.isEmpty) ∨ ∃ kvs, H p = some (.dK kvs) ∧ k = !kvs.isEmpty
  | _ => False
theorem isEmpty_kv {κ : Type} {kvs : List (κ × V)} {vs : List (κ × Value)} (r : KV kvs vs) : (!vs.isEmpty) = !kvs.isEmpty := by
  cases r <;> rfl
theorem isEmpty_of {xs : List V} {its : List Value} (r : Vals xs its) : (!its.toArray.isEmpty) = !xs.isEmpty := by
  cases r <;> simp
theorem line63 : (sizeLine : Nat) < 2 ^ 63 := by rw [sizeLine_eq]; decide
theorem tru_ok : TruR X (fun x H Q => ∃ k, TruV X.K x H k ∧ Q k H) := by
  intro pins s σ H x v Q I rx h
  obtain ⟨k, e, q⟩ := h
  have hl := line63
  have hs : sizeLine = 16777216 := sizeLine_eq
  cases x with
  | non =>
    cases rx
    have e' : k = false := e
    subst e'
    exact truthy_none ⟨H, I, q⟩
  | bl b =>
    cases rx
    have e' : k = b := e
    subst e'
    exact wpAny_truthy_bool ⟨H, I, q⟩
  | int i =>
    obtain ⟨t, rfl⟩ := rx
    have e' : k = (i != 0) := e
    subst e'
    exact PySem.P.truthy_int ⟨H, I, q⟩
  | str y =>
    obtain ⟨t, rfl⟩ := rx
    obtain ⟨hy, e'⟩ : y.length ≤ sizeLine ∧ k = ((y.length : Int) != 0) := e
    subst e'
    exact PySem.P.truthy_str (by omega) ⟨H, I.tok _, q⟩
  | byt y =>
    obtain ⟨t, rfl⟩ := rx
    obtain ⟨hy, e'⟩ : y.size ≤ sizeLine ∧ k = ((y.size : Int) != 0) := e
    subst e'
    exact PySem.W.truthy_bytes (by omega) ⟨H, I.tok _, q⟩
  | ref p =>
    cases rx
    have e' : (∃ xs, SqL X.K H p xs ∧ k = !xs.isEmpty) ∨ (∃ xs, SqT X.K H p xs ∧ k = !xs.isEmpty) ∨ ∃ kvs, H p = some (.dK kvs) ∧ k = !kvs.isEmpty := e
    rcases e' with ⟨xs, hx, e'⟩ | ⟨xs, hx, e'⟩ | ⟨kvs, hx, e'⟩
    · subst e'
      obtain ⟨its, r, pl, hz⟩ := I.list hx
      have hlen := r.length
      exact wpAny_truthy_list pl.isList (by simp only [List.size_toArray]; omega) ⟨H, I.tok _, by rw [isEmpty_of r]; exact q⟩
    · subst e'
      obtain ⟨its, r, pl, hz⟩ := I.tuple hx
      have hlen := r.length
      exact truthy_tuple pl (by simp only [List.size_toArray]; omega) ⟨H, I.tok _, by rw [isEmpty_of r]; exact q⟩
    · subst e'
      obtain ⟨hz, hS, vs, r, m⟩ : kvs.length ≤ sizeLine ∧ (p == sysModules) = false ∧ ∃ vs, KV kvs vs ∧ s.heap.DictOf (mixKind X.prog X.w) p vs := I.hok p _ hx
      have hlen : kvs.length = vs.length := Paired.length r
      exact wpAny_truthy_dict hS m (by omega) ⟨H, I.tok _, by rw [isEmpty_kv r]; exact q⟩
  | _ => exact (show False from e).elim
theorem pt_truth (ha : PE X a ta) (he : ∀ whole, isTrue a X.env whole = (do let v ← whole; standAt a.pos; holding [v] (truthy v))) :
    PT X a (fun σ H Q => ta σ H fun x H' => ∃ k, TruV X.K x H' k ∧ Q k H') := by
  intro pins s σ H Q I h
  exact isTrue_plain (thn (ha pins s σ H _ I h) fun v s1 ⟨x, H1, I1, r1, q1⟩ => tru_ok pins s1 σ H1 x v Q I1 r1 q1) (he _)
theorem vals1 {x : V} {us : List Value} (r : Vals [x] us) : ∃ u, us = [u] ∧ RelV x u := by
  cases r with
  | cons r1 r2 => cases r2; exact ⟨_, rfl, r1⟩
theorem vals2 {x y : V} {us : List Value} (r : Vals [x, y] us) : ∃ u w', us = [u, w'] ∧ RelV x u ∧ RelV y w' := by
  cases r with
  | cons r1 r2 =>
    cases r2 with
    | cons r3 r4 => cases r4; exact ⟨_, _, rfl, r1, r3⟩
theorem call_abs : CallR X (.builtin "abs") (fun xs H Q => ∃ i, xs = [.int i] ∧ Q (.int (if i < 0 then -i else i)) H) := by
  intro pins s σ H xs us Q I r h
  obtain ⟨i, rfl, q⟩ := h
  obtain ⟨u, rfl, t, rfl⟩ := vals1 r
  exact call_abs_int fun u tk => ⟨.int (if i < 0 then -i else i), H, I.tok _, ⟨_, rfl⟩, q⟩
theorem call_max2 (hc : X.calm = true) : CallR X (.builtin "max") (fun xs H Q => ∃ i j, xs = [.int i, .int j] ∧ Q (.int (if j > i then j else i)) H) := by
  intro pins s σ H xs us Q I r h
  obtain ⟨i, j, rfl, q⟩ := h
  obtain ⟨u, w', rfl, ⟨t, rfl⟩, ⟨t', rfl⟩⟩ := vals2 r
  refine max_two_ints (I.ok.hd hc) fun h' tk k => ⟨_, H, I.kept k, ?_, q⟩
  by_cases hj : j > i
  · rw [if_pos hj, if_pos hj]; exact ⟨_, rfl⟩
  · rw [if_neg hj, if_neg hj]; exact ⟨_, rfl⟩
theorem call_min2 (hc : X.calm = true) : CallR X (.builtin "min") (fun xs H Q => ∃ i j, xs = [.int i, .int j] ∧ Q (.int (if j < i then j else i)) H) := by
  intro pins s σ H xs us Q I r h
  obtain ⟨i, j, rfl, q⟩ := h
  obtain ⟨u, w', rfl, ⟨t, rfl⟩, ⟨t', rfl⟩⟩ := vals2 r
  refine min_two_ints (I.ok.hd hc) fun h' tk k => ⟨_, H, I.kept k, ?_, q⟩
  by_cases hj : j < i
  · rw [if_pos hj, if_pos hj]; exact ⟨_, rfl⟩
  · rw [if_neg hj, if_neg hj]; exact ⟨_, rfl⟩
def LenV (K : PySem.W.Frag) (x : V) (H : Hp) (n : Nat) : Prop :=
  match x with
  | .str y => y.length ≤ sizeLine ∧ n = y.length
  | .byt y => y.size ≤ sizeLine ∧ n = y.size
  | .ref p => (∃ xs, SqL K H p xs ∧ n = xs.length) ∨ ∃ xs, SqT K H p xs ∧ n = xs.length
  | _ => False
theorem call_len : CallR X (.builtin "len") (fun xs H Q => ∃ x n, xs = [x] ∧ LenV X.K x H n ∧ Q (.int n) H) := by
  intro pins s σ H xs us Q I r h
  obtain ⟨x, n, rfl, e, q⟩ := h
  obtain ⟨u, rfl, rx⟩ := vals1 r
  have hl := line63
  have hs : sizeLine = 16777216 := sizeLine_eq
  cases x with
  | str y =>
    obtain ⟨t, rfl⟩ := rx
    obtain ⟨hy, e'⟩ : y.length ≤ sizeLine ∧ n = y.length := e
    subst e'
    exact len_str (by omega) ⟨.int _, H, I.tok _, ⟨_, rfl⟩, q⟩
  | byt y =>
    obtain ⟨t, rfl⟩ := rx
    obtain ⟨hy, e'⟩ : y.size ≤ sizeLine ∧ n = y.size := e
    subst e'
    exact PySem.W.len_bytes (by omega) ⟨.int _, H, I.tok _, ⟨_, rfl⟩, q⟩
  | ref p =>
    cases rx
    have e' : (∃ xs, SqL X.K H p xs ∧ n = xs.length) ∨ ∃ xs, SqT X.K H p xs ∧ n = xs.length := e
    rcases e' with ⟨xs, hx, e'⟩ | ⟨xs, hx, e'⟩
    · subst e'
      obtain ⟨its, r', pl, hz⟩ := I.list hx
      have hlen := r'.length
      exact Calls.call_len_list pl.isList (by simp only [List.size_toArray]; omega) ⟨.int xs.length, H, I.tok _, ⟨_, by simp only [List.size_toArray]; rw [hlen]⟩, q⟩
    · subst e'
      obtain ⟨its, r', pl, hz⟩ := I.tuple hx
      have hlen := r'.length
      exact len_tuple pl (by simp only [List.size_toArray]; omega) ⟨.int xs.length, H, I.tok _, ⟨_, by simp only [List.size_toArray]; rw [hlen]⟩, q⟩
  | _ => exact (show False from e).elim
end
end L2
namespace L2
open PySem PySem.Spec PyProof.Rows
structure ObjM (h : Heap) (x dx C : Addr) (mA : Str → Option Value) : Prop where
  obj : h.get? x = some (PySem.W.instObj C dx)
  ns : h.Ns1 dx mA
  ne : dx ≠ x
theorem lookIn_ns {h : Heap} {dx : Addr} {mA : Str → Option Value} (n : h.Ns1 dx mA) : ∃ od, h.get? dx = some od ∧ ∀ name, PySem.W.lookIn name od = some (mA name) := by
  obtain ⟨o, es, ep, ho, hd, hk, _, hm⟩ := n
  refine ⟨o, ho, fun name => ?_⟩
  have e := hm name
  unfold nsFind findBy at e
  rw [← Array.find?_toList] at e
  unfold PySem.W.lookIn
  rw [hd]
  dsimp only
  split
  · rename_i y q
    rw [q] at e
    exact congrArg some e
  · rename_i q
    rw [q] at e
    have a : es.toList.any (·.refKey) = false := by
      rw [List.any_eq_false]
      intro y hy
      obtain ⟨z, t, hkey⟩ := hk y (Array.mem_toList_iff.mp hy)
      simp [DictEntry.refKey, hkey]
    have a' : ¬ es.toList.any (·.refKey) = true := by rw [a]; exact Bool.false_ne_true
    rw [if_neg a']
    exact congrArg some e
theorem ObjM.look {h : Heap} {x dx C : Addr} {mA : Str → Option Value} (I : ObjM h x dx C mA) : ∃ od, PySem.W.InstAt h x (PySem.W.instObj C dx) C (some od) ∧ ∀ name, PySem.W.lookIn name od = some (mA name) :=
  let ⟨od, ho, hl⟩ := lookIn_ns I.ns
  ⟨od, ⟨I.obj, rfl, rfl, ho⟩, hl⟩
section
variable {prog : Program} {w : World} {A : Around} {E : Value → Shared → Prop} {s : Shared} {K : PySem.W.Frag} {x dx C f : Addr} {mA : Str → Option Value} {name : Str} {v : Value}
theorem get_map {expr : Bool} {Q : Value → Shared → Prop} (X : K.In s.heap) (I : ObjM s.heap x dx C mA) (hg : PySem.W.plainGet K C name = true) (hh : PySem.W.hasDictIn K C = true)
    (ha : PySem.W.findIn K (.ref C) name = some none) (hv : mA name = some v) (hv' : PySem.W.handedIn v = true) (h : Q v { s with toks := s.toks + 1 }) :
    wpAny (model prog w) A (getAttr (.ref x) name expr) Q E s := by
  obtain ⟨od, J, hl⟩ := I.look
  exact PySem.W.get_value X J (PySem.W.plainGet_of hg).1 (PySem.W.findObj_own hh ha rfl (by rw [hl, hv])) hv' h
theorem get_meth {pl : Sem Bool} {Q : Value × List Value → Shared → Prop} (X : K.In s.heap) (I : ObjM s.heap x dx C mA) (hg : PySem.W.plainGet K C name = true)
    (hf : PySem.W.findIn K (.ref C) name = some (some (.ref f))) (ht : PySem.W.isFn K (.ref f) = true) (hv : mA name = none) (h : Q (.ref f, [.ref x]) s) :
    wpAny (model prog w) A (getMethod (.ref x) name pl) Q E s := by
  obtain ⟨od, J, hl⟩ := I.look
  exact PySem.W.method_fn X J (PySem.W.plainGet_of hg).1 (PySem.W.plainGet_of hg).2 hf (beq_iff_eq.mp ht) (by show (PySem.W.lookIn name od).map (·.isSome) = some false; rw [hl, hv]; rfl) h
theorem set_map {ns : List Str} {Q : Unit → Shared → Prop} (X : K.In s.heap) (I : ObjM s.heap x dx C mA)
    (hs : PySem.W.findIn K (.ref C) "__setattr__" = some (some (.builtin "object.__setattr__"))) (hp : PySem.W.plainOver K C = true) (ht : PySem.W.takerIn K C name = some none) (hh : PySem.W.hasDictIn K C = true)
    (hw : PySem.Within mA ns) (hsz : ns.length ≤ sizeLine)
    (h : ∀ h', ObjM h' x dx C (fun y => if y = name then some v else mA y) → Heap.SameBut dx s.heap h' → Q () { s with heap := h', toks := s.toks + 2 }) :
    wpAny (model prog w) A (setAttr (.ref x) name v) Q E s := by
  obtain ⟨od, J, hl⟩ := I.look
  refine PySem.W.set_plain X J hs (PySem.W.osa_open (s := { s with toks := s.toks + 1 }) (r := none) X J hp ht fun b => ?_)
  obtain ⟨cd, hc, hd'⟩ := PySem.W.any_some hh
  have hx : s.heap.get? x = some ⟨.ref C, some dx, .plain, #[]⟩ := I.obj
  refine wpAny_bind (wpAny_pure (wpAny_bind (wpAny_bind (wpAny_loadPart hx (wpAny_bind (PySem.W.Looks.here (s := { s with toks := s.toks + 1 }) (PySem.W.looks_clsIn X hc) ?_))))))
  rw [hd']
  refine wpAny_pure (a := some dx) (wpAny_bind (wpAny_pure (wpAny_bind ?_)))
  refine wpAny_nsSet1 (s := { s with toks := s.toks + 1 }) I.ns fun h' hn2 hs2 => ?_
  obtain ⟨oD, esD, epD, hoD, hdD, hcD⟩ := hn2.count (PySem.Within.cons name v hw)
  refine wpAny_bind (wpAny_lookBehind hoD (by rw [hdD]; exact pastItsLine_dict (Nat.le_trans hcD (by rw [List.length_cons]; omega))) ?_)
  exact wpAny_pure (h _ ⟨(hs2.2 _ (Ne.symm I.ne)).trans I.obj, hn2, I.ne⟩ hs2)
theorem make_map {R : Result → Shared → Prop} {vs : List Value} {kw : List (Str × Value)} (X : K.In s.heap) (hm : PySem.W.makesIn K C = true)
    (hi : PySem.W.findIn K (.ref C) "__init__" = some (some (.ref f))) (hf : PySem.W.typeIn K (.ref f) = some (.type "function"))
    (h : codeAny (model prog w) (A.under (.builtin "type.__call__" ⟨.ref C :: vs, kw⟩)) (.call (.ref f) ⟨.ref (s.heap.objs.size + 1) :: vs, kw⟩) (PySem.W.InitBack (s.heap.objs.size + 1) R)
      { s with heap := (s.heap.push PySem.W.emptyDict).push (PySem.W.instObj C s.heap.objs.size) }) :
    codeAny (model prog w) A (.call (.ref C) ⟨vs, kw⟩) R s := by
  obtain ⟨hh, g, d, t, os⟩ := s
  exact PySem.W.make_core (PySem.W.makes_of X hm) (PySem.W.looks_findIn X hi) (fun self => PySem.W.bind_fn X self hf) (.inl rfl) h
end
def putF (f : Str) (v : V) : List (Str × V) → List (Str × V)
  | [] => [(f, v)]
  | (g, x) :: r => if g = f then (g, v) :: r else (g, x) :: putF f v r
theorem lookup_putF (f g : Str) (v : V) : ∀ fs : List (Str × V), (putF f v fs).lookup g = if g = f then some v else fs.lookup g
  | [] => by
    show List.lookup g [(f, v)] = _
    by_cases h : g = f
    · have hb : (g == f) = true := beq_iff_eq.mpr h
      simp only [List.lookup, hb, if_pos h]
    · have hb : (g == f) = false := beq_eq_false_iff_ne.mpr h
      simp only [List.lookup, hb, if_neg h]
  | (k, x) :: r => by
    have ih := lookup_putF f g v r
    rw [show putF f v ((k, x) :: r) = (if k = f then (k, v) :: r else (k, x) :: putF f v r) from rfl]
    by_cases hk : k = f
    · rw [if_pos hk]
      by_cases h : g = k
      · have hb : (g == k) = true := beq_iff_eq.mpr h
        simp only [List.lookup, hb, if_pos (h.trans hk)]
      · have hb : (g == k) = false := beq_eq_false_iff_ne.mpr h
        simp only [List.lookup, hb, if_neg (fun e : g = f => h (e.trans hk.symm))]
    · rw [if_neg hk]
      by_cases h : g = k
      · have hb : (g == k) = true := beq_iff_eq.mpr h
        simp only [List.lookup, hb, if_neg (fun e : g = f => hk (h.symm.trans e))]
      · have hb : (g == k) = false := beq_eq_false_iff_ne.mpr h
        simp only [List.lookup, hb]
        exact ih
theorem keys_putF (f : Str) (v : V) : ∀ fs : List (Str × V), f ∈ (putF f v fs).map (·.1) ∧ ∀ g, g ∈ fs.map (·.1) → g ∈ (putF f v fs).map (·.1)
  | [] => ⟨by simp [putF], fun g h => by simp at h⟩
  | (k, x) :: r => by
    obtain ⟨i1, i2⟩ := keys_putF f v r
    rw [show putF f v ((k, x) :: r) = (if k = f then (k, v) :: r else (k, x) :: putF f v r) from rfl]
    by_cases hk : k = f
    · rw [if_pos hk]
      subst hk
      exact ⟨by simp, fun g h => by simpa using h⟩
    · rw [if_neg hk]
      refine ⟨?_, fun g h => ?_⟩
      · rw [List.map_cons]
        exact List.mem_cons_of_mem _ i1
      · rw [List.map_cons] at h ⊢
        rcases List.mem_cons.mp h with e | e
        · exact List.mem_cons.mpr (.inl e)
        · exact List.mem_cons_of_mem _ (i2 g e)
theorem length_putF (f : Str) (v : V) : ∀ fs : List (Str × V), (putF f v fs).length ≤ fs.length + 1
  | [] => by simp [putF]
  | (k, x) :: r => by
    have ih := length_putF f v r
    rw [show putF f v ((k, x) :: r) = (if k = f then (k, v) :: r else (k, x) :: putF f v r) from rfl]
    by_cases hk : k = f
    · rw [if_pos hk, List.length_cons, List.length_cons]; omega
    · rw [if_neg hk, List.length_cons, List.length_cons]; omega
theorem RelO.some_of {v : V} {o : Option Value} (r : RelO (some v) o) : ∃ u, o = some u ∧ RelV v u := by
  cases o with
  | none => exact (show False from r).elim
  | some u => exact ⟨u, rfl, r⟩
theorem RelO.none_of {o : Option Value} (r : RelO none o) : o = none := by
  cases o with
  | none => rfl
  | some u => exact (show False from r).elim
theorem handed_of {v : V} {u : Value} (r : RelV v u) : PySem.W.handedIn u = true := by
  cases v with
  | non => cases (show u = Value.none from r); rfl
  | bl b => cases (show u = Value.bool b from r); rfl
  | int i => obtain ⟨t, e⟩ := (show ∃ t, u = Value.int i t from r); cases e; rfl
  | str x => obtain ⟨t, e⟩ := (show ∃ t, u = Value.str x t from r); cases e; rfl
  | byt b => obtain ⟨t, e⟩ := (show ∃ t, u = Value.bytes b t from r); cases e; rfl
  | flt b => obtain ⟨t, e⟩ := (show ∃ t, u = Value.float b t from r); cases e; rfl
  | ref a => cases (show u = Value.ref a from r); rfl
  | ty n => cases (show u = Value.type n from r); rfl
section
variable {P : Program} {w : World} {H H' : Hp} {h h' : Heap} {a C dx : Addr} {fs fs' : List (Str × V)}
theorem ins_get (hok : HOk P w H h) (e : H a = some (.ins C dx fs)) : ∃ mA, ObjM h a dx C mA ∧ (∀ f, RelO (fs.lookup f) (mA f)) ∧ PySem.Within mA (fs.map (·.1)) ∧ fs.length ≤ 1000 ∧ H dx = some (.own a) := by
  obtain ⟨d, z, ne, ob, mA, n, r, q⟩ := (show ObjOk P w H h a (.ins C dx fs) from hok a _ e)
  exact ⟨mA, ⟨ob, n, ne⟩, r, q, z, d⟩
end
structure Cls (K : PySem.W.Frag) (C : Addr) : Prop where
  pg : PySem.W.plainGet K C Str.empty = true
  hd : PySem.W.hasDictIn K C = true
  po : PySem.W.plainOver K C = true
  sa : PySem.W.findIn K (.ref C) "__setattr__" = some (some (.builtin "object.__setattr__"))
theorem Cls.get {K : PySem.W.Frag} {C : Addr} (c : Cls K C) (f : Str) : PySem.W.plainGet K C f = true := c.pg
def NoAttr (K : PySem.W.Frag) (C : Addr) (f : Str) : Prop := PySem.W.findIn K (.ref C) f = some none
theorem NoAttr.taker {K : PySem.W.Frag} {C : Addr} {f : Str} (n : NoAttr K C f) : PySem.W.takerIn K C f = some none := by
  unfold PySem.W.takerIn
  rw [show PySem.W.findIn K (.ref C) f = some none from n]
  rfl
structure Meth (K : PySem.W.Frag) (C : Addr) (m : Str) (f : Addr) : Prop where
  at_ : PySem.W.findIn K (.ref C) m = some (some (.ref f))
  fn : PySem.W.isFn K (.ref f) = true
  kp : PySem.W.keepIn K (.ref f) = true
section
variable {X : Cx} {pins : List (Addr × Obj)} {σ : St} {H : Hp} {s : Shared} {a C dx : Addr} {fs : List (Str × V)} {f : Str} {v : V} {A : Around} {E : Value → Shared → Prop}
theorem getattr_ok {b : Bool} {Q : Value → Shared → Prop} (I : Inv X pins σ H s) (e : H a = some (.ins C dx fs)) (c : Cls X.K C) (n : NoAttr X.K C f) (l : fs.lookup f = some v)
    (h : ∀ u s', Inv X pins σ H s' → RelV v u → Q u s') : wpAny (model X.prog X.w) A (getAttr (.ref a) f b) Q E s := by
  obtain ⟨mA, O, r, _, _, _⟩ := ins_get I.hok e
  obtain ⟨u, hu, ru⟩ := RelO.some_of (v := v) (o := mA f) (by rw [← l]; exact r f)
  exact get_map I.kIn O (c.get f) c.hd n hu (handed_of ru) (h u _ (I.tok _) ru)
theorem getmeth_ok {m : Str} {g : Addr} {pl : Sem Bool} {Q : Value × List Value → Shared → Prop} (I : Inv X pins σ H s) (e : H a = some (.ins C dx fs)) (c : Cls X.K C) (k : Meth X.K C m g) (l : fs.lookup m = none)
    (h : Q (.ref g, [.ref a]) s) : wpAny (model X.prog X.w) A (getMethod (.ref a) m pl) Q E s := by
  obtain ⟨mA, O, r, _, _, _⟩ := ins_get I.hok e
  have hn : mA m = none := RelO.none_of (by rw [← l]; exact r m)
  exact get_meth I.kIn O (c.get m) k.at_ k.fn hn h
theorem setattr_ok {y : V} {u : Value} {Q : Unit → Shared → Prop} (I : Inv X pins σ H s) (e : H a = some (.ins C dx fs)) (c : Cls X.K C) (n : NoAttr X.K C f) (hl : fs.length < 1000) (ry : RelV y u)
    (h : ∀ s', Inv X pins σ (upd H a (.ins C dx (putF f y fs))) s' → Q () s') : wpAny (model X.prog X.w) A (setAttr (.ref a) f u) Q E s := by
  obtain ⟨mA, O, r, wi, _, ho⟩ := ins_get I.hok e
  have hz : (fs.map (·.1)).length ≤ sizeLine := by rw [List.length_map, sizeLine_eq]; omega
  refine set_map I.kIn O c.sa c.po n.taker c.hd wi hz fun h' O' sb => h _ ?_
  have hd : ∃ o, h'.get? dx = some o := let ⟨o, _, _, e', _⟩ := O'.ns; ⟨o, e'⟩
  refine I.write (x := a) (e := dx) (by rw [e]; exact True.intro) (.inr ho) (fun b q hb z => (sb.2 b hb).trans z) hd ?_
  refine ⟨by rw [upd_ne O.ne]; exact ho, ?_, O.ne, O'.obj, _, O'.ns, fun g => ?_, fun g hg => ?_⟩
  · have := length_putF f y fs; omega
  · show RelO ((putF f y fs).lookup g) (if g = f then some u else mA g)
    rw [lookup_putF]
    by_cases q : g = f
    · rw [if_pos q, if_pos q]; exact ry
    · rw [if_neg q, if_neg q]; exact r g
  · by_cases q : g = f
    · rw [q]; exact (keys_putF f y fs).1
    · refine (keys_putF f y fs).2 g (wi g fun z => hg ?_)
      show (if g = f then some u else mA g) = none
      rw [if_neg q]; exact z
theorem Inv.made (I : Inv X pins σ H s) : Inv X pins σ (upd (upd H s.heap.objs.size (.own (s.heap.objs.size + 1))) (s.heap.objs.size + 1) (.ins C s.heap.objs.size []))
    { s with heap := (s.heap.push PySem.W.emptyDict).push (PySem.W.instObj C s.heap.objs.size) } := by
  have e1 : (s.heap.push PySem.W.emptyDict).get? s.heap.objs.size = some PySem.W.emptyDict := Heap.get?_push_size s.heap rfl
  have e2 : ((s.heap.push PySem.W.emptyDict).push (PySem.W.instObj C s.heap.objs.size)).get? (s.heap.objs.size + 1) = some (PySem.W.instObj C s.heap.objs.size) := by
    have := Heap.get?_push_size (s.heap.push PySem.W.emptyDict) (o := PySem.W.instObj C s.heap.objs.size) rfl
    rwa [Heap.size_push] at this
  have e3 : (s.heap.push PySem.W.emptyDict).Ns s.heap.objs.size (fun _ => none) := ⟨PySem.W.emptyDict, #[], _, e1, rfl, (fun e he => absurd he (by simp)), fun _ => rfl⟩
  have I1 := I.laid (a := s.heap.objs.size) (o := .own (s.heap.objs.size + 1)) (h' := s.heap.push PySem.W.emptyDict) (t' := s.toks) (fun b u q => Heap.get?_push_of_some _ q) (Nat.le_refl _) ⟨_, e1⟩
  refine I1.laid (a := s.heap.objs.size + 1) (o := .ins C s.heap.objs.size []) (t' := s.toks) (fun b u q => Heap.get?_push_of_some _ q) (Nat.le_of_eq (Heap.size_push _ _)) ?_
  have ne : s.heap.objs.size ≠ s.heap.objs.size + 1 := Nat.ne_of_lt (Nat.lt_succ_self _)
  refine ⟨by rw [upd_ne ne, upd_same], Nat.zero_le _, ne, e2, fun _ => none, (Heap.Ns1.of_empty e3).at fun o q => Heap.get?_push_of_some _ q, fun _ => True.intro, fun y hy => absurd rfl hy⟩
theorem attr_of {prog : Program} {w : World} {env : Env} {e : Expr} {f : Str} {pos : Pos} {s : Shared} {Q : Value → Shared → Prop} (hb : attributeBase e f env (eval e env) = eval e env)
    (h : wpAny (model prog w) A (eval e env) (fun o s₁ => wpAny (model prog w) A (getAttr o f true) Q E s₁) E s) : wpAny (model prog w) A (eval (.Attribute e f pos) env) Q E s :=
  Attribute_any_ h (by rw [arm_eval_Attribute, hb])
end
def tFld (K : PySem.W.Frag) (ta : TE) (f : Str) : TE := fun σ H Q => ta σ H fun x H1 => ∃ a C dx fs v, x = .ref a ∧ H1 a = some (.ins C dx fs) ∧ Cls K C ∧ NoAttr K C f ∧ fs.lookup f = some v ∧ Q v H1
def sFld (K : PySem.W.Frag) (ta tv : TE) (f : Str) : TS := fun D σ H => tv σ H fun y H1 => ta σ H1 fun x H2 => ∃ a C dx fs, x = .ref a ∧ H2 a = some (.ins C dx fs) ∧ Cls K C ∧ NoAttr K C f ∧ fs.length < 1000 ∧
  D.nx σ (upd H2 a (.ins C dx (putF f y fs)))
section
variable {X : Cx} {o e value : Expr} {f : Str} {pos pos' tpos : Pos} {ta tv : TE}
theorem pe_fld (he : PE X e ta) (hb : attributeBase e f X.env (eval e X.env) = eval e X.env) : PE X (.Attribute e f pos) (tFld X.K ta f) := by
  intro pins s σ H Q I h
  refine attr_of hb (thn (he pins s σ H _ I h) fun u s1 ⟨x, H1, I1, rx, a, C, dx, fs, v, ex, ea, c, n, l, q⟩ => ?_)
  subst ex
  obtain rfl : u = Value.ref a := rx
  exact getattr_ok I1 ea c n l fun u' s2 I2 ru => ⟨v, H1, I2, ru, q⟩
theorem ps_fld (ha : PE X o ta) (hv : PE X value tv) (hs : swapsWith value (some (.Attribute o f pos')) pos.line X.env = pure false) : PS X (.Assign [.Attribute o f pos'] value pos) (sFld X.K ta tv f) := by
  intro pins s σ H D I h
  refine plainObj_wpAny_Assign_Attribute (thn (hv pins s σ H _ I h) fun u s1 ⟨y, H1, I1, ry, q⟩ => thn (ha pins s1 σ H1 _ I1 q) fun ov s2 ⟨x, H2, I2, rx, a, C, dx, fs, ex, ea, c, n, l, q2⟩ => ?_) hs
  subst ex
  obtain rfl : ov = Value.ref a := rx
  exact setattr_ok I2 ea c n l ry fun s3 I3 => ⟨σ, _, I3, q2⟩
end
section
variable {X : Cx} {pins : List (Addr × Obj)} {σ : St} {H : Hp} {s : Shared} {A : Around} {E : Value → Shared → Prop} {Q : Value → Shared → Prop} {c : Value} {b : Bool}
end
end L2
namespace L2
open PySem PySem.Spec PyProof.Rows
structure Room (k : Nat) (A : Around) : Prop where
  hd : A.handled = none
  dp : A.depth + 3 * k + 5 < recursionLimit
  un : A.units + 16 * k + 200 < cLine
theorem Room.mono {j k : Nat} {A : Around} (r : Room k A) (h : j ≤ k) : Room j A := ⟨r.hd, by have := r.dp; omega, by have := r.un; omega⟩
theorem Room.deeper {k : Nat} {A : Around} (r : Room (k + 1) A) (env : Env) : Room k (A.deeper env) :=
  ⟨r.hd, by have := r.dp; show A.depth + 1 + 3 * k + 5 < _; omega, by have := r.un; show A.units + 3 + 16 * k + 200 < _; omega⟩
theorem make_depth {A : Around} {C : Addr} {us : List Value} {kw : List (Str × Value)} : (A.under (.builtin "type.__call__" ⟨.ref C :: us, kw⟩)).depth = A.depth + 1 := by
  first | rfl | simp [Around.under, Code.weight, Code.isCreation, Code.isGuard, Code.isCaller, Code.frames, Code.isFrame, guardIds]
theorem make_units {A : Around} {C : Addr} {us : List Value} {kw : List (Str × Value)} : (A.under (.builtin "type.__call__" ⟨.ref C :: us, kw⟩)).units = A.units + 1 := by
  first | rfl | simp [Around.under, Code.cUnits, Code.frames, Code.isFrame]
theorem Room.make {k : Nat} {A : Around} (r : Room (k + 1) A) (C : Addr) (us : List Value) (kw : List (Str × Value)) : Room k (A.under (.builtin "type.__call__" ⟨.ref C :: us, kw⟩)) :=
  ⟨r.hd, by have := r.dp; rw [make_depth]; omega, by have := r.un; rw [make_units]; omega⟩
theorem Room.depth {k : Nat} {A : Around} (r : Room k A) : A.depth < recursionLimit := by have := r.dp; omega
def tNil : TA := fun _ H Q => Q [] H
def tCons (ta : TE) (tr : TA) : TA := fun σ H Q => ta σ H fun x H1 => tr σ H1 fun xs H2 => Q (x :: xs) H2
section
variable {X : Cx} {e : Expr} {es : List Expr} {te : TE} {t : TA} {pos : Pos}
theorem pa_nil : PA X [] tNil := fun _ _ _ _ H Q I h => Calls.spliced_nil ⟨[], H, I, .nil, h⟩
theorem pa_cons (ha : PE X e te) (hr : PA X es t) (hs : starEach (e :: es) X.env = (false, eval e X.env) :: starEach es X.env := by rfl) : PA X (e :: es) (tCons te t) := by
  intro pos pins s σ H Q I h
  rw [hs]
  show wpAny _ _ (spliced ((false, eval e X.env) :: backTo pos (starEach es X.env))) _ _ s
  refine Calls.spliced_cons (thn (ha pins s σ H _ I h) fun u s1 ⟨x, H1, I1, r1, q1⟩ => ?_)
  exact thn (hr pos pins s1 σ H1 _ I1 q1) fun us s2 ⟨xs, H2, I2, r2, q2⟩ => ⟨x :: xs, H2, I2, .cons r1 r2, q2⟩
def tTup (t : TA) : TE := fun σ H Q => t σ H fun xs H1 => xs.length ≤ sizeLine ∧ ∀ p, H1 p = none → Q (.ref p) (upd H1 p (.tup xs))
def tLst (t : TA) : TE := fun σ H Q => t σ H fun xs H1 => xs.length ≤ sizeLine ∧ ∀ p, H1 p = none → Q (.ref p) (upd H1 p (.lst xs))
theorem pe_tup {x1} (h : PA X es t) : PE X (.Tuple es x1 pos) (tTup t) := by
  intro pins s σ H Q I hq
  refine wpAny_Tuple_spliced (thn (h pos pins s σ H _ I hq) fun us s1 ⟨xs, H1, I1, r, z, q⟩ => ⟨by rw [← r.length]; exact z, ?_⟩)
  have hf : H1 s1.heap.objs.size = none := I1.hok.fresh (Nat.le_refl _)
  refine ⟨.ref s1.heap.objs.size, upd H1 s1.heap.objs.size (.tup xs), I1.laid (t' := s1.toks) (fun b u e => Heap.get?_push_of_some _ e) (Nat.le_refl _) ?_, rfl, q _ hf⟩
  exact ⟨z, us, r, ⟨_, Heap.get?_push_size _ rfl, rfl, _, rfl⟩⟩
theorem pe_lst (h : PA X es t) : PE X (.List es pos) (tLst t) := by
  intro pins s σ H Q I hq
  refine wpAny_List_spliced (thn (h pos pins s σ H _ I hq) fun us s1 ⟨xs, H1, I1, r, z, q⟩ => ⟨by rw [← r.length]; exact z, ?_⟩)
  have hf : H1 s1.heap.objs.size = none := I1.hok.fresh (Nat.le_refl _)
  refine ⟨.ref s1.heap.objs.size, upd H1 s1.heap.objs.size (.lst xs), I1.laid (t' := s1.toks) (fun b u e => Heap.get?_push_of_some _ e) (Nat.le_refl _) ?_, rfl, q _ hf⟩
  exact ⟨z, us, 0, r, Heap.get?_push_size _ rfl⟩
end
abbrev Sp := List V → Hp → VK → XK → Prop
abbrev CXT := List Env → Hp → Shared → XK → Value → Shared → Prop
structure Env0 (P : Program) (w : World) (K : PySem.W.Frag) (mg : Str → Option Value) (base : Heap) (A : Around) (outer : List Env) (s : Shared) (H : Hp) : Prop where
  frames : A.frames = some outer
  mod : Mod K mg base
  bs : ∀ b o, base.get? b = some o → s.heap.get? b = some o ∧ H b = none
  bsz : base.objs.size ≤ s.heap.objs.size
  funs : s.heap.FunFrames base outer
  frf : ∀ b ∈ frs outer, H b = none
  hok : HOk P w H s.heap
  bare : AllBare s.gens
def CE (outer : List Env) (P : Program) (w : World) (H : Hp) (s : Shared) (Q : VK) (u : Value) (s' : Shared) : Prop :=
  ∃ v H', s'.os = s.os ∧ AllBare s'.gens ∧ Un (frs outer) [] H H' s.heap s'.heap ∧ HOk P w H' s'.heap ∧ RelV v u ∧ Q v H'
def CR (CX : CXT) (outer : List Env) (P : Program) (w : World) (H : Hp) (s : Shared) (Q : VK) (E : XK) (r : Result) (s' : Shared) : Prop :=
  match r with
  | .ok (.ret u) => CE outer P w H s Q u s'
  | .ok _ => False
  | .error e => CX outer H s E e s'
structure FnOk (P : Program) (w : World) (K : PySem.W.Frag) (mg : Str → Option Value) (base : Heap) (CX : CXT) (k : Nat) (f : Addr) (fd : FuncData) (ps : List Str) (sp : Sp) : Prop where
  len : ∀ vs H Q E, sp vs H Q E → vs.length = ps.length
  run : ∀ (A : Around) (outer : List Env) (s : Shared) (H : Hp) (args : Args) (us : List Value) (vs : List V) (Q : VK) (E : XK), Room k A → Env0 P w K mg base A outer s H → BindsTo s fd args (ps.zip us) → Vals vs us → sp vs H Q E →
    codeAny (model P w) A (.call (.ref f) args) (CR CX outer P w H s Q E) s
theorem FnOk.mono {P : Program} {w : World} {K : PySem.W.Frag} {mg : Str → Option Value} {base : Heap} {CX : CXT} {j k : Nat} {f : Addr} {fd : FuncData} {ps : List Str} {sp : Sp} (F : FnOk P w K mg base CX j f fd ps sp) (h : j ≤ k) :
    FnOk P w K mg base CX k f fd ps sp := ⟨F.len, fun A outer s H args us vs Q E hr => F.run A outer s H args us vs Q E (hr.mono h)⟩
theorem Env0.make {P : Program} {w : World} {K : PySem.W.Frag} {mg : Str → Option Value} {base : Heap} {A : Around} {outer : List Env} {s : Shared} {H : Hp} (e : Env0 P w K mg base A outer s H) (C : Addr) (us : List Value) (kw : List (Str × Value)) :
    Env0 P w K mg base (A.under (.builtin "type.__call__" ⟨.ref C :: us, kw⟩)) outer s H := ⟨by first | exact e.frames | (simpa [Around.under, Code.envs, Code.isFrame, pushEnvs] using e.frames), e.mod, e.bs, e.bsz, e.funs, e.frf, e.hok, e.bare⟩
section
variable {X : Cx} {pins : List (Addr × Obj)} {σ : St} {H : Hp} {s s' : Shared}
theorem Inv.env0 (I : Inv X pins σ H s) : Env0 X.prog X.w X.K X.mg X.base X.A X.stack s H :=
  ⟨I.ok.frames, I.ok.mod, I.bs, Nat.le_trans I.ok.bsz I.sz, I.stack, I.stkFree, I.hok, I.bare⟩
theorem Inv.after {Q : VK} {u : Value} (I : Inv X pins σ H s) (h : CE X.stack X.prog X.w H s Q u s') : EP X pins σ Q u s' := by
  obtain ⟨v, H', os, bare, un, hok, r, q⟩ := h
  obtain ⟨hh, g, d, t, os'⟩ := s'
  obtain rfl : os' = s.os := os
  exact ⟨v, H', I.call (h' := hh) (g' := g) (d' := d) (t' := t) (ch := []) un hok bare (fun b z => absurd z (by simp)), r, q⟩
end
def tCall (sp : Sp) (dvs : List V) (E : XK) (t : TA) : TE := fun σ H Q => t σ H fun vs H1 => sp (vs ++ dvs) H1 Q E
def tMake (C : Addr) (sp : Sp) (dvs : List V) (E : XK) (t : TA) : TE := fun σ H Q => t σ H fun vs H1 => ∀ x dx, H1 x = none → H1 dx = none → dx ≠ x →
  sp (.ref x :: (vs ++ dvs)) (upd (upd H1 dx (.own x)) x (.ins C dx [])) (fun v H2 => v = .non ∧ Q (.ref x) H2) E
def Binds (K : PySem.W.Frag) (fd : FuncData) (ps : List Str) (ds : List Value) : Prop :=
  ∀ (s : Shared) (us : List Value), K.In s.heap → (us ++ ds).length = ps.length → BindsTo s fd ⟨us, []⟩ (ps.zip (us ++ ds))
theorem Binds.all {K : PySem.W.Frag} {fd : FuncData} {ps : List Str} (h : ∀ us : List Value, us.length = ps.length → bindArgs fd ⟨us, []⟩ = pure (ps.zip us)) : Binds K fd ps [] := fun s us _ hl => by
  rw [List.append_nil] at hl ⊢
  exact .of_eq (h us hl)
def Passes (CX : CXT) (X : Cx) (E : XK) : Prop := ∀ (pins : List (Addr × Obj)) (σ : St) (H : Hp) (s : Shared) (e : Value) (s' : Shared), Inv X pins σ H s → CX X.stack H s E e s' → X.xe e s'
section
variable {X : Cx} {CX : CXT} {k : Nat} {f C : Addr} {fd : FuncData} {ps : List Str} {sp : Sp} {dvs : List V} {ds : List Value} {E : XK} {x m : Str} {p pos apos : Pos} {e o : Expr} {es : List Expr} {ta : TE} {t : TA}
theorem run_fn {pins : List (Addr × Obj)} {σ : St} {H : Hp} {s : Shared} {Q : VK} {us : List Value} {vs : List V} (F : FnOk X.prog X.w X.K X.mg X.base CX k f fd ps sp) (hr : Room k X.A) (hb : Binds X.K fd ps ds) (hd : Vals dvs ds) (hx : Passes CX X E)
    (I : Inv X pins σ H s) (r : Vals vs us) (h : sp (vs ++ dvs) H Q E) : wpAny (model X.prog X.w) X.A (call (.ref f) us) (EP X pins σ Q) X.xe s := by
  have r2 : Vals (vs ++ dvs) (us ++ ds) := r.append hd
  have hl : (us ++ ds).length = ps.length := by rw [← r2.length]; exact F.len _ _ _ _ h
  refine wpAny_call (codeAny_mono (F.run X.A X.stack s H ⟨us, []⟩ (us ++ ds) (vs ++ dvs) Q E hr I.env0 (hb s us I.kIn hl) r2 h) fun r s' hq => ?_)
  cases r with
  | error e => exact hx pins σ H s e s' I hq
  | ok fl =>
    cases fl with
    | ret u => exact I.after hq
    | next => exact False.elim hq
    | brk => exact False.elim hq
    | cont => exact False.elim hq
theorem pe_call (F : FnOk X.prog X.w X.K X.mg X.base CX k f fd ps sp) (hr : Room k X.A) (hg : Gl X x) (hm : X.mg x = some (.ref f)) (hk : PySem.W.keepIn X.K (.ref f) = true) (hb : Binds X.K fd ps ds) (hd : Vals dvs ds) (hx : Passes CX X E)
    (ha : PA X (e :: es) t) (hdb : (x == ("__debug__" : Str)) = false := by decide) (he : starEach (e :: es) X.env = (false, eval e X.env) :: starEach es X.env := by rfl) (hpl : (backTo pos (starEach es X.env)).any (·.1) = false := by rfl) :
    PE X (.Call (.Name x p) (e :: es) [] pos) (tCall sp dvs E t) := by
  intro pins s σ H Q I h
  refine wpAny_Call_Name_kw (ld_glob I hg hm ?_ hdb)
  refine PySem.W.callWith_K (h₀ := X.base) I.ok.mod.kin hk (thn (ha pos pins s σ H _ I h) fun us s1 ⟨vs, H1, I1, r, q⟩ => ⟨I1.kIn, ?_⟩) he hpl
  exact run_fn F hr hb hd hx I1 r q
structure Mk (K : PySem.W.Frag) (C f : Addr) : Prop where
  makes : PySem.W.makesIn K C = true
  init : PySem.W.findIn K (.ref C) "__init__" = some (some (.ref f))
  fn : PySem.W.isFn K (.ref f) = true
  kp : PySem.W.keepIn K (.ref C) = true
theorem run_make {pins : List (Addr × Obj)} {σ : St} {H : Hp} {s : Shared} {Q : VK} {us : List Value} {vs : List V} (M : Mk X.K C f) (F : FnOk X.prog X.w X.K X.mg X.base CX k f fd ps sp) (hr : Room (k + 1) X.A) (hb : Binds X.K fd ps ds) (hd : Vals dvs ds)
    (hx : Passes CX X E) (I : Inv X pins σ H s) (r : Vals vs us)
    (h : ∀ x dx, H x = none → H dx = none → dx ≠ x → sp (.ref x :: (vs ++ dvs)) (upd (upd H dx (.own x)) x (.ins C dx [])) (fun v H2 => v = .non ∧ Q (.ref x) H2) E) :
    wpAny (model X.prog X.w) X.A (call (.ref C) us) (EP X pins σ Q) X.xe s := by
  have hq := h (s.heap.objs.size + 1) s.heap.objs.size (I.hok.fresh (Nat.le_succ _)) (I.hok.fresh (Nat.le_refl _)) (Nat.ne_of_lt (Nat.lt_succ_self _))
  have I2 := Inv.made (C := C) I
  have r2 : Vals (V.ref (s.heap.objs.size + 1) :: (vs ++ dvs)) (Value.ref (s.heap.objs.size + 1) :: (us ++ ds)) := .cons rfl (r.append hd)
  have hl : (Value.ref (s.heap.objs.size + 1) :: us ++ ds).length = ps.length := by
    have e := r2.length
    rw [F.len _ _ _ _ hq] at e
    exact e.symm
  refine wpAny_call (make_map (f := f) I.kIn M.makes M.init (beq_iff_eq.mp M.fn) (codeAny_mono (F.run _ X.stack _ _ ⟨Value.ref (s.heap.objs.size + 1) :: us, []⟩ (Value.ref (s.heap.objs.size + 1) :: (us ++ ds)) _ _ E (hr.make C us [])
    (I2.env0.make C us []) (hb _ (Value.ref (s.heap.objs.size + 1) :: us) I2.kIn hl) r2 hq) fun r s' hq' => ?_))
  cases r with
  | error e => exact hx pins σ _ _ e s' I2 hq'
  | ok fl =>
    cases fl with
    | ret u =>
      obtain ⟨v, H', I3, rv, ev, q3⟩ := I2.after hq'
      subst ev
      exact ⟨rv, ⟨V.ref (s.heap.objs.size + 1), H', I3, rfl, q3⟩⟩
    | next => exact False.elim hq'
    | brk => exact False.elim hq'
    | cont => exact False.elim hq'
theorem pe_make (M : Mk X.K C f) (F : FnOk X.prog X.w X.K X.mg X.base CX k f fd ps sp) (hr : Room (k + 1) X.A) (hg : Gl X x) (hm : X.mg x = some (.ref C)) (hb : Binds X.K fd ps ds) (hd : Vals dvs ds) (hx : Passes CX X E)
    (ha : PA X (e :: es) t) (hdb : (x == ("__debug__" : Str)) = false := by decide) (he : starEach (e :: es) X.env = (false, eval e X.env) :: starEach es X.env := by rfl) (hpl : (backTo pos (starEach es X.env)).any (·.1) = false := by rfl) :
    PE X (.Call (.Name x p) (e :: es) [] pos) (tMake C sp dvs E t) := by
  intro pins s σ H Q I h
  refine wpAny_Call_Name_kw (ld_glob I hg hm ?_ hdb)
  refine PySem.W.callWith_K (h₀ := X.base) I.ok.mod.kin M.kp (thn (ha pos pins s σ H _ I h) fun us s1 ⟨vs, H1, I1, r, q⟩ => ⟨I1.kIn, ?_⟩) he hpl
  exact run_make M F hr hb hd hx I1 r q
end
section
variable {X : Cx} {CX : CXT} {k : Nat} {f C : Addr} {fd : FuncData} {ps ks : List Str} {sp : Sp} {E : XK} {x m : Str} {p pos apos kpos : Pos} {e o : Expr} {es : List Expr} {kws : List Keyword} {te ta : TE} {t tk : TA} {nm : Option Str}
variable {g : List Value → List Value → List Value} {gV : List V → List V → List V}
end
structure FnScope (N P : List Str) (sc : Scope) : Prop where
  kind : sc.kind = .function
  co : sc.isCoroutine = false
  gen : sc.isGenerator = false
  nd : N.Nodup
  pre : N.take P.length = P
  par : ∀ x ∈ P, sc.names.lookup x = some .local ∨ sc.names.lookup x = some .cell
  nofree : ∀ y ∈ sc.names, y.2 ≠ .free
theorem bindL_out {kindOf : Str → Option NameKind} {x : Str} : ∀ {binds : List (Str × Value)} {m : Str → Option Value}, (∀ v, (x, v) ∉ binds) → bindL kindOf binds m x = m x
  | [], _, _ => rfl
  | (n, v) :: r, m, h => by
    unfold bindL
    rw [bindL_out fun w hw => h w (List.mem_cons_of_mem _ hw)]
    split
    · have : x ≠ n := by rintro rfl; exact h v List.mem_cons_self
      simp [this]
    · rfl
theorem bindC_out {kindOf : Str → Option NameKind} {x : Str} : ∀ {binds : List (Str × Value)} {m : Str → Option Value}, (∀ v, (x, v) ∉ binds) → bindC kindOf binds m x = m x
  | [], _, _ => rfl
  | (n, v) :: r, m, h => by
    unfold bindC
    rw [bindC_out fun w hw => h w (List.mem_cons_of_mem _ hw)]
    split
    · rfl
    · have : x ≠ n := by rintro rfl; exact h v List.mem_cons_self
      simp [this]
theorem bindL_get {kindOf : Str → Option NameKind} {x : Str} {v : Value} : ∀ {P : List Str} {vs : List Value} {i : Nat} {m : Str → Option Value}, P.Nodup → P[i]? = some x → vs[i]? = some v → kindOf x = some .local →
    bindL kindOf (P.zip vs) m x = some v
  | [], _, _, _, _, h, _, _ => by simp at h
  | _ :: _, [], _, _, _, _, h, _ => by simp at h
  | p :: P, w :: vs, 0, m, nd, h1, h2, hk => by
    simp at h1 h2; subst h1; subst h2
    show bindL kindOf ((p, w) :: P.zip vs) m p = _
    unfold bindL
    rw [bindL_out fun v hv => (List.nodup_cons.mp nd).1 (List.of_mem_zip hv).1, if_pos hk]
    simp
  | p :: P, w :: vs, i + 1, m, nd, h1, h2, hk => by
    show bindL kindOf ((p, w) :: P.zip vs) m x = _
    unfold bindL
    exact bindL_get (i := i) (List.nodup_cons.mp nd).2 (by simpa using h1) (by simpa using h2) hk
theorem bindC_get {kindOf : Str → Option NameKind} {x : Str} {v : Value} : ∀ {P : List Str} {vs : List Value} {i : Nat} {m : Str → Option Value}, P.Nodup → P[i]? = some x → vs[i]? = some v → kindOf x ≠ some .local →
    bindC kindOf (P.zip vs) m x = some v
  | [], _, _, _, _, h, _, _ => by simp at h
  | _ :: _, [], _, _, _, _, h, _ => by simp at h
  | p :: P, w :: vs, 0, m, nd, h1, h2, hk => by
    simp at h1 h2; subst h1; subst h2
    show bindC kindOf ((p, w) :: P.zip vs) m p = _
    unfold bindC
    rw [bindC_out fun v hv => (List.nodup_cons.mp nd).1 (List.of_mem_zip hv).1, if_neg hk]
    simp
  | p :: P, w :: vs, i + 1, m, nd, h1, h2, hk => by
    show bindC kindOf ((p, w) :: P.zip vs) m x = _
    unfold bindC
    exact bindC_get (i := i) (List.nodup_cons.mp nd).2 (by simpa using h1) (by simpa using h2) hk
def start (N : List Str) (vs : List V) : St := vs.map some ++ List.replicate (N.length - vs.length) none
def cxOf (CX : CXT) (P : Program) (w : World) (K : PySem.W.Frag) (mg : Str → Option Value) (base : Heap) (N : List Str) (qual : Str) (scope : Scope) (f : Addr) (cd : Value) (A : Around) (outer : List Env) (s : Shared) (H : Hp) (E : XK) : Cx where
  prog := P
  w := w
  K := K
  mg := mg
  base := base
  A := A.deeper (envOfC qual scope s.heap.objs.size f cd)
  N := N
  s_0 := s
  H_0 := H
  env := envOfC qual scope s.heap.objs.size f cd
  outer := outer
  stack := envOfC qual scope s.heap.objs.size f cd :: outer
  ex := []
  calm := true
  fn := fun _ => true
  pn := []
  xe := fun e s' => wpAny (model P w) (A.deeper (envOfC qual scope s.heap.objs.size f cd)) (leaving (envOfC qual scope s.heap.objs.size f cd) e) (fun _ s'' => CX outer H s E e s'') (fun e' s'' => CX outer H s E e' s'') s'
theorem cell_has {sc : Scope} {n : Nat} {x : Str} (h : sc.names.lookup x = some .cell) : ∃ c, (cellsFrom n sc.names []).lookup x = some c := by
  have q := PySem.W.cellsFrom_some sc.names n [] (.inl h)
  exact Option.isSome_iff_exists.mp q
theorem inv_start {CX : CXT} {P : Program} {w : World} {K : PySem.W.Frag} {mg : Str → Option Value} {base : Heap} {N ps : List Str} {qual : Str} {scope : Scope} {f : Addr} {cd : Value} {A : Around} {outer : List Env} {s s1 : Shared} {H : Hp} {E : XK} {us : List Value} {vs : List V}
    (S : FnScope N ps scope) (hd : A.handled = none) (e0 : Env0 P w K mg base A outer s H) (hl : vs.length = ps.length) (r : Vals vs us)
    (x : InCallC s s.heap.objs.size (bindL (envOfC qual scope s.heap.objs.size f cd).kindOf (ps.zip us) fun _ => none) (cellsFrom (s.heap.objs.size + 1) scope.names []) (bindC (envOfC qual scope s.heap.objs.size f cd).kindOf (ps.zip us) fun _ => none) s1) :
    Inv (cxOf CX P w K mg base N qual scope f cd A outer s H E) [] (start N vs) H s1 := by
  have hpl : ps.length ≤ N.length := by have := congrArg List.length S.pre; rw [List.length_take] at this; omega
  obtain ⟨h1, tk, rfl, hk⟩ := x.done
  have noA : ∀ b : Addr, b ∉ (cxOf CX P w K mg base N qual scope f cd A outer s H E).ex := fun b z => absurd (show b ∈ ([] : List Addr) from z) (by simp)
  refine ⟨⟨e0.mod, S.kind, rfl, rfl, Nat.le_refl _, fun y z c h1 h2 => ?_, fun y hy => ?_, fun y c _ h => ?_, fun _ => hd, Around.frames_deeper e0.frames, .inr ⟨rfl, rfl⟩, fun b z => absurd z (noA b), e0.bs, e0.bsz, fun b _ _ => noA b, fun b z => absurd z (noA b), e0.funs, e0.frf⟩,
    rfl, e0.bare, Un.kept hk, ⟨_, x.toInCall.ns, fun i y v h1 h2 h3 => ?_⟩, fun y c h => ⟨_, x.cell y c h⟩, e0.hok.fresh (Nat.le_refl _), fun y c h => ?_, fun p hp => absurd (show p ∈ ([] : List (Addr × Obj)) from hp) (by simp), e0.hok.kept hk, ?_⟩
  · exact name_of_addr x.apart (PySem.mem_of_lookup h1) (PySem.mem_of_lookup h2)
  · have hy : scope.names.lookup y = some .cell ∨ scope.names.lookup y = some .free := hy
    rcases hy with hy | hy
    · exact cell_has hy
    · exact absurd rfl (S.nofree _ (PySem.mem_of_lookup hy))
  · exact Nat.le_of_lt (x.above y c (PySem.mem_of_lookup h))
  · have hi : i < vs.length := by
      unfold start at h2
      by_cases hi : i < vs.length
      · exact hi
      · rw [List.getElem?_append_right (by simpa using hi)] at h2
        rw [List.getElem?_replicate] at h2
        split at h2 <;> cases h2
    have ha : vs[i]? = some v := by
      unfold start at h2
      rw [List.getElem?_append_left (by simpa using hi), List.getElem?_map] at h2
      cases e : vs[i]? with
      | none => rw [e] at h2; cases h2
      | some a => rw [e] at h2; cases h2; rfl
    obtain ⟨u, hu, rv⟩ := r.get ha
    have hp : ps[i]? = some y := by
      rw [← S.pre, List.getElem?_take_of_lt (by omega)]; exact h1
    have ndP : ps.Nodup := by rw [← S.pre]; exact S.nd.sublist (List.take_sublist _ _)
    refine ⟨u, rv, ?_⟩
    rcases S.par y (List.mem_of_getElem? hp) with k | k
    · exact .inl ⟨k, bindL_get ndP hp hu k⟩
    · obtain ⟨c, e⟩ := cell_has (n := s.heap.objs.size + 1) k
      refine .inr ⟨.inl k, c, e, ?_⟩
      have q := x.cell y c e
      rw [bindC_get ndP hp hu (by show scope.names.lookup y ≠ _; rw [k]; decide)] at q
      exact q
  · exact e0.hok.fresh (Nat.le_of_lt (x.above y c (PySem.mem_of_lookup h)))
  · unfold start
    show _ = N.length
    rw [List.length_append, List.length_map, List.length_replicate]
    omega
theorem fn_of {CX : CXT} {P : Program} {w : World} {K : PySem.W.Frag} {mg : Str → Option Value} {base : Heap} {k : Nat} {f : Addr} {name qual : Str} {params : Arguments} {body : List Stmt} {scope : Scope} {dV kV doc pm cdv ct oc : Value} {an od : Option Addr}
    {osl : Array (Option Value)} {N ps : List Str} {sp : Sp} (lk : K.lookup f = some ⟨oc, od, .func (PySem.W.fnOf name qual params body scope dV kV doc pm an cdv ct), osl⟩) (hcd : PySem.W.codeIn K cdv qual = true) (S : FnScope N ps scope)
    (len : ∀ vs H Q E, sp vs H Q E → vs.length = ps.length)
    (hbody : ∀ (A : Around) (outer : List Env) (s : Shared) (H : Hp) (vs : List V) (Q : VK) (E : XK), Room k (A.deeper (envOfC qual scope s.heap.objs.size f cdv)) → sp vs H Q E →
      ∃ t, PSs (cxOf CX P w K mg base N qual scope f cdv A outer s H E) body t ∧ t { nx := fun _ H' => Q .non H', rt := Q } (start N vs) H) :
    FnOk P w K mg base CX (k + 1) f (PySem.W.fnOf name qual params body scope dV kV doc pm an cdv ct) ps sp := by
  refine ⟨len, fun A outer s H args us vs Q E hr e0 hb r hsp => ?_⟩
  have hl := len _ _ _ _ hsp
  have KX : K.In s.heap := e0.mod.kin.keeps fun b o e => (e0.bs b o e).1
  have lim : s.heap.NoLimit := e0.mod.nolimit.keeps fun b o e => (e0.bs b o e).1
  have hkind : ∀ y ∈ ps.zip us, scope.names.lookup y.1 = some .local ∨ (scope.names.lookup y.1 = some .cell ∧ ((cellsFrom (s.heap.objs.size + 1) scope.names []).lookup y.1).isSome = true) := fun ⟨n, v⟩ hy => by
    rcases S.par n (List.of_mem_zip hy).1 with q | q
    · exact .inl q
    · exact .inr ⟨q, PySem.W.cellsFrom_some _ _ _ (.inl q)⟩
  refine codeAny_call_function hr.depth (KX _ _ lk) rfl S.co S.gen rfl (PySem.W.codeRec_of KX hcd) (hb _ _ _ _ ?_)
  refine wpAny_newFunctionEnv_cells S.kind hkind fun env he s1 x => ?_
  subst he
  refine ⟨lim.keeps x.toInCall.keep, codeAny_func ?_⟩
  obtain ⟨t, ht, hq⟩ := hbody A outer s H vs Q E (hr.deeper _) hsp
  have I : Inv (cxOf CX P w K mg base N qual scope f cdv A outer s H E) [] (start N vs) H s1 := inv_start S hr.hd e0 hl r x
  refine wpAny_mono (ht [] s1 (start N vs) H _ I hq) (fun fl s' hs => ?_) fun e s' hs => hs
  have fin : ∀ {σ' : St} {H' : Hp} {v : V} {u : Value}, Inv (cxOf CX P w K mg base N qual scope f cdv A outer s H E) [] σ' H' s' → RelV v u → Q v H' → CE outer P w H s Q u s' :=
    fun {σ' H' v u} J rv q => ⟨v, H', J.os, J.bare, J.base, J.hok, rv, q⟩
  cases fl with
  | ret u =>
    obtain ⟨v, σ', H', J, rv, q⟩ := hs
    exact fin J rv q
  | next =>
    obtain ⟨σ', H', J, q⟩ := hs
    exact fin (v := V.non) (u := Value.none) J rfl q
  | brk =>
    obtain ⟨_, _, _, q⟩ := hs
    exact False.elim q
  | cont =>
    obtain ⟨_, _, _, q⟩ := hs
    exact False.elim q
end L2
namespace L2
open PySem PySem.Spec PyProof.Rows
section
variable {X : Cx} {x : Str} {p pos : Pos} {e : Expr} {es : List Expr} {t : TA} {id T : String} {r : List V → Hp → VK → Prop}
def tCB (r : List V → Hp → VK → Prop) (t : TA) : TE := fun σ H Q => t σ H fun vs H1 => r vs H1 Q
theorem pe_callB (hc : CallR X (.builtin id) r) (hg : Gl X x) (hm : X.mg x = none) (hv : bootBuiltins x = some (.builtin id)) (ha : PA X (e :: es) t) (hn : x ≠ "__name__" := by decide) (hdb : (x == ("__debug__" : Str)) = false := by decide)
    (he : starEach (e :: es) X.env = (false, eval e X.env) :: starEach es X.env := by rfl) (hpl : (backTo pos (starEach es X.env)).any (·.1) = false := by rfl) : PE X (.Call (.Name x p) (e :: es) [] pos) (tCB r t) := by
  intro pins s σ H Q I h
  refine wpAny_Call_Name_kw (ld_blt I hg hm hv ?_ hn hdb)
  exact PyProof.Rows.callWith_builtin1 (thn (ha pos pins s σ H _ I h) fun us s1 ⟨vs, H1, I1, r1, q1⟩ => hc pins s1 σ H1 vs us Q I1 r1 q1) he hpl
end
end L2
namespace HT
open PySem PyProof.Rows
section
open PySem.SeqAt
open PySem.AutoSeq1 (wpAny_loadPart')
open PySem.MeetsSeq PySem.MeetsSeq2 PySem.MeetsSeq3
end
section
variable {prog : Program} {w : World} {A : Around} {E : Value → Shared → Prop} {s : Shared}
end
end HT
namespace L2
open PySem PySem.Spec PyProof.Rows
abbrev TO := St → Hp → (Option Int → Hp → Prop) → Prop
def PO (X : Cx) (e : Option Expr) (t : TO) : Prop :=
  ∀ (pins : List (Addr × Obj)) (s : Shared) (σ : St) (H : Hp) (Q : Option Int → Hp → Prop), Inv X pins σ H s → t σ H Q →
    wpAny (model X.prog X.w) X.A (evalPart e X.env) (fun u s' => ∃ o H', Inv X pins σ H' s' ∧ IsPart u o ∧ Q o H') X.xe s
def tNoPart : TO := fun _ H Q => Q none H
def tPart (t : TE) : TO := fun σ H Q => t σ H fun x H1 => ∃ i, x = .int i ∧ Q (some i) H1
section
variable {X : Cx} {e : Expr} {te : TE} {lo hi : Option Expr} {tl th : TO} {pos p2 : Pos}
theorem po_none : PO X none tNoPart := by
  intro pins s σ H Q I h
  rw [evalPart_none]
  exact wpAny_pure ⟨none, H, I, .none, h⟩
theorem po_some (h : PE X e te) : PO X (some e) (tPart te) := by
  intro pins s σ H Q I hw
  rw [evalPart_some]
  refine thn (h pins s σ H _ I hw) fun u s1 ⟨x, H1, I1, r1, q1⟩ => ?_
  obtain ⟨i, rfl, q⟩ := q1
  obtain ⟨t, rfl⟩ := r1
  exact ⟨some i, H1, I1, .int i t, q⟩
end
end L2
namespace L2
open PySem PySem.Spec PyProof.Rows
def ixN (n : Nat) (i : Int) : Option Nat := if 0 ≤ i then (if i < n then some i.toNat else none) else if -(n : Int) ≤ i then some (i + n).toNat else none
def atI {α : Type} (xs : List α) (i : Int) : Option α := (ixN xs.length i).bind fun j => xs[j]?
theorem ixN_seq {n : Nat} {i : Int} {j : Nat} (h : ixN n i = some j) : seqIndex? i n = some j ∧ j < n ∧ -(n : Int) ≤ i ∧ i < n := by
  unfold ixN at h
  by_cases h0 : 0 ≤ i
  · rw [if_pos h0] at h
    by_cases h1 : i < n
    · rw [if_pos h1] at h
      have e : i.toNat = j := Option.some.inj h
      exact ⟨by rw [seqIndex_of h0 h1, e], by omega, by omega, h1⟩
    · rw [if_neg h1] at h; cases h
  · rw [if_neg h0] at h
    by_cases h1 : -(n : Int) ≤ i
    · rw [if_pos h1] at h
      have e : (i + n).toNat = j := Option.some.inj h
      exact ⟨by rw [seqIndex_neg (by omega) h1, e], by omega, h1, by omega⟩
    · rw [if_neg h1] at h; cases h
theorem atI_get {α : Type} {xs : List α} {i : Int} {v : α} (h : atI xs i = some v) : ∃ j, seqIndex? i xs.length = some j ∧ xs[j]? = some v ∧ j < xs.length ∧ -(xs.length : Int) ≤ i ∧ i < xs.length := by
  unfold atI at h
  cases e : ixN xs.length i with
  | none => rw [e] at h; cases h
  | some j =>
    rw [e] at h
    obtain ⟨h1, h2, h3, h4⟩ := ixN_seq e
    exact ⟨j, h1, h, h2, h3, h4⟩
theorem atI_nat {α : Type} {xs : List α} {j : Nat} {v : α} (h : xs[j]? = some v) : atI xs (j : Int) = some v := by
  have hj : j < xs.length := (List.getElem?_eq_some_iff.mp h).1
  have e : ixN xs.length (j : Int) = some j := by
    unfold ixN
    rw [if_pos (by omega), if_pos (by omega)]; simp
  unfold atI; rw [e]; exact h
def PlainIx (b : Expr) : Prop := ∀ o i, subscripted b false o i = operate [o, i] (getItem o i)
def IxR (X : Cx) (r : R2) : Prop :=
  ∀ (value slice : Expr) (pins : List (Addr × Obj)) (s : Shared) (σ : St) (H : Hp) (x y : V) (v u : Value) (Q : VK), Inv X pins σ H s → RelV x v → RelV y u → r x y H Q →
    subscripted slice false v u = operate [v, u] (getItem v u) → wpAny (model X.prog X.w) X.A (subscriptTail value slice v u) (EP X pins σ Q) X.xe s
def MtR (X : Cx) (id : String) (r : V → List V → Hp → VK → Prop) : Prop :=
  ∀ (pins : List (Addr × Obj)) (s : Shared) (σ : St) (H : Hp) (x : V) (xs : List V) (v : Value) (us : List Value) (Q : VK), Inv X pins σ H s → RelV x v → Vals xs us → r x xs H Q →
    wpAny (model X.prog X.w) X.A (call (.builtin id) (v :: us)) (EP X pins σ Q) X.xe s
section
variable {X : Cx} {a b : Expr} {ta tb : TE} {pos : Pos}
theorem pe_ix {r : R2} (hr : IxR X r) (ha : PE X a ta) (hb : PE X b tb) (hs : PlainIx b) : PE X (.Subscript a b pos) (tOp r ta tb) := by
  intro pins s σ H Q I h
  exact Subscript_ (binT ha hb I h fun v u s2 x y H2 I2 rx ry q => hr a b pins s2 σ H2 x y v u Q I2 rx ry q (hs _ _))
def rIxL (K : PySem.W.Frag) : R2 := fun x y H Q => ∃ p xs i v, x = .ref p ∧ y = .int i ∧ SqL K H p xs ∧ atI xs i = some v ∧ Q v H
def rIxT (K : PySem.W.Frag) : R2 := fun x y H Q => ∃ p xs i v, x = .ref p ∧ y = .int i ∧ SqT K H p xs ∧ atI xs i = some v ∧ Q v H
theorem ix_list : IxR X (rIxL X.K) := by
  intro value slice pins s σ H x y v u Q I rx ry h hs
  obtain ⟨p, xs, i, z, rfl, rfl, hq, he, q⟩ := h
  cases rx
  obtain ⟨t, rfl⟩ := ry
  obtain ⟨its, r, pl, hz⟩ := I.list hq
  obtain ⟨j, h1, h2, h3, h4, h5⟩ := atI_get he
  obtain ⟨w, ew, rw'⟩ := r.get h2
  have hl := r.length
  have hn := line63
  have fin : EP X pins σ Q w s := ⟨z, H, I, rw', q⟩
  by_cases h0 : 0 ≤ i
  · have hj : i.toNat = j := by
      rw [seqIndex_of h0 h5] at h1
      exact Option.some.inj h1
    exact item_listR pl.isList h0 (by omega) (by rw [hj]; simpa using ew) fin hs
  · have hj : (i + (its.toArray.size : Int)).toNat = j := by
      rw [seqIndex_neg (by omega) h4] at h1
      rw [List.size_toArray, ← hl]
      exact Option.some.inj h1
    exact subscriptTail_builtinR (x := w) pl.isList.typeIs slot_list_getitem.lookup
      (wpAny_getItem_list_neg (Q := fun r s' => r = w ∧ EP X pins σ Q r s') pl.isList (by omega) (by rw [List.size_toArray] <;> omega) (by omega) (by rw [hj]; simpa using ew) ⟨rfl, fin⟩) hs
theorem ix_tup : IxR X (rIxT X.K) := by
  intro value slice pins s σ H x y v u Q I rx ry h hs
  obtain ⟨p, xs, i, z, rfl, rfl, hq, he, q⟩ := h
  cases rx
  obtain ⟨t, rfl⟩ := ry
  obtain ⟨its, r, pl, hz⟩ := I.tuple hq
  obtain ⟨j, h1, h2, h3, h4, h5⟩ := atI_get he
  obtain ⟨w, ew, rw'⟩ := r.get h2
  have hl := r.length
  have hn := line63
  have fin : EP X pins σ Q w s := ⟨z, H, I, rw', q⟩
  exact subscriptTail_builtinR (x := w) pl.typeIs slot_tuple_getitem.lookup
    (getItem_tuple (j := j) (Q := fun r s' => r = w ∧ EP X pins σ Q r s') pl (by omega) (by omega) (by rw [List.size_toArray, ← hl]; exact h1) (by simpa using ew) ⟨rfl, fin⟩) hs
theorem Inv.lst {pins : List (Addr × Obj)} {σ : St} {H : Hp} {s : Shared} {p : Addr} {xs : List V} (I : Inv X pins σ H s) (h : H p = some (.lst xs)) :
    ∃ (its : List Value) (n : Nat), Vals xs its ∧ s.heap.get? p = some { cls := .type "list", data := .seq its.toArray n } ∧ xs.length ≤ sizeLine := by
  obtain ⟨z, its, n, r, e⟩ := I.hok p _ h
  exact ⟨its, n, r, e, z⟩
def tyV (K : PySem.W.Frag) (T : String) (x : V) (H : Hp) : Prop := match x with
  | .str _ => T = "str"
  | .int _ => T = "int"
  | .ref p => (T = "list" ∧ ∃ xs, SqL K H p xs) ∨ (T = "tuple" ∧ ∃ o, K.lookup p = some o ∧ o.cls = .type "tuple" ∧ o.dict = none) ∨
      (T = "dict" ∧ ((∃ kvs, H p = some (.dK kvs)) ∨ ∃ kvs, H p = some (.dT kvs))) ∨ (T = "set" ∧ ∃ S n, H p = some (.set S n))
  | _ => False
theorem tyV_is {pins : List (Addr × Obj)} {σ : St} {H : Hp} {s : Shared} {T : String} {x : V} {v : Value} (I : Inv X pins σ H s) (r : RelV x v) (ty : tyV X.K T x H) :
    s.TypeIs v T ∧ ∀ a, v = .ref a → ∃ ob, s.heap.get? a = some ob ∧ ob.dict = none := by
  cases x with
  | str z =>
    obtain ⟨t, rfl⟩ := r
    cases (show T = "str" from ty)
    exact ⟨typeIs_str s z t, fun _ e => nomatch e⟩
  | int i =>
    obtain ⟨t, rfl⟩ := r
    cases (show T = "int" from ty)
    exact ⟨typeIs_int s i t, fun _ e => nomatch e⟩
  | ref p =>
    cases r
    rcases ty with ⟨rfl, xs, hq⟩ | ⟨rfl, o, hk, hc, hd⟩ | ⟨rfl, hk⟩ | ⟨rfl, S, n, hk⟩
    · obtain ⟨its, _, pl, _⟩ := I.list hq
      refine ⟨pl.isList.typeIs, fun a e => ?_⟩
      cases e
      obtain ⟨o, n, e, c, hd, _⟩ := pl
      exact ⟨o, e, hd⟩
    · refine ⟨⟨o, I.kIn p o hk, hc⟩, fun a e => ?_⟩
      cases e
      exact ⟨o, I.kIn _ o hk, hd⟩
    · have z : ∃ o, s.heap.get? p = some o ∧ o.ExactDict := by
        rcases hk with ⟨kvs, hk⟩ | ⟨kvs, hk⟩
        · obtain ⟨_, _, _, _, o, _, _, e, ex, _⟩ := I.hok p _ hk
          exact ⟨o, e, ex⟩
        · obtain ⟨_, _, _, _, o, _, _, e, ex, _⟩ := I.hok p _ hk
          exact ⟨o, e, ex⟩
      obtain ⟨o, e, ex⟩ := z
      refine ⟨⟨o, e, ex.1⟩, fun a e2 => ?_⟩
      cases e2
      exact ⟨o, e, ex.2.1⟩
    · obtain ⟨o, _, _, _, e, ex, _⟩ := I.hok p _ hk
      refine ⟨⟨o, e, ex.1⟩, fun a e2 => ?_⟩
      cases e2
      exact ⟨o, e, ex.2.1⟩
  | _ => exact False.elim ty
def tBM0 (K : PySem.W.Frag) (T : String) (r : V → List V → Hp → VK → Prop) (to : TE) : TE := fun σ H Q => to σ H fun x H1 => tyV K T x H1 ∧ r x [] H1 Q
def tBM (K : PySem.W.Frag) (T : String) (r : V → List V → Hp → VK → Prop) (to : TE) (t : TA) : TE := fun σ H Q => to σ H fun x H1 => tyV K T x H1 ∧ t σ H1 fun xs H2 => r x xs H2 Q
variable {o e : Expr} {es : List Expr} {to : TE} {t : TA} {name : Str} {apos cpos : Pos} {T id : String} {r : V → List V → Hp → VK → Prop}
theorem pe_bm0 (pa : PlainAttrs T) (slot : Slot T name id) (hty : typeOf (.builtin id) = pure (.type "method_descriptor")) (hm : MtR X id r) (ho : PE X o to)
    (hbase : attributeBase o name X.env (eval o X.env) = eval o X.env := by rfl) (hline : (apos.endLine == cpos.line) = true := by rfl) : PE X (.Call (.Attribute o name apos) [] [] cpos) (tBM0 X.K T r to) := by
  intro pins s σ H Q I h
  refine wpAny_Call_method0_late hbase hline (thn (ho pins s σ H _ I h) fun v s1 ⟨x, H1, I1, r1, ty, q1⟩ => ?_)
  obtain ⟨h1, h2⟩ := tyV_is I1 r1 ty
  exact ⟨T, id, pa, slot, hty, h1, h2, Calls.callWith_builtin rfl (PySem.evalArgs_none (hm pins s1 σ H1 x [] v [] Q I1 r1 .nil q1))⟩
theorem pe_bm (pa : PlainAttrs T) (slot : Slot T name id) (hty : typeOf (.builtin id) = pure (.type "method_descriptor")) (hm : MtR X id r) (ho : PE X o to) (ha : PA X (e :: es) t)
    (hbase : attributeBase o name X.env (eval o X.env) = eval o X.env := by rfl)
    (hfew : ((backTo cpos (starEach (e :: es) X.env)).all (fun x => !x.1) && (backToKw cpos (keywordEach [] X.env)).all (fun x => x.1.isSome)
      && decide ((e :: es).length + ([] : List Keyword).length + (if ([] : List Keyword).isEmpty then 0 else 1) < 30)) = true := by rfl)
    (hline : (apos.endLine == cpos.line) = true := by rfl) (hs : starEach (e :: es) X.env = (false, eval e X.env) :: starEach es X.env := by rfl) (hplain : (backTo cpos (starEach es X.env)).any (·.1) = false := by rfl) :
    PE X (.Call (.Attribute o name apos) (e :: es) [] cpos) (tBM X.K T r to t) := by
  intro pins s σ H Q I h
  refine wpAny_Call_method_late hbase hfew hline rfl (thn (ho pins s σ H _ I h) fun v s1 ⟨x, H1, I1, r1, ty, q1⟩ => ?_)
  obtain ⟨h1, h2⟩ := tyV_is I1 r1 ty
  refine ⟨T, id, pa, slot, hty, h1, h2, ?_⟩
  have hA := ha cpos pins s1 σ H1 _ I1 q1
  rw [hs] at hA ⊢
  refine Calls.callWith_builtin (by show (false || (backTo cpos (starEach es X.env)).any (·.1)) = false; rw [hplain] <;> rfl) (Calls.evalArgs_plain ?_)
  exact thn hA fun us s2 ⟨vs, H2, I2, r2, q2⟩ => hm pins s2 σ H2 x vs v us Q I2 r1 r2 q2
/- xs.append(e), list.index on a module's tuple .. are MtR facts of 06m -/
end
end L2
namespace L2
open PySem PySem.Spec PyProof.Rows
def MtM (X : Cx) (id : String) (r : V → List V → Hp → VK → Prop) : Prop :=
  ∀ (pins : List (Addr × Obj)) (s : Shared) (σ : St) (H : Hp) (x : V) (xs : List V) (v : Value) (us : List Value) (Q : VK), Inv X pins σ H s → RelV x v → Vals xs us → r x xs H Q →
    wpAny (model X.prog X.w) X.A (call (.builtin id) (v :: us)) (EP X pins σ Q) X.xe s
theorem Vals.one : ∀ {x : V} {us : List Value}, Vals [x] us → ∃ u, us = [u] ∧ RelV x u
  | _, _, .cons r .nil => ⟨_, rfl, r⟩
theorem Vals.zero : ∀ {us : List Value}, Vals [] us → us = []
  | _, .nil => rfl
section
variable {X : Cx} {pins : List (Addr × Obj)} {σ : St} {H : Hp} {s : Shared} {l b : Addr} {xs ys zs : List V}
theorem Inv.lset {its its' : List Value} {n : Nat} {f : Array Value → Array Value} {t' : Nat} (I : Inv X pins σ H s) (hH : H l = some (.lst xs))
    (e : s.heap.get? l = some { cls := .type "list", data := .seq its.toArray n }) (hf : f its.toArray = its'.toArray) (hv : Vals ys its') (hz : ys.length ≤ sizeLine) :
    Inv X pins σ (upd H l (.lst ys)) { s with heap := s.heap.update l (Obj.mapSeq f), toks := t' } := by
  have q := PySem.IsL.update e f
  rw [hf] at q
  refine I.write (x := l) (e := l) (by rw [hH]; exact trivial) (.inl rfl) (fun b' u hb hu => (Heap.get?_update_other s.heap (Obj.mapSeq f) (Ne.symm hb)).trans hu) ⟨_, q⟩ ?_
  exact ⟨hz, its', _, hv, q⟩
theorem Inv.lnew {its : List Value} {t' : Nat} (I : Inv X pins σ H s) (hv : Vals ys its) (hz : ys.length ≤ sizeLine) :
    Inv X pins σ (upd H s.heap.objs.size (.lst ys)) { s with heap := s.heap.push { cls := .type "list", data := .seq its.toArray }, toks := t' } :=
  I.laid (fun _ _ q => Heap.get?_push_of_some _ q) (Nat.le_refl _) ⟨hz, its, 0, hv, Heap.get?_push_size _ rfl⟩
theorem Inv.fresh (I : Inv X pins σ H s) : H s.heap.objs.size = none := I.hok.fresh (Nat.le_refl _)
theorem Inv.lstM (I : Inv X pins σ H s) (hH : H l = some (.lst xs)) : xs.length ≤ sizeLine ∧ ∃ (its : List Value) (n : Nat), Vals xs its ∧ xs.length = its.length ∧ s.heap.get? l = some { cls := .type "list", data := .seq its.toArray n } := by
  obtain ⟨z, its, n, r, e⟩ := I.hok l _ hH
  exact ⟨z, its, n, r, r.length, e⟩
theorem notLongL {n : Nat} (h : n ≤ sizeLine) : Builtin.List.listTooLong n = false := by
  unfold Builtin.List.listTooLong
  exact decide_eq_false (by omega)
end
section
variable {X : Cx}
def rAppend : V → List V → Hp → VK → Prop := fun x vs H Q => ∃ l xs y, x = .ref l ∧ vs = [y] ∧ H l = some (.lst xs) ∧ xs.length < sizeLine ∧ Q .non (upd H l (.lst (xs ++ [y])))
theorem mt_append : MtM X "list.append" rAppend := by
  intro pins s σ H x vs v us Q I rx rv h
  obtain ⟨l, xs, y, rfl, rfl, hH, hz, q⟩ := h
  cases rx
  obtain ⟨u, rfl, ru⟩ := rv.one
  obtain ⟨z, its, n, r, hl, e⟩ := I.lstM hH
  refine call_meets F.slot_list_append ⟨_, e, rfl⟩ F.entry_list_append (F.args_list_append_2 _ _) (PySem.list_append l its.toArray n u (by rw [List.size_toArray]; omega)) ⟨e, ?_⟩
  refine ⟨.non, _, I.lset (its' := its ++ [u]) hH e (by simp) (r.append (.cons ru .nil)) ?_, rfl, q⟩
  rw [List.length_append, List.length_singleton]
  omega
def rCat : R2 := fun x y H Q => ∃ l b xs zs, x = .ref l ∧ y = .ref b ∧ H l = some (.lst xs) ∧ H b = some (.lst zs) ∧ xs.length + zs.length ≤ sizeLine ∧ ∀ p, H p = none → Q (.ref p) (upd H p (.lst (xs ++ zs)))
theorem op_cat : OpR X (binaryOp .Add) rCat := by
  intro pins s σ H x y v u Q I rx ry h
  obtain ⟨l, b, xs, zs, rfl, rfl, hH, hB, hz, q⟩ := h
  cases rx
  cases ry
  obtain ⟨z, its, n, r, hl, e⟩ := I.lstM hH
  obtain ⟨z2, its2, n2, r2, hl2, e2⟩ := I.lstM hB
  refine PySem.P.add_list e e2 ?_ (by rw [List.size_toArray, List.size_toArray]; omega)
  have ea : its.toArray ++ its2.toArray = (its ++ its2).toArray := by simp
  rw [ea]
  exact ⟨.ref _, _, I.lnew (t' := s.toks) (r.append r2) (by rw [List.length_append]; omega), rfl, q _ I.fresh⟩
end
section
variable {prog : Program} {w : World} {A : Around} {E : Value → Shared → Prop} {s : Shared}
end
section
variable {X : Cx}
end
end L2
namespace L2
open PySem PySem.Spec PyProof.Rows
section
variable {prog : Program} {w : World} {A : Around} {E : Value → Shared → Prop} {s : Shared} {l : Addr} {its : List Value} {ns : List Int} {Q : Value → Shared → Prop}
end
section
variable {X : Cx}
end
section
variable {X : Cx}
end
section
variable {X : Cx}
end
section
variable {X : Cx}
end
section
variable {X : Cx} {pins : List (Addr × Obj)} {σ : St} {H : Hp} {s : Shared}
end
section
variable {X : Cx}
end
end L2
namespace L2
open PySem PySem.Spec PyProof.Rows
abbrev CellAt (h : Heap) (c : Addr) (v : Option Value) : Prop := h.IsCell c v
def relS (scope sc : Scope) : Scope :=
  { scope with names := scope.names.map fun (n, k) => if (k == .free && sc.kind == .function && sc.names.lookup n == some .cell) then (n, .cell) else (n, k) }
def cloFrom (cells : List (Str × Addr)) : List (Str × NameKind) → List (Str × Addr) → List (Str × Addr)
  | [], acc => acc
  | (n, k) :: r, acc => if k == .free then cloFrom cells r ((n, (cells.lookup n).getD 0) :: acc) else cloFrom cells r acc
theorem closure_loop (env : Env) (f : Str × NameKind → List (Str × Addr) → Sem (ForInStep (List (Str × Addr))))
    (hf : ∀ n k c, f (n, k) c = if k == .free then (do let a ← cellOf env n; pure (.yield ((n, a) :: c))) else pure (.yield c)) :
    ∀ (names : List (Str × NameKind)) (acc : List (Str × Addr)), (∀ y ∈ names, y.2 = .free → ∃ c, env.cells.lookup y.1 = some c) → forIn names acc f = pure (cloFrom env.cells names acc)
  | [], acc, _ => by rw [List.forIn_nil]; rfl
  | (n, k) :: r, acc, h => by
    rw [List.forIn_cons, hf]
    have ih := fun acc => closure_loop env f hf r acc fun y hy => h y (List.mem_cons_of_mem _ hy)
    unfold cloFrom
    by_cases hk : (k == NameKind.free) = true
    · rw [if_pos hk, if_pos hk]
      obtain ⟨c, hc⟩ := h (n, k) List.mem_cons_self (by simpa using hk)
      have e : cellOf env n = pure c := by unfold cellOf; rw [hc]
      rw [e]
      have e2 : (env.cells.lookup n).getD 0 = c := by rw [hc]; rfl
      rw [e2]
      exact ih _
    · rw [if_neg hk, if_neg hk]
      exact ih _
theorem closure_ok {scope : Scope} {env : Env} (h : ∀ y ∈ scope.names, y.2 = .free → ∃ c, env.cells.lookup y.1 = some c) : closureFor scope env = pure (cloFrom env.cells scope.names []) := by
  simp only [closureFor]
  rw [closure_loop env _ (fun n k c => rfl) scope.names [] h]
  rfl
theorem mem_lookup {α : Type} : ∀ {l : List (Str × α)} {n : Str} {c : α}, (n, c) ∈ l → ∃ c', l.lookup n = some c'
  | (k, v) :: r, n, c, h => by
    rw [List.lookup_cons]
    cases hb : n == k with
    | true => exact ⟨_, rfl⟩
    | false =>
      rcases List.mem_cons.mp h with e | h
      · cases e; simp at hb
      · exact mem_lookup h
theorem cloFrom_mem {cells : List (Str × Addr)} : ∀ {names : List (Str × NameKind)} {acc : List (Str × Addr)} {n : Str} {c : Addr}, (n, c) ∈ cloFrom cells names acc → (n, c) ∈ acc ∨ ((n, .free) ∈ names ∧ c = (cells.lookup n).getD 0)
  | [], _, _, _, h => .inl h
  | (m, k) :: r, acc, n, c, h => by
    unfold cloFrom at h
    split at h
    · rename_i hk
      have hk : k = .free := by simpa using hk
      rcases cloFrom_mem h with h | ⟨h1, h2⟩
      · rcases List.mem_cons.mp h with e | h
        · cases e; exact .inr ⟨hk ▸ List.mem_cons_self, rfl⟩
        · exact .inl h
      · exact .inr ⟨List.mem_cons_of_mem _ h1, h2⟩
    · rcases cloFrom_mem h with h | ⟨h1, h2⟩
      · exact .inl h
      · exact .inr ⟨List.mem_cons_of_mem _ h1, h2⟩
theorem cloFrom_acc {cells : List (Str × Addr)} : ∀ {names : List (Str × NameKind)} {acc : List (Str × Addr)} {p : Str × Addr}, p ∈ acc → p ∈ cloFrom cells names acc
  | [], _, _, h => h
  | (m, k) :: r, acc, p, h => by
    unfold cloFrom
    split
    · exact cloFrom_acc (List.mem_cons_of_mem _ h)
    · exact cloFrom_acc h
theorem cloFrom_has {cells : List (Str × Addr)} : ∀ {names : List (Str × NameKind)} {acc : List (Str × Addr)} {n : Str}, (n, .free) ∈ names → (n, (cells.lookup n).getD 0) ∈ cloFrom cells names acc
  | (m, k) :: r, acc, n, h => by
    unfold cloFrom
    rcases List.mem_cons.mp h with e | h
    · cases e
      exact cloFrom_acc List.mem_cons_self
    · split
      · exact cloFrom_has h
      · exact cloFrom_has h
theorem cells_mem : ∀ {names : List (Str × NameKind)} {h : Heap} {acc : List (Str × Addr)} {x : Str} {c : Addr}, (x, c) ∈ cellsFrom h.objs.size names acc →
    (x, c) ∈ acc ∨ ((x, .cell) ∈ names ∧ h.objs.size ≤ c ∧ CellAt (pushCells h names) c none)
  | [], _, _, _, _, h => .inl h
  | (n, k) :: r, h, acc, x, c, hm => by
    unfold cellsFrom at hm
    unfold pushCells
    split at hm
    · rename_i hk
      rw [if_pos hk]
      have hk : k = .cell := by simpa using hk
      rw [← Heap.size_push h { cls := .type "cell", data := .cell none }] at hm
      rcases cells_mem hm with hm | ⟨h1, h2, h3⟩
      · rcases List.mem_cons.mp hm with e | hm
        · cases e
          exact .inr ⟨hk ▸ List.mem_cons_self, Nat.le_refl _, _, pushCells_keeps r _ _ _ (Heap.get?_push_size _ rfl), rfl⟩
        · exact .inl hm
      · rw [Heap.size_push] at h2
        exact .inr ⟨List.mem_cons_of_mem _ h1, Nat.le_of_succ_le h2, h3⟩
    · rename_i hk
      rw [if_neg hk]
      rcases cells_mem hm with hm | ⟨h1, h2, h3⟩
      · exact .inl hm
      · exact .inr ⟨List.mem_cons_of_mem _ h1, h2, h3⟩
theorem cells_acc : ∀ {names : List (Str × NameKind)} {n : Nat} {acc : List (Str × Addr)} {p : Str × Addr}, p ∈ acc → p ∈ cellsFrom n names acc
  | [], _, _, _, h => h
  | (m, k) :: r, n, acc, p, h => by
    unfold cellsFrom
    split
    · exact cells_acc (List.mem_cons_of_mem _ h)
    · exact cells_acc h
theorem cells_has : ∀ {names : List (Str × NameKind)} {n : Nat} {acc : List (Str × Addr)} {x : Str}, (x, .cell) ∈ names → ∃ c, (x, c) ∈ cellsFrom n names acc
  | (m, k) :: r, n, acc, x, h => by
    unfold cellsFrom
    rcases List.mem_cons.mp h with e | h
    · cases e
      exact ⟨n, cells_acc List.mem_cons_self⟩
    · split
      · exact cells_has h
      · exact cells_has h
theorem cells_inj : ∀ {names : List (Str × NameKind)} {h : Heap} {acc : List (Str × Addr)} {x y : Str} {c : Addr}, (∀ p ∈ acc, p.2 < h.objs.size) → (∀ x y c, (x, c) ∈ acc → (y, c) ∈ acc → x = y) →
    (x, c) ∈ cellsFrom h.objs.size names acc → (y, c) ∈ cellsFrom h.objs.size names acc → x = y
  | [], _, _, _, _, _, _, hi, h1, h2 => hi _ _ _ h1 h2
  | (n, k) :: r, h, acc, x, y, c, hl, hi, h1, h2 => by
    unfold cellsFrom at h1 h2
    split at h1
    · rename_i hk
      rw [if_pos hk] at h2
      rw [← Heap.size_push h { cls := .type "cell", data := .cell none }] at h1 h2
      refine cells_inj (h := h.push _) (fun p hp => ?_) (fun x y c a b => ?_) h1 h2
      · rw [Heap.size_push]
        rcases List.mem_cons.mp hp with rfl | hp
        · exact Nat.lt_succ_self _
        · exact Nat.lt_succ_of_lt (hl p hp)
      · rcases List.mem_cons.mp a with e | a <;> rcases List.mem_cons.mp b with e' | b
        · cases e; cases e'; rfl
        · cases e; exact absurd (hl _ b) (Nat.lt_irrefl _)
        · cases e'; exact absurd (hl _ a) (Nat.lt_irrefl _)
        · exact hi _ _ _ a b
    · rename_i hk
      rw [if_neg hk] at h2
      exact cells_inj hl hi h1 h2
theorem newEnv_comp {M : Model} {A : Around} {E : Value → Shared → Prop} {s : Shared} {scope : Scope} {globals : Addr} {closure : List (Str × Addr)} {qual : Str} {func : Option Addr} {code : Value} {around : Env} {builtins : Addr} {Q : Env → Shared → Prop}
    (h : Q (newEnv scope s.heap.objs.size globals (cellsFrom (s.heap.objs.size + 1) scope.names closure) qual func code (some around) builtins)
      { s with heap := pushCells (s.heap.push { cls := .type "dict", data := .dict #[] }) scope.names }) :
    wpAny M A (newFunctionEnv scope globals closure [] qual func code (some around) builtins) Q E s := by
  simp only [newFunctionEnv, Option.isSome_some, if_true]
  refine wpAny_bind (wpAny_alloc ?_)
  refine wpAny_bind (wpAny_layCells _ (fun n k c => rfl) scope.names closure _ _ ?_)
  rw [show ({ s with heap := s.heap.push { cls := .type "dict", data := .dict #[] } } : Shared).heap.objs.size = s.heap.objs.size + 1 from Heap.size_push ..]
  rw [List.forIn_nil]
  exact wpAny_bind (wpAny_pure (wpAny_pure h))
theorem lookup_relS {sc : Scope} : ∀ {names : List (Str × NameKind)} {x : Str} {k : NameKind},
    (names.map fun (n, k) => if (k == NameKind.free && sc.kind == .function && sc.names.lookup n == some .cell) then (n, NameKind.cell) else (n, k)).lookup x = some k →
    ∃ k', names.lookup x = some k' ∧ (k = k' ∨ (k' = .free ∧ k = .cell))
  | [], _, _, h => by simp at h
  | (n, k₀) :: r, x, k, h => by
    have ih := @lookup_relS sc r x k
    have h' : List.lookup x ((if (k₀ == NameKind.free && sc.kind == .function && sc.names.lookup n == some .cell) = true then (n, NameKind.cell) else (n, k₀)) :: (r.map _)) = some k := h
    cases hx : x == n with
    | true =>
      simp only [List.lookup_cons, hx]
      by_cases hc : (k₀ == NameKind.free && sc.kind == .function && sc.names.lookup n == some .cell) = true
      · rw [if_pos hc] at h'
        simp only [List.lookup_cons, hx] at h'
        cases h'
        simp only [Bool.and_eq_true, beq_iff_eq] at hc
        exact ⟨k₀, rfl, .inr ⟨hc.1.1, rfl⟩⟩
      · rw [if_neg hc] at h'
        simp only [List.lookup_cons, hx] at h'
        cases h'
        exact ⟨_, rfl, .inl rfl⟩
    | false =>
      simp only [List.lookup_cons, hx]
      by_cases hc : (k₀ == NameKind.free && sc.kind == .function && sc.names.lookup n == some .cell) = true
      · rw [if_pos hc] at h'
        simp only [List.lookup_cons, hx] at h'
        exact ih h'
      · rw [if_neg hc] at h'
        simp only [List.lookup_cons, hx] at h'
        exact ih h'
structure BlkOk (N : List Str) (sc scope : Scope) (own : List (Str × Nat)) : Prop where
  kind : scope.kind = .function
  uniq : ∀ y ∈ scope.names, scope.names.lookup y.1 = some y.2
  ix : ∀ p ∈ own, N[p.2]? = some p.1
  free : ∀ y ∈ scope.names, y.2 = .free → sc.names.lookup y.1 = some .cell ∨ sc.names.lookup y.1 = some .free
  own : ∀ y ∈ scope.names, y.2 = .local ∨ y.2 = .cell → y.1 ∈ own.map (·.1) ∨ y.1 ∉ N
def wipe (σ : St) : List Nat → St
  | [] => σ
  | v :: vs => (wipe σ vs).set v none
theorem wipe_length (σ : St) : ∀ vs : List Nat, (wipe σ vs).length = σ.length
  | [] => rfl
  | v :: vs => by unfold wipe; rw [List.length_set, wipe_length σ vs]
theorem wipe_some {σ : St} {i : Nat} {x : V} : ∀ {vs : List Nat}, (wipe σ vs)[i]? = some (some x) → σ[i]? = some (some x) ∧ i ∉ vs
  | [], h => ⟨h, by simp⟩
  | v :: vs, h => by
    unfold wipe at h
    by_cases hi : v = i
    · subst hi
      by_cases hv : v < (wipe σ vs).length
      · rw [List.getElem?_set_self hv] at h; cases h
      · rw [List.getElem?_eq_none (by simpa using hv)] at h; cases h
    · rw [List.getElem?_set_ne hi] at h
      obtain ⟨h1, h2⟩ := wipe_some h
      exact ⟨h1, by simp only [List.mem_cons, not_or]; exact ⟨fun e => hi e.symm, h2⟩⟩
abbrev Cx.blk (X : Cx) (s : Shared) (H : Hp) (scope : Scope) (cenv : Env) (fp : List Addr) : Cx := { X with s_0 := s, H_0 := H, env := cenv, outer := X.stack, ex := fp, fn := fun x => scope.names.lookup x == some .cell, pn := [], xe := fun _ _ => False }
section
variable {X : Cx} {pins : List (Addr × Obj)} {σ : St} {H : Hp} {s : Shared}
theorem block_start {scope : Scope} {own : List (Str × Nat)} {fp : List Addr} (I : Inv X pins σ H s) (ok : BlkOk X.N X.env.scope scope own) (hN : X.N.Nodup) (hfp : ∀ b ∈ fp, FpOk X pins H b ∧ b < s.heap.objs.size) :
    Inv (X.blk s H scope (compEnvC scope (cellsFrom (s.heap.objs.size + 1) scope.names (cloFrom X.env.cells scope.names [])) s.heap.objs.size X.env) fp) [] (wipe σ (own.map (·.2))) H { s with heap := pushCells (s.heap.push { cls := .type "dict", data := .dict #[] }) scope.names } := by
  have hfree : ∀ y ∈ scope.names, y.2 = .free → ∃ c, X.env.cells.lookup y.1 = some c := fun y hy e => by
    rcases ok.free y hy e with k | k
    · exact I.ok.has _ (.inl k)
    · exact I.ok.has _ (.inr k)
  generalize hcenv : compEnvC scope (cellsFrom (s.heap.objs.size + 1) scope.names (cloFrom X.env.cells scope.names [])) s.heap.objs.size X.env = cenv
  have kp : ∀ b o, s.heap.get? b = some o → (pushCells (s.heap.push { cls := .type "dict", data := .dict #[] }) scope.names).get? b = some o := fun b o e => pushCells_keeps _ _ _ _ (Heap.get?_push_of_some _ e)
  have hL : cenv.locals = s.heap.objs.size := by rw [← hcenv]; rfl
  have hcl : cenv.cells = cellsFrom (s.heap.objs.size + 1) scope.names (cloFrom X.env.cells scope.names []) := by rw [← hcenv]; rfl
  have hsc : cenv.scope = relS scope X.env.scope := by rw [← hcenv]; rfl
  rw [← Heap.size_push s.heap { cls := .type "dict", data := .dict #[] }] at hcl
  have cm : ∀ {y c}, (y, c) ∈ cloFrom X.env.cells scope.names [] → X.env.cells.lookup y = some c ∧ c < s.heap.objs.size := fun {y c} hm => by
    rcases cloFrom_mem hm with hm | ⟨h1, rfl⟩
    · cases hm
    · obtain ⟨c, hc⟩ := hfree _ h1 rfl
      rw [hc]
      obtain ⟨w, z⟩ := I.cell _ _ hc
      exact ⟨rfl, z.lt⟩
  have mem : ∀ {y c}, cenv.cells.lookup y = some c → (X.env.cells.lookup y = some c ∧ c < s.heap.objs.size) ∨ (s.heap.objs.size + 1 ≤ c ∧ CellAt (pushCells (s.heap.push { cls := .type "dict", data := .dict #[] }) scope.names) c none) := fun {y c} e => by
    rw [hcl] at e
    rcases cells_mem (PySem.mem_of_lookup e) with hm | ⟨_, h2, h3⟩
    · exact .inl (cm hm)
    · rw [Heap.size_push] at h2; exact .inr ⟨h2, h3⟩
  have look : ∀ {y}, scope.names.lookup y = some .free → ∃ c, cenv.cells.lookup y = some c ∧ X.env.cells.lookup y = some c := fun {y} hl => by
    have hy : (y, NameKind.free) ∈ scope.names := PySem.mem_of_lookup hl
    obtain ⟨c', e'⟩ := mem_lookup (cells_acc (names := scope.names) (n := (s.heap.push { cls := .type "dict", data := .dict #[] }).objs.size) (cloFrom_has (cells := X.env.cells) (acc := []) hy))
    rw [← hcl] at e'
    refine ⟨c', e', ?_⟩
    rw [hcl] at e'
    rcases cells_mem (PySem.mem_of_lookup e') with hm | ⟨h1, _, _⟩
    · exact (cm hm).1
    · have := ok.uniq _ h1
      rw [hl] at this; cases this
  have okB : (X.blk s H scope cenv fp).Ok := by
    refine ⟨I.ok.mod, by show cenv.scope.kind = _; rw [hsc]; exact ok.kind, by show cenv.globals = _; rw [← hcenv]; exact I.ok.glob, by show cenv.builtins = _; rw [← hcenv]; exact I.ok.blt, by show s.heap.objs.size ≤ cenv.locals; rw [hL]; exact Nat.le_refl _,
      fun y z c e1 e2 => ?_, fun y hy => ?_, fun y c z e => ?_, I.ok.hd, I.ok.frames, .inl rfl, fun b hb => ⟨?_, fun y c e z => ?_⟩, I.bs, Nat.le_trans I.ok.bsz I.sz, fun b o e hb => ?_, fun b hb z => ?_, I.stack, I.stkFree⟩
    · have e1 : cenv.cells.lookup y = some c := e1
      have e2 : cenv.cells.lookup z = some c := e2
      rw [hcl] at e1 e2
      refine cells_inj (fun p hp => ?_) (fun y z c a b => I.ok.inj y z c (cm a).1 (cm b).1) (PySem.mem_of_lookup e1) (PySem.mem_of_lookup e2)
      rw [Heap.size_push]
      exact Nat.lt_succ_of_lt (cm (y := p.1) (c := p.2) hp).2
    · show ∃ c, cenv.cells.lookup y = some c
      have key : ∀ k, cenv.kindOf y = some k → (k = .cell ∨ k = .free) → ∃ c, cenv.cells.lookup y = some c := fun k hk hk' => by
        unfold Env.kindOf at hk
        rw [hsc] at hk
        obtain ⟨k', e, r⟩ := lookup_relS hk
        have : k' = .cell ∨ k' = .free := by
          rcases r with rfl | ⟨rfl, _⟩
          · exact hk'
          · exact .inr rfl
        rcases this with rfl | rfl
        · obtain ⟨c, hm⟩ := cells_has (n := (s.heap.push { cls := .type "dict", data := .dict #[] }).objs.size) (acc := cloFrom X.env.cells scope.names []) (PySem.mem_of_lookup e)
          obtain ⟨c', e'⟩ := mem_lookup hm
          exact ⟨c', by rw [hcl]; exact e'⟩
        · obtain ⟨c, h1, _⟩ := look e
          exact ⟨c, h1⟩
      rcases hy with hy | hy
      · exact key _ hy (.inl rfl)
      · exact key _ hy (.inr rfl)
    · have z : (scope.names.lookup y == some NameKind.cell) = true := z
      have z : scope.names.lookup y = some .cell := by simpa using z
      have e : cenv.cells.lookup y = some c := e
      rw [hcl] at e
      rcases cells_mem (PySem.mem_of_lookup e) with hm | ⟨_, h2, _⟩
      · rcases cloFrom_mem hm with hm | ⟨h1, _⟩
        · cases hm
        · have q := ok.uniq _ h1
          rw [z] at q; cases q
      · rw [Heap.size_push] at h2
        exact Nat.le_of_succ_le h2
    · show b ≠ cenv.locals
      rw [hL]; exact Nat.ne_of_lt (hfp b hb).2
    · have e : cenv.cells.lookup y = some c := e
      rcases mem e with ⟨h1, _⟩ | ⟨h1, _⟩
      · exact (hfp b hb).1.2.2.2.2.1 y c h1 z
      · have h2 : s.heap.objs.size + 1 ≤ b := by rw [← z]; exact h1
        exact absurd (Nat.lt_of_lt_of_le (hfp b hb).2 (Nat.le_of_succ_le h2)) (Nat.lt_irrefl _)
    · rcases (hfp b hb).1.2.2.2.1 with z | z
      · exact I.ok.noex b o e z
      · exact absurd (Nat.lt_of_lt_of_le (Heap.lt_size e) (Nat.le_trans I.ok.bsz z)) (Nat.lt_irrefl _)
    · rcases List.mem_cons.mp (I.stkSub b z) with z | z
      · exact (hfp b hb).1.2.1 z
      · exact (hfp b hb).1.2.2.1 z
  refine ⟨okB, rfl, I.bare, Un.kept kp, ⟨fun _ => none, ?_, fun i y av e1 e2 e3 => ?_⟩, fun y c e => ?_, ?_, fun y c e => ?_, fun p hp => ?_, I.hok.kept kp, by rw [wipe_length]; exact I.len⟩
  · show Heap.Ns _ cenv.locals _
    rw [hL]
    exact Heap.Ns.keeps (Heap.Ns.new ..) fun b o e => pushCells_keeps _ _ _ _ e
  · obtain ⟨e2, hne⟩ := wipe_some e2
    have hfr : scope.names.lookup y = some .free ∧ (cenv.kindOf y = some .cell ∨ cenv.kindOf y = some .free) := by
      have key : ∀ k, cenv.scope.names.lookup y = some k → k = .local ∨ k = .cell ∨ k = .free → scope.names.lookup y = some .free ∧ (cenv.kindOf y = some .cell ∨ cenv.kindOf y = some .free) := fun k hk hk' => by
        have hk0 := hk
        rw [hsc] at hk
        obtain ⟨k', e, r⟩ := lookup_relS hk
        have no : ¬ (k' = .local ∨ k' = .cell) := fun hh => by
          rcases ok.own _ (PySem.mem_of_lookup e) hh with e' | e'
          · obtain ⟨p, hp, hpy⟩ := List.mem_map.mp e'
            have e3 := ok.ix p hp
            have : p.1 = y := hpy
            rw [this] at e3
            exact hne (List.mem_map.mpr ⟨p, hp, nodup_ix hN e3 e1⟩)
          · exact e' (List.mem_of_getElem? e1)
        rcases r with rfl | ⟨rfl, rfl⟩
        · rcases hk' with rfl | rfl | rfl
          · exact absurd (.inl rfl) no
          · exact absurd (.inr rfl) no
          · exact ⟨e, .inr hk0⟩
        · exact ⟨e, .inl hk0⟩
      have e3 : Vis cenv.scope y := e3
      rcases e3 with e3 | e3 | e3
      · exact key _ e3 (.inl rfl)
      · exact key _ e3 (.inr (.inl rfl))
      · exact key _ e3 (.inr (.inr rfl))
    obtain ⟨m, hn, hl⟩ := I.loc
    have hvis : Vis X.env.scope y := (ok.free _ (PySem.mem_of_lookup hfr.1) rfl).elim (fun k => .inr (.inl k)) (fun k => .inr (.inr k))
    obtain ⟨w, r, q⟩ := hl i y av e1 e2 hvis
    refine ⟨w, r, .inr ⟨hfr.2, ?_⟩⟩
    obtain ⟨c, h1, h2⟩ := look hfr.1
    rcases q with ⟨k, _⟩ | ⟨_, c', e', z⟩
    · have k : X.env.scope.names.lookup y = some .local := k
      rcases ok.free _ (PySem.mem_of_lookup hfr.1) rfl with k' | k' <;> rw [show X.env.scope.names.lookup y = _ from k'] at k <;> cases k
    · rw [h2] at e'; cases e'
      exact ⟨c, h1, z.keeps kp⟩
  · have e : cenv.cells.lookup y = some c := e
    rcases mem e with ⟨h1, _⟩ | ⟨_, z⟩
    · obtain ⟨w, z⟩ := I.cell y c h1
      exact ⟨w, z.keeps kp⟩
    · exact ⟨_, z⟩
  · show H cenv.locals = none
    rw [hL]; exact I.hok.fresh (Nat.le_refl _)
  · have e : cenv.cells.lookup y = some c := e
    rcases mem e with ⟨h1, _⟩ | ⟨h1, _⟩
    · exact I.freeC y c h1
    · exact I.hok.fresh (Nat.le_of_succ_le h1)
  · exact absurd (show p ∈ ([] : List (Addr × Obj)) ++ [] from hp) (by simp)
theorem app_ok {E : Value → Shared → Prop} {D : Addr} {xs : List V} {y : V} {v : Value} {Q : Value → Shared → Prop} (I : Inv X pins σ H s) (hD : H D = some (.lst xs)) (hz : xs.length < sizeLine) (r : RelV y v)
    (h : ∀ s', Inv X pins σ (upd H D (.lst (xs ++ [y]))) s' → Q .none s') : wpAny (model X.prog X.w) X.A (call (.builtin "list.append") [.ref D, v]) Q E s := by
  obtain ⟨hz', its, n, ri, e⟩ := I.hok D _ hD
  have hl := ri.length
  refine append_at (hsz := by rw [List.size_toArray]; omega) e fun h' sb ho' => ?_
  refine h { s with heap := h' } (I.write (t' := s.toks) (by rw [hD]; trivial) (.inl rfl) (fun b u hb q => (sb.2 b hb).trans q) ⟨_, ho'⟩ ⟨by rw [List.length_append]; exact hz, its ++ [v], n + 1, ri.append (.cons r .nil), ?_⟩)
  rw [ho']
  simp
def PTs (X : Cx) (ifs : List Expr) (t : TT) : Prop :=
  ∀ (pins : List (Addr × Obj)) (s : Shared) (σ : St) (H : Hp) (Q : Bool → Hp → Prop), Inv X pins σ H s → t σ H Q →
    wpAny (model X.prog X.w) X.A (forIn ifs true fun c r => if r = true then do let ok ← isTrue c X.env (eval c X.env); pure (ForInStep.yield ok) else pure (ForInStep.yield r)) (TP X pins σ Q) X.xe s
def tYes : TT := fun _ H Q => Q true H
theorem pts_nil : PTs X [] tYes := fun _ _ _ H _ I h => wpAny_tests_nil ⟨H, I, h⟩
end
theorem thnF {α : Type} {t : Sem α} {Q Q' : α → Shared → Prop} {M : Model} {A : Around} {E : Value → Shared → Prop} {s : Shared} (h : wpAny M A t Q (fun _ _ => False) s) (hQ : ∀ a s, Q a s → Q' a s) : wpAny M A t Q' E s := wpAny_mono h hQ fun _ _ z => False.elim z
theorem compLoop_any {prog : Program} {w : World} {A : Around} {R : Result → Shared → Prop} {s : Shared} {elt target iter : Expr} {ifs : List Expr} {scope : Scope} {pos : Pos} {it acc : Value} {env : Env} (I : Nat → Shared → Prop)
    (turn : ∀ n s, I n s → wpAny (model prog w) A (pyNext it) (fun r s₁ => match r with
      | none => R (.ok .next) s₁
      | some v => wpAny (model prog w) A (letOwnedTupleGo target it v) (fun _ s₁' => wpAny (model prog w) A (assign target env v) (fun _ s₂ =>
          wpAny (model prog w) A (forIn ifs true fun c r => if r = true then do let ok ← isTrue c env (eval c env); pure (ForInStep.yield ok) else pure (ForInStep.yield r)) (fun ok s₃ =>
            if ok = true then wpAny (model prog w) A (eval elt env) (fun x s₄ =>
              wpAny (model prog w) A (call (.builtin "list.append") [acc, x]) (fun _ s₅ => ∃ m, m < n ∧ I m s₅) (notedBy (model prog w) A env fun e s' => R (.error e) s') s₄) (notedBy (model prog w) A env fun e s' => R (.error e) s') s₃
            else ∃ m, m < n ∧ I m s₃) (notedBy (model prog w) A env fun e s' => R (.error e) s') s₂) (notedBy (model prog w) A env fun e s' => R (.error e) s') s₁') (notedBy (model prog w) A env fun e s' => R (.error e) s') s₁) (notedBy (model prog w) A env fun e s' => R (.error e) s') s)
    (n : Nat) (h : I n s) :
    codeAny (model prog w) A (.compLoop (.ListComp elt [⟨target, iter, ifs, 0⟩] scope pos) 0 it acc env) R s := by
  refine codeAny_loop rfl I (fun n s hI => ?_) n h
  show wpAny _ A ((compTurn (.ListComp elt [⟨target, iter, ifs, 0⟩] scope pos) 0 it acc env).onRaise (fun x => do noteFrame x env; theTreesLotGoes x)) _ _ s
  refine wpAny_noted ?_
  rw [compTurn_list]
  refine wpAny_bind (wpAny_standAt (wpAny_bind (wpAny_mono (turn n s hI) (fun r s₁ h₁ => ?_) fun _ _ h' => h')))
  cases r with
  | none => exact wpAny_pure h₁
  | some v =>
    refine wpAny_bind (wpAny_mono h₁ (fun _ s₁' h₁' => ?_) fun _ _ h' => h')
    refine wpAny_bind (wpAny_mono h₁' (fun _ s₂ h₂ => wpAny_bind (wpAny_mono h₂ (fun ok s₃ h₃ => ?_) fun _ _ h' => h')) fun _ _ h' => h')
    cases ok with
    | false => exact wpAny_pure ⟨rfl, h₃⟩
    | true =>
      exact wpAny_bind (wpAny_bind (wpAny_mono h₃ (fun x s₄ h₄ => wpAny_bind (wpAny_mono h₄ (fun _ s₅ h₅ => wpAny_pure (wpAny_pure ⟨rfl, h₅⟩)) fun _ _ h' => h')) fun _ _ h' => h'))
section
variable {X : Cx}
def tLc (wi : TI) (g : TG) (tt : TT) (te : TE) (vs : List Nat) : TE := fun σ H Q => wi σ H fun J H1 => ∀ D, H1 D = none → ∃ W : Nat → Nat → Hp → Prop, (∃ m, W 0 m (upd H1 D (.lst []))) ∧ ∀ i m H, W i m H →
  (J.stop i H ∧ Q (.ref D) H) ∨ (J.go i H ∧ ∃ Nx : Hp → Prop, (∀ H', Nx H' → ∃ m', m' < m ∧ W (i + 1) m' H') ∧ ∀ x H', J.yld i H x H' → g x (wipe σ vs) H' fun σ2 H2 => wipe σ2 vs = wipe σ vs ∧ tt σ2 H2 fun b H3 =>
    if b = true then te σ2 H3 fun y H4 => ∃ acc, H4 D = some (.lst acc) ∧ acc.length < sizeLine ∧ Nx (upd H4 D (.lst (acc ++ [y]))) else Nx H3)
theorem lc_core {pins : List (Addr × Obj)} {s : Shared} {σ : St} {H : Hp} {Q : VK} {elt tg iter : Expr} {ifs : List Expr} {scope : Scope} {own : List (Str × Nat)} {pos pos' : Pos} {wi : TI} {g : TG} {tt : TT} {te : TE} {use : Option (Value → Sem Unit)} {Qf : Value → Shared → Prop}
    (hc : X.calm = true) (hN : X.N.Nodup) (I : Inv X pins σ H s) (hi : PI X tg iter wi) (ok : BlkOk X.N X.env.scope scope own)
    (hg : ∀ (s : Shared) (H : Hp) (C : Addr) (cl : List (Str × Addr)) (fp : List Addr), PG (X.blk s H scope (compEnvC scope cl C X.env) fp) tg g) (ht : ∀ (s : Shared) (H : Hp) (C : Addr) (cl : List (Str × Addr)) (fp : List Addr), PTs (X.blk s H scope (compEnvC scope cl C X.env) fp) ifs tt)
    (he : ∀ (s : Shared) (H : Hp) (C : Addr) (cl : List (Str × Addr)) (fp : List Addr), PE (X.blk s H scope (compEnvC scope cl C X.env) fp) elt te) (hs : ∀ x, foldedSetIterable iter X.env x = pure x)
    (h : tLc wi g tt te (own.map (·.2)) σ H Q)
    (hRR : ∀ D C s' m H', Inv X pins σ H' s' → Q (.ref D) H' → s'.heap.Ns C m → FpOk X pins H' C → compPost (model X.prog X.w) X.A X.xe use Qf (.ref D) C (.ok .next) s') :
    wpAny (model X.prog X.w) X.A (comprehension (.ListComp elt [⟨tg, iter, ifs, 0⟩] scope pos) scope X.env pos' (newList []) false (eval iter X.env) use) Qf X.xe s := by
  have hfree : ∀ y ∈ scope.names, y.2 = .free → ∃ c, X.env.cells.lookup y.1 = some c := fun y hy e => by
    rcases ok.free y hy e with k | k
    · exact I.ok.has _ (.inl k)
    · exact I.ok.has _ (.inr k)
  refine wpAny_comprehension_free (use := use) rfl hs (closure_ok hfree) ok.kind (fun y hy e => by rw [ok.uniq y hy, e])
    (thn (hi pins s σ H _ I h) fun xv s1 hx => thn hx fun itv s2 h2 => ?_)
  obtain ⟨it, fp, tn, J, H2, e, I2, T, st2, f2, q⟩ := h2
  subst e
  refine wpAny_newObj_type (newEnv_comp ?_) (by show 0 ≤ sizeLine; decide)
  generalize hD : s2.heap.objs.size = D
  have hDn : H2 D = none := I2.hok.fresh (Nat.le_of_eq hD)
  obtain ⟨W, ⟨m0, w0⟩, turn⟩ := q D hDn
  generalize hs3 : ({ s2 with heap := s2.heap.push { cls := .type "list", data := .seq ([] : List Value).toArray } } : Shared) = s3
  have I3 : Inv X pins σ (upd H2 D (.lst [])) s3 := by
    rw [← hs3]
    refine I2.laid (t' := s2.toks) (fun b o e => Heap.get?_push_of_some _ e) (Nat.le_of_eq hD) ⟨Nat.zero_le _, [], 0, .nil, ?_⟩
    rw [← hD]
    exact Heap.get?_push_size _ rfl
  have h3 : s3.heap = s2.heap.push { cls := .type "list", data := .seq ([] : List Value).toArray } := by rw [← hs3]
  have sz : ∀ b ∈ fp, b < s2.heap.objs.size := fun b hb => by
    obtain ⟨o, e, _⟩ := T.obj _ _ st2 b hb
    exact Heap.lt_size e
  have f3 : ∀ b ∈ fp, FpOk X pins (upd H2 D (.lst [])) b ∧ b < s3.heap.objs.size := fun b hb => by
    have hlt := sz b hb
    refine ⟨⟨?_, (f2 b hb).2⟩, by rw [h3, Heap.size_push]; exact Nat.lt_succ_of_lt hlt⟩
    rw [upd_ne (by rw [← hD]; exact Nat.ne_of_lt hlt)]
    exact (f2 b hb).1
  have st3 : tn 0 s3.heap := T.keep _ _ _ st2 fun b _ o e => by rw [h3]; exact Heap.get?_push_of_some _ e
  have I4 := block_start I3 ok hN f3
  have pg := hg s3 (upd H2 D (.lst [])) s3.heap.objs.size (cellsFrom (s3.heap.objs.size + 1) scope.names (cloFrom X.env.cells scope.names [])) fp
  have pt := ht s3 (upd H2 D (.lst [])) s3.heap.objs.size (cellsFrom (s3.heap.objs.size + 1) scope.names (cloFrom X.env.cells scope.names [])) fp
  have pe := he s3 (upd H2 D (.lst [])) s3.heap.objs.size (cellsFrom (s3.heap.objs.size + 1) scope.names (cloFrom X.env.cells scope.names [])) fp
  show codeAny _ _ (.compStart (.ListComp elt [⟨tg, iter, ifs, 0⟩] scope pos) 0 (.ref it) (.ref D) (compEnvC scope (cellsFrom (s3.heap.objs.size + 1) scope.names (cloFrom X.env.cells scope.names [])) s3.heap.objs.size X.env)) (compPost (model X.prog X.w) X.A X.xe use Qf (.ref D) s3.heap.objs.size) { s3 with heap := pushCells (s3.heap.push { cls := .type "dict", data := .dict #[] }) scope.names }
  have nfp : ∀ b ∈ fp, (upd H2 D (.lst [])) b = none := fun b hb => (f3 b hb).1.1
  generalize hce : compEnvC scope (cellsFrom (s3.heap.objs.size + 1) scope.names (cloFrom X.env.cells scope.names [])) s3.heap.objs.size X.env = ce at I4 pg pt pe ⊢
  have cL : ce.locals = s3.heap.objs.size := by subst hce; rfl
  generalize hH3 : upd H2 D (.lst []) = H3 at I3 I4 pg pt pe w0 nfp f3
  generalize hs4 : ({ s3 with heap := pushCells (s3.heap.push { cls := .type "dict", data := .dict #[] }) scope.names } : Shared) = s4 at I4 ⊢
  have st4 : tn 0 s4.heap := T.keep _ _ _ st3 fun b _ o e => by rw [← hs4]; exact pushCells_keeps _ _ _ _ (Heap.get?_push_of_some _ e)
  have stat : ∀ {σ' : St} {H' : Hp} {s' : Shared}, Inv (X.blk s3 H3 scope ce fp) [] σ' H' s' → (∀ b ∈ fp, H' b = none) → ∀ b ∈ fp, FpOk (X.blk s3 H3 scope ce fp) [] H' b := fun {σ' H' s'} I' hn b hb =>
    ⟨hn b hb, (I'.ok.exf b hb).1, I'.ok.exfs b hb, .inl hb, fun x c e => (I'.ok.exf b hb).2 x c e, fun p hp => absurd (show p ∈ ([] : List (Addr × Obj)) ++ [] from hp) (by simp)⟩
  have loop : codeAny (model X.prog X.w) X.A (.compLoop (.ListComp elt [⟨tg, iter, ifs, 0⟩] scope pos) 0 (.ref it) (.ref D) ce) (compPost (model X.prog X.w) X.A X.xe use Qf (.ref D) s3.heap.objs.size) s4 := by
    refine compLoop_any (fun n s' => ∃ i H', Inv (X.blk s3 H3 scope ce fp) [] (wipe σ (own.map (·.2))) H' s' ∧ tn i s'.heap ∧ (∀ b ∈ fp, H' b = none) ∧ W i n H') ?_ m0 ⟨0, H3, I4, st4, nfp, w0⟩
    rintro n s5 ⟨i, H5, I5, st5, n5, w5⟩
    rcases turn i n H5 w5 with ⟨stop, qq⟩ | ⟨go, Nx, hNx, step⟩
    · have td := T.done (X.blk s3 H3 scope ce fp) rfl rfl rfl hc i [] s5 _ H5 (fun _ _ => False) I5 (stat I5 n5) st5 stop
      refine thnF td fun r s6 ⟨hr, I6⟩ => ?_
      subst hr
      have I7 : Inv X pins σ H5 s6 := I3.call' (ch := fp) I6.os I6.base I6.hok I6.bare fun b hb => ⟨(f3 b hb).1.2.2.2.1, (f3 b hb).1.2.1, (f3 b hb).1.2.2.2.2.1, (f3 b hb).1.2.2.2.2.2⟩
      have nC : H5 s3.heap.objs.size = none := by
        have z : H5 ce.locals = none := I6.free
        rw [cL] at z
        exact z
      obtain ⟨m, hn, _⟩ := I6.loc
      have hn : s6.heap.Ns ce.locals m := hn
      rw [cL] at hn
      exact hRR D s3.heap.objs.size s6 m H5 I7 qq hn (I3.fpOk (Nat.le_refl _) nC)
    · have ti := T.item (X.blk s3 H3 scope ce fp) rfl rfl rfl hc i [] s5 _ H5 (fun _ _ => False) I5 (stat I5 n5) st5 go
      refine thnF ti fun r s6 ⟨u, hr, h6⟩ => ?_
      subst hr
      refine thnF h6 fun _ s7 ⟨x, H7, I7, r7, y7, st7, n7⟩ => ?_
      have I7' := I7.pinned (stat I7 n7) (T.obj _ _ st7)
      refine thnF (pg _ s7 _ H7 x u _ I7' r7 (step x H7 y7)) fun _ s8 ⟨σ8, H8, I8, hw8, q8⟩ => ?_
      refine thnF (pt _ s8 σ8 H8 _ I8 q8) fun b s9 ⟨H9, I9, q9⟩ => ?_
      have fin : ∀ {s' : Shared} {H' : Hp}, Inv (X.blk s3 H3 scope ce fp) ([] ++ pinsAt fp s7.heap) σ8 H' s' → Nx H' → ∃ m, m < n ∧ ∃ i H', Inv (X.blk s3 H3 scope ce fp) [] (wipe σ (own.map (·.2))) H' s' ∧ tn i s'.heap ∧ (∀ b ∈ fp, H' b = none) ∧ W i m H' := fun {s' H'} I' nx => by
        obtain ⟨m', hm, w'⟩ := hNx H' nx
        have pin' : ∀ b ∈ fp, ∀ o, s7.heap.get? b = some o → s'.heap.get? b = some o ∧ H' b = none := fun b hb o e =>
          let z := I'.pin (b, o) (List.mem_append_right _ (List.mem_append_right _ (mem_pinsAt hb e)))
          ⟨z.1, z.2.1⟩
        have hl : (wipe σ (own.map (·.2))).length = σ8.length := by rw [← hw8, wipe_length]
        refine ⟨m', hm, i + 1, H', (I'.unpinned (pins := [])).weak hl (fun j v e => ?_), T.keep _ _ _ st7 fun b hb o e => (pin' b hb o e).1, fun b hb => ?_, w'⟩
        · rw [← hw8] at e
          exact (wipe_some e).1
        · obtain ⟨o, e, _⟩ := T.obj _ _ st7 b hb
          exact (pin' b hb o e).2
      cases b with
      | false =>
        simp only [Bool.false_eq_true, if_false] at q9 ⊢
        exact fin I9 q9
      | true =>
        simp only [if_true] at q9 ⊢
        refine thnF (pe _ s9 σ8 H9 _ I9 q9) fun z s10 ⟨yv, H10, I10, r10, acc, hD10, hz10, nx⟩ => ?_
        exact app_ok (X := X.blk s3 H3 scope ce fp) I10 hD10 hz10 r10 fun s11 I11 => fin I11 nx
  exact codeAny_compStart_list loop (T.self X.A 0 _ _ _ st4 loop)
theorem pe_lc {elt tg iter : Expr} {ifs : List Expr} {scope : Scope} {own : List (Str × Nat)} {pos : Pos} {wi : TI} {g : TG} {tt : TT} {te : TE} (hc : X.calm = true) (hN : X.N.Nodup) (hi : PI X tg iter wi) (ok : BlkOk X.N X.env.scope scope own)
    (hg : ∀ (s : Shared) (H : Hp) (C : Addr) (cl : List (Str × Addr)) (fp : List Addr), PG (X.blk s H scope (compEnvC scope cl C X.env) fp) tg g) (ht : ∀ (s : Shared) (H : Hp) (C : Addr) (cl : List (Str × Addr)) (fp : List Addr), PTs (X.blk s H scope (compEnvC scope cl C X.env) fp) ifs tt)
    (he : ∀ (s : Shared) (H : Hp) (C : Addr) (cl : List (Str × Addr)) (fp : List Addr), PE (X.blk s H scope (compEnvC scope cl C X.env) fp) elt te) (hs : ∀ x, foldedSetIterable iter X.env x = pure x := by intro _; rfl) :
    PE X (.ListComp elt [⟨tg, iter, ifs, 0⟩] scope pos) (tLc wi g tt te (own.map (·.2))) := by
  intro pins s σ H Q I h
  rw [eval_ListComp]
  refine lc_core hc hN I hi ok hg ht he hs h fun D C s' m H' I' q hn f => ⟨m, hn, fun h'' sb => ?_⟩
  obtain ⟨f0, f1, f2, f3, f4, f5⟩ := f
  exact ⟨.ref D, H', I'.turned (t' := s'.toks) (fun b o hb e => (sb.2 b hb).trans e) f0 f1 f3 f4 f5, rfl, q⟩
theorem ps_setLc {i : Nat} {y : Str} {py : Pos} {elt tg iter : Expr} {ifs : List Expr} {scope : Scope} {own : List (Str × Nat)} {pos spos : Pos} {wi : TI} {g : TG} {tt : TT} {te : TE} (hc : X.calm = true) (hN : X.N.Nodup) (hy : X.N[i]? = some y) (hyl : X.env.scope.names.lookup y = some .local)
    (hsw : swapsWith (.ListComp elt [⟨tg, iter, ifs, 0⟩] scope pos) (some (.Name y py)) spos.line X.env = pure true) (hi : PI X tg iter wi) (ok : BlkOk X.N X.env.scope scope own)
    (hg : ∀ (s : Shared) (H : Hp) (C : Addr) (cl : List (Str × Addr)) (fp : List Addr), PG (X.blk s H scope (compEnvC scope cl C X.env) fp) tg g) (ht : ∀ (s : Shared) (H : Hp) (C : Addr) (cl : List (Str × Addr)) (fp : List Addr), PTs (X.blk s H scope (compEnvC scope cl C X.env) fp) ifs tt)
    (he : ∀ (s : Shared) (H : Hp) (C : Addr) (cl : List (Str × Addr)) (fp : List Addr), PE (X.blk s H scope (compEnvC scope cl C X.env) fp) elt te) (hs : ∀ x, foldedSetIterable iter X.env x = pure x := by intro _; rfl) :
    PS X (.Assign [.Name y py] (.ListComp elt [⟨tg, iter, ifs, 0⟩] scope pos) spos) (tAsg (tLc wi g tt te (own.map (·.2))) (gName i)) := by
  intro pins s σ H D I h
  rw [exec_Assign_Name_used _ _ _ _ hsw]
  refine wpAny_bind (wpAny_standAt (wpAny_bind ?_))
  show wpAny _ X.A (do let _ ← comprehension (.ListComp elt [⟨tg, iter, ifs, 0⟩] scope pos) scope X.env (firstIterPos [⟨tg, iter, ifs, 0⟩] pos) (newList []) false (eval iter X.env) (some (assign (.Name y py) X.env))) _ _ s
  have h : tLc wi g tt te (own.map (·.2)) σ H (fun x H1 => gName i x σ H1 D.nx) := h
  refine wpAny_bind (thn (lc_core (Qf := fun _ s' => SP X pins D .next s') hc hN I hi ok hg ht he hs h fun L C s' m H' I' q hn f => ?_) fun _ s' hq => wpAny_pure (wpAny_pure hq))
  show wpAny _ _ (assign (.Name y py) X.env (.ref L)) _ _ _
  refine wpAny_assign_Name (store_ok2 (v := V.ref L) I' hN hy (.inl hyl) rfl (fun s2 I2 ⟨a, sb, ha⟩ => ?_) (.inr hyl))
  obtain ⟨f0, f1, f2, f3, f4, f5⟩ := f
  have haC : C ≠ a := by
    rcases ha with z | z
    · rw [z]; exact f1
    · exact fun e => f4 y a z e.symm
  refine ⟨m, hn.sameBut sb haC, fun h3 sb3 => ?_⟩
  exact ⟨_, H', I2.turned (t' := s2.toks) (fun b o hb e => (sb3.2 b hb).trans e) f0 f1 f3 f4 f5, q⟩
theorem sw_true {elt : Expr} {gs : List Comprehension} {scope : Scope} {pos py : Pos} {y : Str} {l : Nat} {env : Env} (hk : env.scope.kind = .function) (hy : env.scope.names.lookup y = some .local) (hl : (py.line == pos.line) = true)
    (ha : (scope.names.any fun (n, k) => n == y && (k == .local || k == .cell)) = false) : swapsWith (.ListComp elt gs scope pos) (some (.Name y py)) l env = pure true := by
  have ky : env.kindOf y = some .local := hy
  have hb : env.blockKind = .function := by unfold Env.blockKind; rw [hk]; rfl
  unfold swapsWith
  simp only [hb, ky, ha, Expr.pos, hl]
  rfl
end
theorem lc_list {K : PySem.W.Frag} {a : Addr} {xs : List V} {g : TG} {tt : TT} {te : TE} {vs : List Nat} {σ : St} {H1 : Hp} {D : Addr} {Qd : Hp → Prop} (Pv : Nat → Hp → Prop) (h0 : Pv 0 (upd H1 D (.lst []))) (hl : ∀ i H, i ≤ xs.length → Pv i H → SqL K H a xs)
    (hs : ∀ i x H, xs[i]? = some x → Pv i H → g x (wipe σ vs) H fun σ2 H2 => wipe σ2 vs = wipe σ vs ∧ tt σ2 H2 fun b H3 =>
      if b = true then te σ2 H3 fun y H4 => ∃ acc, H4 D = some (.lst acc) ∧ acc.length < sizeLine ∧ Pv (i + 1) (upd H4 D (.lst (acc ++ [y]))) else Pv (i + 1) H3) (hd : ∀ H, Pv xs.length H → Qd H) :
    ∃ W : Nat → Nat → Hp → Prop, (∃ m, W 0 m (upd H1 D (.lst []))) ∧ ∀ i m H, W i m H →
      ((Itl K a).stop i H ∧ Qd H) ∨ ((Itl K a).go i H ∧ ∃ Nx : Hp → Prop, (∀ H', Nx H' → ∃ m', m' < m ∧ W (i + 1) m' H') ∧ ∀ x H', (Itl K a).yld i H x H' → g x (wipe σ vs) H' fun σ2 H2 => wipe σ2 vs = wipe σ vs ∧ tt σ2 H2 fun b H3 =>
        if b = true then te σ2 H3 fun y H4 => ∃ acc, H4 D = some (.lst acc) ∧ acc.length < sizeLine ∧ Nx (upd H4 D (.lst (acc ++ [y]))) else Nx H3) := by
  refine ⟨fun i m H => m = xs.length - i ∧ i ≤ xs.length ∧ Pv i H, ⟨xs.length, by simp, Nat.zero_le _, h0⟩, ?_⟩
  rintro i m H ⟨rfl, hi, p⟩
  have q := hl i H hi p
  by_cases hlt : i < xs.length
  · refine .inr ⟨⟨xs, xs[i], q, by simp [hlt]⟩, Pv (i + 1), fun H' p' => ⟨xs.length - (i + 1), by omega, rfl, hlt, p'⟩, fun x H' y => ?_⟩
    obtain ⟨e, y⟩ := y
    subst e
    exact hs i x _ (y xs q) p
  · have e : i = xs.length := by omega
    subst e
    exact .inl ⟨⟨xs, q, Nat.le_refl _⟩, hd H p⟩
def blkC (N : List Str) (sc scope : Scope) (own : List (Str × Nat)) : Bool :=
  (match scope.kind with | .function => true | _ => false) && (scope.names.all fun y => decide (scope.names.lookup y.1 = some y.2)) && (own.all fun p => decide (N[p.2]? = some p.1)) &&
    (scope.names.all fun y => match y.2 with
      | .free => (match sc.names.lookup y.1 with | some .cell => true | some .free => true | _ => false)
      | .local => decide (y.1 ∈ own.map (·.1)) || decide (y.1 ∉ N)
      | .cell => decide (y.1 ∈ own.map (·.1)) || decide (y.1 ∉ N)
      | _ => true)
theorem blkOk_by {N : List Str} {sc scope : Scope} {own : List (Str × Nat)} (h : blkC N sc scope own = true) : BlkOk N sc scope own := by
  unfold blkC at h
  simp only [Bool.and_eq_true, List.all_eq_true, decide_eq_true_eq] at h
  obtain ⟨⟨⟨h1, h2⟩, h3⟩, h4⟩ := h
  refine ⟨?_, h2, h3, fun y hy e => ?_, fun y hy e => ?_⟩
  · split at h1
    · assumption
    · cases h1
  · have q := h4 y hy
    simp only [e] at q
    split at q <;> first | exact .inl (by assumption) | exact .inr (by assumption) | cases q
  · have q := h4 y hy
    rcases e with e | e <;> (simp only [e, Bool.or_eq_true, decide_eq_true_eq] at q; exact q)
end L2
namespace L2
open PySem PySem.Spec PyProof.Rows
section
variable {prog : Program} {w : World} {A : Around} {R : Result → Shared → Prop} {s : Shared} {elt t0 i0 t1 i1 : Expr} {ifs0 ifs1 : List Expr} {scope : Scope} {pos : Pos} {it acc : Value} {env : Env}
end
section
variable {X : Cx}
end
end L2
namespace L2
open PySem PySem.Spec PyProof.Rows
section
variable {κ : Type} [DecidableEq κ]
def valV (kvs : List (κ × V)) (k : κ) : Option V := (kvs.find? fun kv => decide (kv.1 = k)).map (·.2)
def putK (kvs : List (κ × V)) (k : κ) (v : V) : List (κ × V) :=
  if (kvs.any fun kv => decide (kv.1 = k)) = true then kvs.map (fun kv => if kv.1 = k then (kv.1, v) else kv) else kvs ++ [(k, v)]
def dropK (kvs : List (κ × V)) (k : κ) : List (κ × V) := kvs.filter fun kv => decide (kv.1 ≠ k)
theorem valV_pos {p : κ × V} {r : List (κ × V)} {k : κ} (e : p.1 = k) : valV (p :: r) k = some p.2 := by simp [valV, List.find?_cons, e]
theorem valV_neg {p : κ × V} {r : List (κ × V)} {k : κ} (e : ¬ p.1 = k) : valV (p :: r) k = valV r k := by simp [valV, List.find?_cons, e]
theorem KV.val {kvs : List (κ × V)} {vs : List (κ × Value)} (r : KV kvs vs) (k : κ) : RelO (valV kvs k) (valueAt vs k) := by
  unfold KV at r
  induction r with
  | nil => exact True.intro
  | @cons p q ps qs h t ih =>
    obtain ⟨h1, h2⟩ := h
    by_cases e : p.1 = k
    · have e' : q.1 = k := h1.symm.trans e
      have b : valueAt (q :: qs) k = some q.2 := by simp [valueAt, List.find?_cons, e']
      rw [valV_pos e, b]; exact h2
    · have e' : ¬ q.1 = k := fun z => e (h1.trans z)
      have b : valueAt (q :: qs) k = valueAt qs k := by simp [valueAt, List.find?_cons, e']
      rw [valV_neg e, b]; exact ih
theorem KV.drop {kvs : List (κ × V)} {vs : List (κ × Value)} (r : KV kvs vs) (k : κ) : KV (dropK kvs k) (without vs k) := by
  unfold KV at r ⊢
  unfold dropK without
  induction r with
  | nil => exact .nil
  | @cons p q ps qs h t ih =>
    obtain ⟨h1, h2⟩ := h
    rw [List.filter_cons, List.filter_cons]
    by_cases e : p.1 = k
    · have a : ¬ decide (p.1 ≠ k) = true := by simp [e]
      have b : ¬ decide (q.1 ≠ k) = true := by simp [h1.symm.trans e]
      rw [if_neg a, if_neg b]; exact ih
    · have e' : ¬ q.1 = k := fun z => e (h1.trans z)
      have a : decide (p.1 ≠ k) = true := by simp [e]
      have b : decide (q.1 ≠ k) = true := by simp [e']
      rw [if_pos a, if_pos b]; exact .cons ⟨h1, h2⟩ ih
theorem KV.length {kvs : List (κ × V)} {vs : List (κ × Value)} (r : KV kvs vs) : kvs.length = vs.length := Paired.length r
end
abbrev KT (H : Hp) : List (List Key × V) → List (List Key × Addr × Value) → Prop := Paired fun p q => p.1 = q.1 ∧ H q.2.1 = some (.tup (p.1.map kV)) ∧ RelV p.2 q.2.2
theorem KT.val {H : Hp} {kvs : List (List Key × V)} {xs : List (List Key × Addr × Value)} (r : KT H kvs xs) (k : List Key) : RelO (valV kvs k) ((atKey xs k).map (·.2)) := by
  induction r with
  | nil => exact True.intro
  | @cons p q ps qs h t ih =>
    obtain ⟨h1, _, h2⟩ := h
    by_cases e : p.1 = k
    · have e' : q.1 = k := h1.symm.trans e
      have b : atKey (q :: qs) k = some q.2 := by simp [atKey, List.find?_cons, e']
      rw [valV_pos e, b]; exact h2
    · have e' : ¬ q.1 = k := fun z => e (h1.trans z)
      have b : atKey (q :: qs) k = atKey qs k := by simp [atKey, List.find?_cons, e']
      rw [valV_neg e, b]; exact ih
section
variable {P : Program} {w : World} {H : Hp} {h : Heap} {a : Addr}
end
def DGet (H : Hp) (a : Addr) (y : V) (r : Option V) : Prop :=
  (∃ kvs k, Rd H a (.dK kvs) ∧ y = kV k ∧ r = valV kvs k) ∨ ∃ kvs k b, Rd H a (.dT kvs) ∧ y = .ref b ∧ H b = some (.tup (k.map kV)) ∧ r = valV kvs k
def DPut (H : Hp) (a : Addr) (y v : V) (H' : Hp) : Prop :=
  (∃ kvs k, H a = some (.dK kvs) ∧ y = kV k ∧ kvs.length < sizeLine ∧ H' = upd H a (.dK (putK kvs k v))) ∨
  ∃ kvs k b, H a = some (.dT kvs) ∧ y = .ref b ∧ H b = some (.tup (k.map kV)) ∧ kvs.length < sizeLine ∧ H' = upd H a (.dT (putK kvs k v))
theorem DGet.k {H : Hp} {a : Addr} {kvs : List (Key × V)} {k : Key} (e : H a = some (.dK kvs)) : DGet H a (kV k) (valV kvs k) := .inl ⟨kvs, k, .inl e, rfl, rfl⟩
theorem DGet.t {H : Hp} {a b : Addr} {kvs : List (List Key × V)} {k : List Key} (e : H a = some (.dT kvs)) (eb : H b = some (.tup (k.map kV))) : DGet H a (.ref b) (valV kvs k) := .inr ⟨kvs, k, b, .inl e, rfl, eb, rfl⟩
theorem DPut.k {H : Hp} {a : Addr} {kvs : List (Key × V)} {k : Key} {v : V} (e : H a = some (.dK kvs)) (hl : kvs.length < sizeLine) : DPut H a (kV k) v (upd H a (.dK (putK kvs k v))) := .inl ⟨kvs, k, e, rfl, hl, rfl⟩
theorem DPut.t {H : Hp} {a b : Addr} {kvs : List (List Key × V)} {k : List Key} {v : V} (e : H a = some (.dT kvs)) (eb : H b = some (.tup (k.map kV))) (hl : kvs.length < sizeLine) :
    DPut H a (.ref b) v (upd H a (.dT (putK kvs k v))) := .inr ⟨kvs, k, b, e, rfl, eb, hl, rfl⟩
section
variable {X : Cx} {pins : List (Addr × Obj)} {σ : St} {H : Hp} {s : Shared} {a : Addr} {y v : V} {u r : Value} {o : Option V} {A : Around} {E : Value → Shared → Prop}
end
section
variable {X : Cx} {pins : List (Addr × Obj)} {σ : St} {H : Hp} {s : Shared} {a : Addr} {kvs : List (Key × V)} {k : Key} {u : Value} {A : Around} {E : Value → Shared → Prop}
end
section
variable {X : Cx} {o i e value : Expr} {pos pos' tpos : Pos} {td ty tv : TE}
end
section
variable {X : Cx} {pos : Pos}
end
section
variable {X : Cx} {pins : List (Addr × Obj)} {σ : St} {H : Hp} {s : Shared} {a : Addr} {y d : V} {u r : Value} {o : Option V} {A : Around} {E : Value → Shared → Prop}
end
section
variable {X : Cx} {o e f : Expr} {apos cpos : Pos} {td ty tx : TE}
end
section
variable {X : Cx} {pins : List (Addr × Obj)} {σ : St} {H : Hp} {s : Shared} {a : Addr} {kvs : List (Key × V)} {A : Around} {E : Value → Shared → Prop}
end
section
variable {X : Cx} {pins : List (Addr × Obj)} {σ : St} {H : Hp} {s : Shared} {a : Addr} {y : V} {u : Value} {A : Around} {E : Value → Shared → Prop}
end
end L2
namespace L2
open PySem PySem.Spec PyProof.Rows
section
variable {prog : Program} {w : World} {A : Around} {E : Value → Shared → Prop}
end
section
variable {X : Cx}
end
end L2
namespace L2
open PySem PySem.Spec PyProof.Rows
theorem boot_reversed5 : bootBuiltins "reversed" = some (.type "reversed") := by decide +kernel
section
variable {X : Cx} {pins : List (Addr × Obj)} {σ : St} {H : Hp} {s : Shared} {h' : Heap}
theorem Inv.turnedNew {t' : Nat} {ch : List Addr} {T : Addr} {ob : HO} (I : Inv X pins σ H s) (k : ∀ b o, b ∉ ch → s.heap.get? b = some o → h'.get? b = some o) (hf : ∀ b ∈ ch, FpOk X pins H b) (hT : s.heap.objs.size ≤ T)
    (new : ObjOk X.prog X.w (upd H T ob) h' T ob) : Inv X pins σ (upd H T ob) { s with heap := h', toks := t' } := by
  have hn : H T = none := I.hok.fresh hT
  have nit : ∀ b u, H b = some u → b ∉ ch := fun b u e z => by
    have q := (hf b z).1
    rw [q] at e; cases e
  refine I.step (g' := s.gens) (d' := s.drawn) (ch := ch) (fun b hb => ⟨(hf b hb).2.2.2.1, (hf b hb).2.1, (hf b hb).2.2.2.2.1, (hf b hb).2.2.2.2.2⟩) (fun b o _ _ hc e _ => k b o hc e) (fun b o _ _ hc e _ => ⟨o.slots, k b o hc e⟩)
    (fun b o _ e n => ?_) (fun b o hc e => ⟨o, k b o hc e⟩) (fun b xs e => ?_) (fun b o u e => ?_) (fun b ps e => ⟨#[], ?_⟩) (fun m hm => ?_) (fun b u e => ?_) I.bare
  · rw [upd_ne (Nat.ne_of_lt (Nat.lt_of_lt_of_le (Heap.lt_size e) hT))]; exact n
  · rw [upd_ne (ne_of_none e hn)]; exact e
  · rw [upd_ne (ne_of_none e hn)]; exact e
  · rw [upd_ne (ne_of_none e hn), e]; simp
  · obtain ⟨o, es, ep, ho, r⟩ := hm
    exact ⟨o, es, ep, k _ o (fun z => (hf _ z).2.1 rfl) ho, r⟩
  · by_cases hb : b = T
    · subst hb
      rw [upd_same] at e
      cases e
      exact new
    · rw [upd_ne hb] at e
      refine (I.hok b u e).stay (fun c v hc q => k c v ?_ q) (fun c q => by rw [upd_ne (ne_of_none q hn)]; exact q) fun c xs q => by rw [upd_ne (ne_of_none q hn)]; exact q
      rcases hc with z | z
      · rw [z]; exact nit b u e
      · exact nit c _ z
end
section
variable {X : Cx}
theorem pi_one {tg : Expr} {pins : List (Addr × Obj)} {σ : St} {H : Hp} {s : Shared} {R : It → Hp → Prop} {J : It} {tn : Nat → Heap → Prop} {tk : Nat} (I : Inv X pins σ H s) (o : Obj)
    (T : Turn X.prog X.w X.K tg J [s.heap.objs.size] s.heap.objs.size tn) (st : tn 0 (s.heap.push o)) (q : R J H) : PIE X pins σ tg R (.ref s.heap.objs.size) { s with heap := s.heap.push o, toks := tk } := by
  refine ⟨s.heap.objs.size, [s.heap.objs.size], tn, J, H, rfl, I.kept fun b ob e => Heap.get?_push_of_some _ e, T, st, fun b hb => ?_, q⟩
  have e : b = s.heap.objs.size := by simpa using hb
  subst e
  exact I.fpOk (Nat.le_refl _) (I.hok.fresh (Nat.le_refl _))
end
section
variable {X : Cx} {tg : Expr}
end
def Itv (K : PySem.W.Frag) (a : Addr) (n : Nat) : It :=
  ⟨fun i H => i < n ∧ ∃ (xs : List V) (x : V), SqL K H a xs ∧ xs[n - 1 - i]? = some x, fun i H x H' => H' = H ∧ ∀ xs, SqL K H a xs → xs[n - 1 - i]? = some x, fun i _ => n ≤ i⟩
theorem turn_rev {P : Program} {w : World} {K : PySem.W.Frag} {tg : Expr} (a it : Addr) (n : Nat) : Turn P w K tg (Itv K a n) [it] it (fun i h => i ≤ n ∧ h.IsRevIter it a ((n : Int) - 1 - (i : Nat))) where
  mem := by simp
  obj := fun i h st b hb => by
    have e : b = it := by simpa using hb
    subst e
    obtain ⟨_, o, e, c, d⟩ := st
    exact ⟨o, e, fun v z => by rw [d] at z; cases z⟩
  keep := fun i h h' st k => ⟨st.1, st.2.at fun o e => k it (by simp) o e⟩
  item := by
    intro X hP hw hK hc i pins s σ H E I hf st hg
    subst hP hw hK
    obtain ⟨hin, xs, x, hq, hx⟩ := hg
    obtain ⟨its, rv, p, hz⟩ := I.list hq
    obtain ⟨u, hu, ru⟩ := rv.get hx
    obtain ⟨f0, f1, f2, f3, f4, f5⟩ := hf it (by simp)
    obtain ⟨_, hit⟩ := st
    have e1 : (n : Int) - 1 - ((i : Nat) : Int) = ((n - 1 - i : Nat) : Int) := by omega
    rw [e1] at hit
    refine wpAny_pyNext_rev_item hit p.isList (x := u) (by simpa using hu) fun h' st' sb => ?_
    have e2 : ((n - 1 - i : Nat) : Int) - 1 = (n : Int) - 1 - ((i + 1 : Nat) : Int) := by omega
    rw [e2] at st'
    have I1 : Inv X pins σ H { s with heap := h' } := I.turned (t' := s.toks) (fun b o hb e => (sb.2 b hb).trans e) f0 f1 f3 f4 f5
    obtain ⟨o, e, c, d⟩ := id st'
    exact ⟨u, rfl, go_of (s := { s with heap := h' }) e c d (by decide) ⟨x, H, I1, ru, ⟨rfl, fun ys hy => by rw [I.list_inj hy hq]; exact hx⟩, ⟨hin, st'⟩, fun b hb => (hf b hb).1⟩⟩
  done := by
    intro X hP hw hK hc i pins s σ H E I hf st hg
    subst hP hw hK
    obtain ⟨f0, f1, f2, f3, f4, f5⟩ := hf it (by simp)
    obtain ⟨hin, hit⟩ := st
    have hge : n ≤ i := hg
    have e1 : (n : Int) - 1 - ((i : Nat) : Int) = -1 := by omega
    rw [e1] at hit
    exact wpAny_pyNext_rev_end (I.ok.hd hc) hit fun h' eb => ⟨rfl, I.turned (t' := s.toks) (fun b o hb e => eb b o hb e) f0 f1 f3 f4 f5⟩
  self := fun A i s Q E st h => wpAny_pyIter_revIter st.2 h
def iRev (K : PySem.W.Frag) (ta : TA) : TI := fun σ H R => ta σ H fun vs H1 => ∃ (a : Addr) (xs : List V), vs = [.ref a] ∧ SqL K H1 a xs ∧ R (Itv K a xs.length) H1
section
variable {X : Cx} {tg : Expr}
theorem pi_reversed {e : Expr} {ta : TA} {p pos : Pos} (hg : Gl X "reversed") (hm : X.mg "reversed" = none) (ha : PA X [e] ta) (hs : starEach [e] X.env = [(false, eval e X.env)] := by rfl) : PI X tg (.Call (.Name "reversed" p) [e] [] pos) (iRev X.K ta) := by
  intro pins s σ H R I h
  refine Call_ (ld_blt I hg hm boot_reversed5 (PyProof.Rows.callWith_type1 (thn (ha pos pins s σ H _ I h) fun us s1 ⟨vs, H1, I1, r1, q1⟩ => ?_) hs rfl))
  obtain ⟨a, xs, e, hq, q⟩ := q1
  subst e
  cases r1 with
  | cons r rr =>
    cases rr
    cases r
    obtain ⟨its, rv, p', hz⟩ := I1.list hq
    have hl := rv.length
    have e1 : ((its.toArray.size : Nat) : Int) - 1 = (xs.length : Int) - 1 - ((0 : Nat) : Int) := by simp only [List.size_toArray]; omega
    refine call_reversed_list p'.isList (wpAny_pyIter_revIter (l := a) (i := ((its.toArray.size : Nat) : Int) - 1) ⟨_, Heap.get?_push_size _ rfl, rfl, rfl⟩ ?_)
    refine pi_one (tk := s1.toks) I1 _ (turn_rev a _ xs.length) ⟨Nat.zero_le _, ?_⟩ q
    rw [← e1]
    exact ⟨_, Heap.get?_push_size _ rfl, rfl, rfl⟩
end
section
variable {prog : Program} {w : World} {A : Around} {E : Value → Shared → Prop} {s : Shared}
end
section
variable {X : Cx} {pins : List (Addr × Obj)} {σ : St} {H : Hp} {s : Shared} {d : Addr} {o : Obj}
end
section
variable {P : Program} {w : World} {K : PySem.W.Frag} {tg : Expr} {d : Addr} {o : Obj} {es : Array DictEntry} {ep : Nat}
end
section
variable {X : Cx} {tg e : Expr} {td : TE} {apos cpos : Pos}
end
def Ite (K : PySem.W.Frag) (a : Addr) : It :=
  ⟨fun i H => ∃ (xs : List V) (x : V), SqL K H a xs ∧ xs[i]? = some x, fun i H v H' => ∃ T x, v = .ref T ∧ H T = none ∧ H' = upd H T (.tup [.int (i : Nat), x]) ∧ ∀ xs, SqL K H a xs → xs[i]? = some x, fun i H => ∃ xs : List V, SqL K H a xs ∧ xs.length ≤ i⟩
theorem turn_enum {P : Program} {w : World} {K : PySem.W.Frag} {elts : List Expr} {kk : Nat} {tpos : Pos} (a e it : Addr) :
    Turn P w K (.Tuple elts kk tpos) (Ite K a) [e, it] e (fun i h => (∃ old, IsEnum h e it ((i : Nat) : Int) old) ∧ h.IsListIter it a i ∧ e ≠ it) where
  mem := by simp
  obj := fun i h st b hb => by
    obtain ⟨⟨old, he⟩, ⟨o, ho, hc, hd⟩, _⟩ := st
    have e' : b = e ∨ b = it := by simpa using hb
    rcases e' with z | z
    · rw [z]; exact ⟨_, he, fun v q => nomatch q⟩
    · rw [z]; exact ⟨o, ho, fun v q => by rw [hd] at q; cases q⟩
  keep := fun i h h' st k => let ⟨⟨old, he⟩, hi, hne⟩ := st; ⟨⟨old, k e (by simp) _ he⟩, hi.at fun o q => k it (by simp) o q, hne⟩
  item := by
    intro X hP hw hK hc i pins s σ H E I hf st hg
    subst hP hw hK
    obtain ⟨⟨old, he⟩, hit, hne⟩ := st
    obtain ⟨xs, x, hq, hx⟩ := hg
    obtain ⟨its, rv, p, hz⟩ := I.list hq
    obtain ⟨u, hu, ru⟩ := rv.get hx
    have hel : e < s.heap.objs.size := Heap.lt_size he
    have hil : it < s.heap.objs.size := by obtain ⟨_, q, _⟩ := hit; exact Heap.lt_size q
    refine wpAny_pyNext_enum_item he hit p.isList (x := u) (by simpa using hu) hne fun h' ho hit' hT hsz hk => ?_
    refine ⟨_, rfl, wpAny_letOwnedTupleGo_enum (s := { s with heap := h', toks := s.toks + 1 }) ho fun h'' he' sb => ?_⟩
    have hT2 : h''.get? s.heap.objs.size = some { cls := .type "tuple", data := .seq #[.int i s.toks, u] } := (sb.2 _ (Nat.ne_of_gt hel)).trans hT
    have new : ObjOk X.prog X.w (upd H s.heap.objs.size (.tup [.int (i : Nat), x])) h'' s.heap.objs.size (.tup [.int (i : Nat), x]) :=
      ⟨by show 2 ≤ sizeLine; decide, [.int i s.toks, u], .cons ⟨_, rfl⟩ (.cons ru .nil), ⟨_, hT2, rfl, _, rfl⟩⟩
    have I1 : Inv X pins σ (upd H s.heap.objs.size (.tup [.int (i : Nat), x])) { s with heap := h'', toks := s.toks + 1 } :=
      I.turnedNew (ch := [e, it]) (fun b ob hb q => (sb.2 b (fun z => hb (by simp [z]))).trans (hk b ob (fun z => hb (by simp [z])) (fun z => hb (by simp [z])) q)) hf (Nat.le_refl _) new
    refine ⟨.ref s.heap.objs.size, _, I1, rfl, ⟨_, x, rfl, I.hok.fresh (Nat.le_refl _), rfl, fun ys hy => by rw [I.list_inj hy hq]; exact hx⟩, ⟨⟨u, ?_⟩, hit'.at fun o q => (sb.2 it (Ne.symm hne)).trans q, hne⟩, fun b hb => ?_⟩
    · have e1 : ((i + 1 : Nat) : Int) = (i : Int) + 1 := by omega
      rw [e1]; exact he'
    · have hb' : b < s.heap.objs.size := by
        have e' : b = e ∨ b = it := by simpa using hb
        rcases e' with z | z
        · rw [z]; exact hel
        · rw [z]; exact hil
      rw [upd_ne (Nat.ne_of_lt hb')]
      exact (hf b hb).1
  done := by
    intro X hP hw hK hc i pins s σ H E I hf st hg
    subst hP hw hK
    obtain ⟨⟨old, he⟩, hit, hne⟩ := st
    obtain ⟨xs, hq, hx⟩ := hg
    obtain ⟨its, rv, p, hz⟩ := I.list hq
    obtain ⟨f0, f1, f2, f3, f4, f5⟩ := hf it (by simp)
    have hl := rv.length
    exact wpAny_pyNext_enum_end (I.ok.hd hc) he hit p.isList (by simp; omega) fun h' eb => ⟨rfl, I.turned (t' := s.toks) (fun b o hb q => eb b o hb q) f0 f1 f3 f4 f5⟩
  self := fun A i s Q E st h => let ⟨⟨_, he⟩, _⟩ := st; wpAny_pyIter_enum he h
def iEnum (K : PySem.W.Frag) (ta : TA) : TI := fun σ H R => ta σ H fun vs H1 => ∃ a xs, vs = [.ref a] ∧ SqL K H1 a xs ∧ R (Ite K a) H1
theorem pi_enum {X : Cx} {e : Expr} {ta : TA} {p pos tpos : Pos} {elts : List Expr} {kk : Nat} (hg : Gl X "enumerate") (hm : X.mg "enumerate" = none) (ha : PA X [e] ta) (hs : starEach [e] X.env = [(false, eval e X.env)] := by rfl) :
    PI X (.Tuple elts kk tpos) (.Call (.Name "enumerate" p) [e] [] pos) (iEnum X.K ta) := by
  intro pins s σ H R I h
  refine Call_ (ld_blt I hg hm boot_enumerate (PyProof.Rows.callWith_type1 (thn (ha pos pins s σ H _ I h) fun us s1 ⟨vs, H1, I1, r1, q1⟩ => ?_) hs rfl))
  obtain ⟨a, xs, ex, hq, q⟩ := q1
  subst ex
  cases r1 with
  | cons r rr =>
    cases rr
    cases r
    obtain ⟨its, rv, p', hz⟩ := I1.list hq
    refine call_enumerate_list p'.isList fun h' he hit hsz hk => wpAny_pyIter_enum he ?_
    have I2 : Inv X pins σ H1 { s1 with heap := h' } := I1.kept (t' := s1.toks) hk
    refine ⟨s1.heap.objs.size + 1, [s1.heap.objs.size + 1, s1.heap.objs.size], _, _, H1, rfl, I2, turn_enum a (s1.heap.objs.size + 1) s1.heap.objs.size, ⟨⟨.none, he⟩, hit, Nat.succ_ne_self _⟩, fun b hb => ?_, q⟩
    have e' : b = s1.heap.objs.size + 1 ∨ b = s1.heap.objs.size := by simpa using hb
    have hle : s1.heap.objs.size ≤ b := by
      rcases e' with z | z
      · rw [z]; exact Nat.le_add_right _ _
      · rw [z]; exact Nat.le_refl _
    exact I1.fpOk hle (I1.hok.fresh hle)
theorem boot_zip5 : bootBuiltins "zip" = some (.type "zip") := by decide +kernel
end L2
section 
namespace Bits
open PySem PyProof.Rows
end Bits
end 
section 
namespace TL
open PySem PySem.Builtin PySem.Builtin.Str PySem.StrLaws
end TL
end 
namespace L2
open PySem PySem.Spec PyProof.Rows
section
variable {X : Cx} {pins : List (Addr × Obj)} {σ : St} {H : Hp} {s : Shared} {Q : VK}
end
section
variable {X : Cx}
end
section
variable {X : Cx} {o e : Expr} {to te : TE}
end
end L2
namespace L2
open PySem PySem.Spec PyProof.Rows
section
variable {X : Cx}
end
end L2
namespace Att
open PySem PySem.W PySem.Calls PyProof.Rows
section
variable {prog : Program} {w : World} {A : Around} {E : Value → Shared → Prop} {s : Shared} {K : Frag}
end
end Att
namespace L2
open PySem PySem.Spec PyProof.Rows
end L2
namespace L2
open PySem PySem.Spec PyProof.Rows
end L2
/- THE LAST THEOREM (shape; LID, My.* are yours):
   My.Adr: a structure of the addresses that your layer names (classes, functions); My.Txt K t: a structure (Prop) of the equations over K;
   My.txt_mk : {K} {implicit addresses ..} (e1 : nsIn K mainGlobals "law" = some (some (.ref f))) (e2 : K.lookup f = some ⟨oc, od, .func (fnOf "law" "law" params body scope dV kV doc pm an cdv ct), sl⟩) (e3 : codeIn K cdv "law" = true) .. : ∃ t, My.Txt K t
set_option maxRecDepth 100000 in
set_option maxHeartbeats 0 in
theorem PySem.Challenge.cw_LID_holds : PySem.Challenge.rw_LID.Holds := by
  w_on; o_law; k_head; (case hw => w_witness2)
  k_fill
  refine L2.walk_of (l := PySem.Challenge.rw_LID) (n := 63) (k := 40) (x := "script") (CX := fun w => ..) (sp := fun _ => My.sp_law) rfl (by decide) rfl ⟨rfl, by decide, by decide⟩ (fun w h Y => PySem.W.kIn_of Y) ?F ?S ?C
  case F =>
    intro w mg fa h KX G hmg
    have T : ∃ t, My.Txt (L2.KOf KX) t := by
      dsimp only [L2.KOf]                         
      refine' My.txt_mk ?e1 ?e2 ?e3 ..
      (case e1 => PySem.W.k_is)                   
      (case e2 => PySem.W.k_is)
      ..
    obtain ⟨t, T⟩ := T
    have e0 := hmg.symm.trans (PySem.W.mg_of KX G T.law)
    cases e0                                      
    exact ⟨_, fun s u => .of_eq rfl, fun base kb nb => My.law_fn T kb nb⟩    
  case S => exact fun w H a ns hl hO hS => ..
  case C => exact ..
(the tactic k_is has no namespace: write k_is) -/
namespace L2
open PySem PySem.Spec PyProof.Rows
def inClass (s : Stmt) (j : Nat) : Stmt := match s with
  | .ClassDef _ _ _ body _ _ _ _ _ _ _ => body.getD j (.Pass ⟨0, 0, 0, 0⟩)
  | _ => .Pass ⟨0, 0, 0, 0⟩
def defArgs (s : Stmt) : Arguments := match s with
  | .FunctionDef _ a _ _ _ _ _ _ _ _ => a
  | _ => { posonlyargs := [], args := [], vararg := none, kwonlyargs := [], kw_defaults := [], kwarg := none, defaults := [] }
def defBody (s : Stmt) : List Stmt := match s with
  | .FunctionDef _ _ b _ _ _ _ _ _ _ => b
  | _ => []
def defScope (s : Stmt) : Scope := match s with
  | .FunctionDef _ _ _ _ _ _ sc _ _ _ => sc
  | _ => { kind := .function, names := [], isGenerator := false, isCoroutine := false }
abbrev CX0 : CXT := fun _ _ _ _ _ _ => False
abbrev E0 : XK := fun _ _ _ => False
theorem pass0 {X : Cx} : Passes CX0 X E0 := fun _ _ _ _ _ _ _ h => h.elim
structure Fun (K : PySem.W.Frag) (x qual : Str) (st : Stmt) (f : Addr) (fd : FuncData) : Prop where
  ex : ∃ (oc : Value) (od : Option Addr) (kV doc pm : Value) (an : Option Addr) (cdv ct : Value) (osl : Array (Option Value)),
    fd = PySem.W.fnOf x qual (defArgs st) (defBody st) (defScope st) .none kV doc pm an cdv ct ∧ K.lookup f = some ⟨oc, od, .func fd, osl⟩ ∧ PySem.W.codeIn K cdv qual = true
  kp : PySem.W.keepIn K (.ref f) = true
section
variable {P : Program} {w : World} {K : PySem.W.Frag} {mg : Str → Option Value} {base : Heap}
theorem Fun.ok {x qual : Str} {st : Stmt} {f : Addr} {fd : FuncData} {N ps : List Str} {k : Nat} {sp : Sp} (F : Fun K x qual st f fd) (S : FnScope N ps (defScope st)) (len : ∀ vs H Q E, sp vs H Q E → vs.length = ps.length)
    (hbody : ∀ (cdv : Value) (A : Around) (outer : List Env) (s : Shared) (H : Hp) (vs : List V) (Q : VK) (E : XK), Room k (A.deeper (envOfC qual (defScope st) s.heap.objs.size f cdv)) → sp vs H Q E →
      ∃ t, PSs (cxOf CX0 P w K mg base N qual (defScope st) f cdv A outer s H E).nox (defBody st) t ∧ t { nx := fun _ H' => Q .non H', rt := Q } (start N vs) H) : FnOk P w K mg base CX0 (k + 1) f fd ps sp := by
  obtain ⟨oc, od, kV, doc, pm, an, cdv, ct, osl, rfl, lk, hcd⟩ := F.ex
  refine fn_of lk hcd S len fun A outer s H vs Q E hr hsp => ?_
  obtain ⟨t, h, q⟩ := hbody cdv A outer s H vs Q E hr hsp
  exact ⟨t, h.nox, q⟩
theorem Fun.binds {x qual : Str} {st : Stmt} {f : Addr} {fd : FuncData} {ps : List Str} (F : Fun K x qual st f fd)
    (h : ∀ (kV doc pm : Value) (an : Option Addr) (cdv ct : Value) (us : List Value), us.length = ps.length → bindArgs (PySem.W.fnOf x qual (defArgs st) (defBody st) (defScope st) .none kV doc pm an cdv ct) ⟨us, []⟩ = pure (ps.zip us)) : Binds K fd ps [] := by
  obtain ⟨oc, od, kV, doc, pm, an, cdv, ct, osl, rfl, lk, hcd⟩ := F.ex
  exact .all (h kV doc pm an cdv ct)
theorem fun_mk {x qual : Str} {st : Stmt} {f : Addr} {oc : Value} {od an : Option Addr} {osl : Array (Option Value)} {kV doc pm cdv ct : Value} (l : K.lookup f = some ⟨oc, od, .func (PySem.W.fnOf x qual (defArgs st) (defBody st) (defScope st) .none kV doc pm an cdv ct), osl⟩)
    (c : PySem.W.codeIn K cdv qual = true) (k : PySem.W.keepIn K (.ref f) = true) : Fun K x qual st f (PySem.W.fnOf x qual (defArgs st) (defBody st) (defScope st) .none kV doc pm an cdv ct) := ⟨⟨oc, od, kV, doc, pm, an, cdv, ct, osl, rfl, l, c⟩, k⟩
end
section
variable {X : Cx}
theorem pv (i : Nat) {x : Str} {pos : Pos} (hN : X.N[i]? = some x := by rfl) (hv : Vis X.env.scope x := by first | exact Or.inl rfl | exact Or.inr (Or.inl rfl) | exact Or.inr (Or.inr rfl)) (hd : (x == ("__debug__" : Str)) = false := by decide)
    (hcd : (x == ("__classdict__" : Str)) = false := by decide) : PE X (.Name x pos) (tVar i) := pe_var hN hv hd hcd
end
def Same (H H' : Hp) : Prop := ∀ b o, H b = some o → H' b = some o
theorem Same.refl (H : Hp) : Same H H := fun _ _ h => h
theorem Same.trans {H H1 H2 : Hp} (a : Same H H1) (b : Same H1 H2) : Same H H2 := fun c o h => b c o (a c o h)
theorem Same.seq {K : PySem.W.Frag} {H H' : Hp} {a : Addr} {xs : List V} (e : Same H H') (h : SqL K H a xs) : SqL K H' a xs := by
  rcases h with (h | ⟨o, h⟩) | h
  · exact .inl (.inl (e _ _ h))
  · exact .inl (.inr ⟨o, e _ _ h⟩)
  · exact .inr h
section
variable {κ : Type} [DecidableEq κ]
end
end L2
namespace L2
open PySem PySem.Spec PyProof.Rows
open PySem.W (WData Codec OpenSpec Well WellAll ReadsW ReadsAllW)
mutual
inductive Dw (K : PySem.W.Frag) (H : Hp) : V → WData → Prop
  | non : Dw K H .non .none
  | bl (b : Bool) : Dw K H (.bl b) (.bool b)
  | int (i : Int) : Dw K H (.int i) (.int i)
  | str (x : Str) : Dw K H (.str x) (.str x)
  | byt (b : Array UInt8) : Dw K H (.byt b) (.bytes b.toList)
  | lst {a : Addr} {xs : List V} {ds : List WData} : SqL K H a xs → DwAll K H xs ds → Dw K H (.ref a) (.list ds)
  | tup {a : Addr} {xs : List V} {ds : List WData} : SqT K H a xs → DwAll K H xs ds → Dw K H (.ref a) (.tuple ds)
inductive DwAll (K : PySem.W.Frag) (H : Hp) : List V → List WData → Prop
  | nil : DwAll K H [] []
  | cons {v : V} {vs : List V} {d : WData} {ds : List WData} : Dw K H v d → DwAll K H vs ds → DwAll K H (v :: vs) (d :: ds)
end
theorem dw_ints {K : PySem.W.Frag} {H : Hp} : ∀ ns : List Int, DwAll K H (ns.map V.int) (ns.map WData.int)
  | [] => .nil
  | n :: r => .cons (.int n) (dw_ints r)
theorem ints_dw {K : PySem.W.Frag} {H : Hp} : ∀ (ns : List Int) (xs : List V), DwAll K H xs (ns.map WData.int) → xs = ns.map V.int
  | [], xs, h => by
    cases h
    rfl
  | n :: r, xs, h => by
    cases h with
    | cons h1 h2 =>
      cases h1
      rw [ints_dw r _ h2] <;> rfl
section
variable {P : Program} {w : World} {K : PySem.W.Frag} {H : Hp} {h : Heap} {R : PySem.W.WRecords} {cl : Str → Option Addr}
theorem sqL_at {a : Addr} {xs : List V} (hok : HOk P w H h) (KX : K.In h) (q : SqL K H a xs) : ∃ (its : List Value) (o : Obj) (n : Nat), Vals xs its ∧ h.get? a = some o ∧ o.cls = .type "list" ∧ o.data = .seq its.toArray n := by
  rcases q with q | ⟨o, its, n, e, hc, _, hd, _, hv⟩
  · obtain ⟨_, its, n, hv, e⟩ := (show ObjOk P w H h a (.lst xs) from q.ok hok)
    exact ⟨its, _, n, hv, e, rfl, rfl⟩
  · exact ⟨its.toList, o, n, hv, KX _ _ e, hc, by simp [hd]⟩
theorem sqT_at {a : Addr} {xs : List V} (hok : HOk P w H h) (KX : K.In h) (q : SqT K H a xs) : ∃ (its : List Value) (o : Obj) (n : Nat), Vals xs its ∧ h.get? a = some o ∧ o.cls = .type "tuple" ∧ o.data = .seq its.toArray n := by
  rcases q with q | ⟨o, its, n, e, hc, hd, _, hv⟩
  · obtain ⟨_, its, hv, o, e, hc, n, hd⟩ := (show ObjOk P w H h a (.tup xs) from q.ok hok)
    exact ⟨its, o, n, hv, e, hc, hd⟩
  · exact ⟨its.toList, o, n, hv, KX _ _ e, hc, by simp [hd]⟩
mutual
theorem Dw.reads (hok : HOk P w H h) (KX : K.In h) : ∀ (d : WData) (v : V) (u : Value), Dw K H v d → RelV v u → ∃ as, ReadsW R cl h u d as
  | .none, _, _, x, r => by
    cases x
    cases r
    exact ⟨_, ReadsW.none⟩
  | .bool b, _, _, x, r => by
    cases x
    cases r
    exact ⟨_, ReadsW.bool b⟩
  | .int i, _, _, x, r => by
    cases x
    obtain ⟨t, rfl⟩ := r
    exact ⟨_, ReadsW.int i t⟩
  | .str s, _, _, x, r => by
    cases x
    obtain ⟨t, rfl⟩ := r
    exact ⟨_, ReadsW.str s t⟩
  | .bytes b, _, _, x, r => by
    cases x
    obtain ⟨t, rfl⟩ := r
    exact ⟨_, ReadsW.bytes _ t⟩
  | .list ds, _, _, x, r => by
    cases x with
    | lst hs ha =>
      cases r
      obtain ⟨its, o, n, rv, ho, hc, hd⟩ := sqL_at hok KX hs
      obtain ⟨as, hr⟩ := Dw.readsAll hok KX ds _ its ha rv
      exact ⟨_, ReadsW.list ho hc hd hr⟩
  | .tuple ds, _, _, x, r => by
    cases x with
    | tup hs ha =>
      cases r
      obtain ⟨its, o, n, rv, ho, hc, hd⟩ := sqT_at hok KX hs
      obtain ⟨as, hr⟩ := Dw.readsAll hok KX ds _ its ha rv
      exact ⟨_, ReadsW.tuple ho hc hd hr⟩
  | .float _, _, _, x, _ => by cases x
  | .dict _, _, _, x, _ => by cases x
  | .bytearray _, _, _, x, _ => by cases x
  | .set _, _, _, x, _ => by cases x
  | .frozenset _, _, _, x, _ => by cases x
  | .obj _ _, _, _, x, _ => by cases x
theorem Dw.readsAll (hok : HOk P w H h) (KX : K.In h) : ∀ (ds : List WData) (vs : List V) (us : List Value), DwAll K H vs ds → Vals vs us → ∃ as, ReadsAllW R cl h us ds as
  | [], _, _, x, r => by
    cases x
    cases r
    exact ⟨_, ReadsAllW.nil⟩
  | d :: ds, _, _, x, r => by
    cases x with
    | cons h1 h2 =>
      cases r with
      | cons r1 r2 =>
        obtain ⟨as, q1⟩ := Dw.reads hok KX d _ _ h1 r1
        obtain ⟨bs, q2⟩ := Dw.readsAll hok KX ds _ _ h2 r2
        exact ⟨_, ReadsAllW.cons q1 q2⟩
end
end
mutual
def plW : WData → Bool
  | .none => true
  | .bool _ => true
  | .int _ => true
  | .str _ => true
  | .bytes _ => true
  | .list xs => plWs xs
  | .tuple xs => plWs xs
  | _ => false
def plWs : List WData → Bool
  | [] => true
  | x :: r => plW x && plWs r
end
theorem plWs_map {α : Type} {f : α → WData} (h : ∀ a, plW (f a) = true) : ∀ l : List α, plWs (l.map f) = true
  | [] => rfl
  | x :: r => by
    show (plW (f x) && plWs (r.map f)) = true
    rw [h x, plWs_map h r] <;> rfl
theorem pl_enc : ∀ (c : Codec) (a : c.denote), plW (c.enc a) = true
  | .unit, _ => rfl
  | .bool, _ => rfl
  | .int _ _, _ => rfl
  | .nat _ _, _ => rfl
  | .u8, _ => rfl
  | .bytes _ _, _ => rfl
  | .text _ _ _ _, _ => rfl
  | .list _ _ c, a => plWs_map (fun x => pl_enc c x) a
  | .pair c d, a => by
    show (plW (c.enc a.1) && (plW (d.enc a.2) && true)) = true
    rw [pl_enc c a.1, pl_enc d a.2] <;> rfl
  | .triple c d e, a => by
    show (plW (c.enc a.1) && (plW (d.enc a.2.1) && (plW (e.enc a.2.2) && true))) = true
    rw [pl_enc c a.1, pl_enc d a.2.1, pl_enc e a.2.2] <;> rfl
  | .option c, none => rfl
  | .option c, some x => pl_enc c x
theorem pl_encAll : ∀ (cs : List Codec) (a : Codec.denoteAll cs), plWs (Codec.encAll cs a) = true
  | [], _ => rfl
  | c :: cs, a => by
    show (plW (c.enc a.1) && plWs (Codec.encAll cs a.2)) = true
    rw [pl_enc c a.1, pl_encAll cs a.2] <;> rfl
theorem weight_mem : ∀ {xs : List WData} {d : WData}, d ∈ xs → d.weight ≤ WData.weightAll xs
  | [], d, h => absurd h (by simp)
  | x :: r, d, h => by
    show d.weight ≤ x.weight + 1 + WData.weightAll r
    rcases List.mem_cons.mp h with e | m
    · rw [e]
      omega
    · have z := weight_mem m
      omega
def toV : Value → V
  | .none => .non
  | .bool b => .bl b
  | .int i _ => .int i
  | .str x _ => .str x
  | .bytes b _ => .byt b
  | .ref a => .ref a
  | _ => .non
def OkU (A : List Addr) : Value → Prop
  | .none => True
  | .bool _ => True
  | .int _ _ => True
  | .str _ _ => True
  | .bytes _ _ => True
  | .ref a => a ∈ A
  | _ => False
theorem OkU.mono {A B : List Addr} (h : ∀ a ∈ A, a ∈ B) : ∀ {u : Value}, OkU A u → OkU B u := fun {u} x => by
  cases u with
  | ref a => exact h a x
  | none => trivial
  | bool b => trivial
  | int i t => trivial
  | str s t => trivial
  | bytes b t => trivial
  | _ => exact False.elim x
theorem relV_toV {A : List Addr} {u : Value} (x : OkU A u) : RelV (toV u) u := by
  cases u with
  | ref a => rfl
  | none => rfl
  | bool b => rfl
  | int i t => exact ⟨t, rfl⟩
  | str s t => exact ⟨t, rfl⟩
  | bytes b t => exact ⟨t, rfl⟩
  | _ => exact False.elim x
theorem vals_toV {A : List Addr} : ∀ {vs : List Value}, (∀ u ∈ vs, OkU A u) → Vals (vs.map toV) vs
  | [], _ => .nil
  | u :: r, h => .cons (relV_toV (h u (List.mem_cons_self ..))) (vals_toV fun x hx => h x (List.mem_cons_of_mem _ hx))
def ArgOb (h : Heap) (A : List Addr) (a : Addr) : Prop := ∃ vs : List Value, vs.length ≤ sizeLine ∧ (∀ u ∈ vs, OkU A u) ∧
  (h.get? a = some { cls := .type "list", data := .seq vs.toArray } ∨ h.get? a = some { cls := .type "tuple", data := .seq vs.toArray })
theorem ArgOb.mono {h : Heap} {A B : List Addr} {a : Addr} (k : ∀ a ∈ A, a ∈ B) (x : ArgOb h A a) : ArgOb h B a := by
  obtain ⟨vs, h1, h2, h3⟩ := x
  exact ⟨vs, h1, fun u hu => (h2 u hu).mono k, h3⟩
theorem wellAll_len {P : Params} {h : Heap} : ∀ {vs : List Value} {ds : List WData}, WellAll P h vs ds → vs.length = ds.length
  | _, _, .nil => rfl
  | _, _, .cons _ b => by
    show _ + 1 = _ + 1
    rw [wellAll_len b]
theorem well_list {P : Params} {h : Heap} {v : Value} {ds : List WData} (x : Well P h v (.list ds)) : ∃ (a : Addr) (vs : List Value), v = .ref a ∧ h.get? a = some { cls := .type "list", data := .seq vs.toArray } ∧ WellAll P h vs ds := by
  cases x with
  | list ho hall => exact ⟨_, _, rfl, ho, hall⟩
theorem well_tuple {P : Params} {h : Heap} {v : Value} {ds : List WData} (x : Well P h v (.tuple ds)) : ∃ (a : Addr) (vs : List Value), v = .ref a ∧ h.get? a = some { cls := .type "tuple", data := .seq vs.toArray } ∧ WellAll P h vs ds := by
  cases x with
  | tuple ho hall => exact ⟨_, _, rfl, ho, hall⟩
theorem well_cons {P : Params} {h : Heap} {us : List Value} {d : WData} {ds : List WData} (x : WellAll P h us (d :: ds)) : ∃ (v : Value) (vs : List Value), us = v :: vs ∧ Well P h v d ∧ WellAll P h vs ds := by
  cases x with
  | cons a b => exact ⟨_, _, rfl, a, b⟩
theorem line_of {n : Nat} (h : n ≤ 1048576) : n ≤ sizeLine := Nat.le_trans h (by decide)
section
variable {P : Params} {h : Heap}
mutual
theorem area_one : ∀ (d : WData) (v : Value), Well P h v d → plW d = true → d.weight ≤ 1048576 → ∃ A : List Addr, OkU A v ∧ ∀ a ∈ A, ArgOb h A a
  | .none, _, x, _, _ => by
    cases x
    exact ⟨[], trivial, fun a m => absurd m (by simp)⟩
  | .bool b, _, x, _, _ => by
    cases x
    exact ⟨[], trivial, fun a m => absurd m (by simp)⟩
  | .int i, _, x, _, _ => by
    cases x
    exact ⟨[], trivial, fun a m => absurd m (by simp)⟩
  | .str s, _, x, _, _ => by
    cases x
    exact ⟨[], trivial, fun a m => absurd m (by simp)⟩
  | .bytes b, _, x, _, _ => by
    cases x
    exact ⟨[], trivial, fun a m => absurd m (by simp)⟩
  | .list ds, _, x, p, z => by
    obtain ⟨a, vs, rfl, ho, hall⟩ := well_list x
    have z2 : WData.weightAll ds ≤ 1048576 := z
    obtain ⟨A, h1, h2⟩ := area_all ds _ hall p fun d hd => Nat.le_trans (weight_mem hd) z2
    have k : ∀ b ∈ A, b ∈ a :: A := fun b hb => List.mem_cons_of_mem _ hb
    refine ⟨a :: A, List.mem_cons_self .., fun b hb => ?_⟩
    rcases List.mem_cons.mp hb with e | m
    · rw [e]
      exact ⟨vs, line_of (by rw [wellAll_len hall]; exact Nat.le_trans (PySem.W.length_le_weightAllW ds) z2), fun u hu => (h1 u hu).mono k, .inl ho⟩
    · exact (h2 b m).mono k
  | .tuple ds, _, x, p, z => by
    obtain ⟨a, vs, rfl, ho, hall⟩ := well_tuple x
    have z2 : WData.weightAll ds ≤ 1048576 := z
    obtain ⟨A, h1, h2⟩ := area_all ds _ hall p fun d hd => Nat.le_trans (weight_mem hd) z2
    have k : ∀ b ∈ A, b ∈ a :: A := fun b hb => List.mem_cons_of_mem _ hb
    refine ⟨a :: A, List.mem_cons_self .., fun b hb => ?_⟩
    rcases List.mem_cons.mp hb with e | m
    · rw [e]
      exact ⟨vs, line_of (by rw [wellAll_len hall]; exact Nat.le_trans (PySem.W.length_le_weightAllW ds) z2), fun u hu => (h1 u hu).mono k, .inr ho⟩
    · exact (h2 b m).mono k
  | .float _, _, _, p, _ => Bool.noConfusion (show false = true from p)
  | .dict _, _, _, p, _ => Bool.noConfusion (show false = true from p)
  | .bytearray _, _, _, p, _ => Bool.noConfusion (show false = true from p)
  | .set _, _, _, p, _ => Bool.noConfusion (show false = true from p)
  | .frozenset _, _, _, p, _ => Bool.noConfusion (show false = true from p)
  | .obj _ _, _, _, p, _ => Bool.noConfusion (show false = true from p)
theorem area_all : ∀ (ds : List WData) (vs : List Value), WellAll P h vs ds → plWs ds = true → (∀ d ∈ ds, d.weight ≤ 1048576) → ∃ A : List Addr, (∀ u ∈ vs, OkU A u) ∧ ∀ a ∈ A, ArgOb h A a
  | [], _, x, _, _ => by
    cases x
    exact ⟨[], fun u m => absurd m (by simp), fun a m => absurd m (by simp)⟩
  | d :: ds, _, x, p, z => by
    obtain ⟨v, vs, rfl, x1, x2⟩ := well_cons x
    have q : plW d = true ∧ plWs ds = true := Bool.and_eq_true_iff.mp p
    obtain ⟨A, a1, a2⟩ := area_one d v x1 q.1 (z d (List.mem_cons_self ..))
    obtain ⟨B, b1, b2⟩ := area_all ds vs x2 q.2 fun e he => z e (List.mem_cons_of_mem _ he)
    have kA : ∀ b ∈ A, b ∈ A ++ B := fun b hb => List.mem_append.mpr (.inl hb)
    have kB : ∀ b ∈ B, b ∈ A ++ B := fun b hb => List.mem_append.mpr (.inr hb)
    refine ⟨A ++ B, fun u hu => ?_, fun b hb => ?_⟩
    · rcases List.mem_cons.mp hu with e | m
      · rw [e]
        exact a1.mono kA
      · exact (b1 u m).mono kB
    · rcases List.mem_append.mp hb with m | m
      · exact (a2 b m).mono kA
      · exact (b2 b m).mono kB
end
end
def hoOf (o : Obj) : Option HO := match o.data with
  | .seq vs _ => if (o.cls == Value.type "list") = true then some (.frz o (.lst (vs.toList.map toV))) else some (.frz o (.tup (vs.toList.map toV)))
  | _ => none
def argH (K : PySem.W.Frag) (h : Heap) (A : List Addr) : Hp := fun b => if b ∈ A then (if (K.lookup b).isNone = true then (h.get? b).bind hoOf else none) else none
def OnlyF (H : Hp) : Prop := ∀ b, H b = none ∨ ∃ o u, H b = some (.frz o u) ∧ ((∃ xs, u = .lst xs) ∨ ∃ xs, u = .tup xs)
theorem hoOf_lst (vs : List Value) : hoOf { cls := .type "list", data := .seq vs.toArray } = some (.frz { cls := .type "list", data := .seq vs.toArray } (.lst (vs.map toV))) := by
  show (if (Value.type "list" == Value.type "list") = true then some (HO.frz { cls := .type "list", data := .seq vs.toArray } (.lst (vs.toArray.toList.map toV))) else some (HO.frz { cls := .type "list", data := .seq vs.toArray } (.tup (vs.toArray.toList.map toV)))) = _
  rw [if_pos (beq_self_eq_true _)]
theorem hoOf_tup (vs : List Value) : hoOf { cls := .type "tuple", data := .seq vs.toArray } = some (.frz { cls := .type "tuple", data := .seq vs.toArray } (.tup (vs.map toV))) := by
  show (if (Value.type "tuple" == Value.type "list") = true then some (HO.frz { cls := .type "tuple", data := .seq vs.toArray } (.lst (vs.toArray.toList.map toV))) else some (HO.frz { cls := .type "tuple", data := .seq vs.toArray } (.tup (vs.toArray.toList.map toV)))) = _
  rw [if_neg (by decide)]
section
variable {P : Program} {w : World} {K : PySem.W.Frag} {h : Heap} {A : List Addr}
theorem argH_at {b : Addr} {o : Obj} (hb : b ∈ A) (hk : K.lookup b = none) (e : h.get? b = some o) : argH K h A b = hoOf o := by
  unfold argH
  rw [if_pos hb, hk, if_pos (show (none : Option Obj).isNone = true from rfl), e] <;> rfl
theorem of_argH {b : Addr} {u : HO} (q : argH K h A b = some u) : b ∈ A ∧ K.lookup b = none := by
  unfold argH at q
  by_cases hb : b ∈ A
  · rw [if_pos hb] at q
    cases hk : K.lookup b with
    | none => exact ⟨hb, rfl⟩
    | some o =>
      rw [hk, if_neg (by simp)] at q
      cases q
  · rw [if_neg hb] at q
    cases q
theorem argH_is (ar : ∀ a ∈ A, ArgOb h A a) {b : Addr} {u : HO} (q : argH K h A b = some u) : K.lookup b = none ∧ ∃ vs : List Value, vs.length ≤ sizeLine ∧ (∀ u ∈ vs, OkU A u) ∧
    ((h.get? b = some { cls := .type "list", data := .seq vs.toArray } ∧ u = .frz { cls := .type "list", data := .seq vs.toArray } (.lst (vs.map toV))) ∨
     (h.get? b = some { cls := .type "tuple", data := .seq vs.toArray } ∧ u = .frz { cls := .type "tuple", data := .seq vs.toArray } (.tup (vs.map toV)))) := by
  obtain ⟨hb, hk⟩ := of_argH q
  obtain ⟨vs, h1, h2, h3⟩ := ar b hb
  refine ⟨hk, vs, h1, h2, ?_⟩
  rcases h3 with e | e
  · rw [argH_at hb hk e, hoOf_lst] at q
    exact .inl ⟨e, (Option.some.inj q).symm⟩
  · rw [argH_at hb hk e, hoOf_tup] at q
    exact .inr ⟨e, (Option.some.inj q).symm⟩
theorem argH_only (ar : ∀ a ∈ A, ArgOb h A a) : OnlyF (argH K h A) := fun b => by
  cases q : argH K h A b with
  | none => exact .inl rfl
  | some u =>
    obtain ⟨_, vs, _, _, ⟨_, e⟩ | ⟨_, e⟩⟩ := argH_is ar q
    · exact .inr ⟨_, _, by rw [e], .inl ⟨_, rfl⟩⟩
    · exact .inr ⟨_, _, by rw [e], .inr ⟨_, rfl⟩⟩
theorem argH_ok (ar : ∀ a ∈ A, ArgOb h A a) : HOk P w (argH K h A) h := fun b u q => by
  obtain ⟨_, vs, h1, h2, ⟨e, rfl⟩ | ⟨e, rfl⟩⟩ := argH_is ar q
  · exact ⟨e, by rw [List.length_map]; exact h1, vs, _, vals_toV h2, e⟩
  · exact ⟨e, by rw [List.length_map]; exact h1, vs, vals_toV h2, _, e, rfl, _, rfl⟩
theorem seq_inj {c c' : Value} {vs us : List Value} (e : (some { cls := c, data := .seq vs.toArray } : Option Obj) = some { cls := c', data := .seq us.toArray }) : c = c' ∧ vs = us := by
  have e1 := Option.some.inj e
  have e2 : c = c' := congrArg Obj.cls e1
  have e3 : Data.seq vs.toArray = Data.seq us.toArray := congrArg Obj.data e1
  injection e3 with e4
  refine ⟨e2, ?_⟩
  have e5 := congrArg Array.toList e4
  simpa using e5
theorem argL (KX : K.In h) (ar : ∀ a ∈ A, ArgOb h A a) {a : Addr} {vs : List Value} (ha : a ∈ A) (e : h.get? a = some { cls := .type "list", data := .seq vs.toArray }) : (∀ u ∈ vs, OkU A u) ∧ SqL K (argH K h A) a (vs.map toV) := by
  obtain ⟨us, h1, h2, h3⟩ := ar a ha
  have hu : us = vs := by
    rcases h3 with q | q
    · rw [e] at q
      exact (seq_inj q).2.symm
    · rw [e] at q
      exact absurd (Value.type.inj (seq_inj q).1) (by decide)
  subst hu
  refine ⟨h2, ?_⟩
  cases hk : K.lookup a with
  | none => exact .inl (.inr ⟨_, by rw [argH_at ha hk e, hoOf_lst]⟩)
  | some o =>
    have e2 := KX a o hk
    rw [e] at e2
    obtain rfl := Option.some.inj e2
    exact .inr ⟨_, us.toArray, _, hk, rfl, rfl, rfl, by rw [List.size_toArray]; exact h1, by simpa using vals_toV h2⟩
theorem argT (KX : K.In h) (ar : ∀ a ∈ A, ArgOb h A a) {a : Addr} {vs : List Value} (ha : a ∈ A) (e : h.get? a = some { cls := .type "tuple", data := .seq vs.toArray }) : (∀ u ∈ vs, OkU A u) ∧ SqT K (argH K h A) a (vs.map toV) := by
  obtain ⟨us, h1, h2, h3⟩ := ar a ha
  have hu : us = vs := by
    rcases h3 with q | q
    · rw [e] at q
      exact absurd (Value.type.inj (seq_inj q).1) (by decide)
    · rw [e] at q
      exact (seq_inj q).2.symm
  subst hu
  refine ⟨h2, ?_⟩
  cases hk : K.lookup a with
  | none => exact .inl (.inr ⟨_, by rw [argH_at ha hk e, hoOf_tup]⟩)
  | some o =>
    have e2 := KX a o hk
    rw [e] at e2
    obtain rfl := Option.some.inj e2
    exact .inr ⟨_, us.toArray, _, hk, rfl, rfl, by rw [List.size_toArray]; exact h1, by simpa using vals_toV h2⟩
mutual
theorem dw_one {Pm : Params} (KX : K.In h) (ar : ∀ a ∈ A, ArgOb h A a) : ∀ (d : WData) (v : Value), Well Pm h v d → plW d = true → OkU A v → Dw K (argH K h A) (toV v) d
  | .none, _, x, _, _ => by
    cases x
    exact .non
  | .bool b, _, x, _, _ => by
    cases x
    exact .bl b
  | .int i, _, x, _, _ => by
    cases x
    exact .int i
  | .str s, _, x, _, _ => by
    cases x
    exact .str s
  | .bytes b, _, x, _, _ => by
    cases x
    have z := Dw.byt (K := K) (H := argH K h A) b.toArray
    exact z
  | .list ds, _, x, p, hu => by
    obtain ⟨a, vs, rfl, ho, hall⟩ := well_list x
    obtain ⟨h2, hs⟩ := argL KX ar hu ho
    exact .lst hs (dw_all KX ar ds _ hall p h2)
  | .tuple ds, _, x, p, hu => by
    obtain ⟨a, vs, rfl, ho, hall⟩ := well_tuple x
    obtain ⟨h2, hs⟩ := argT KX ar hu ho
    exact .tup hs (dw_all KX ar ds _ hall p h2)
  | .float _, _, _, p, _ => Bool.noConfusion (show false = true from p)
  | .dict _, _, _, p, _ => Bool.noConfusion (show false = true from p)
  | .bytearray _, _, _, p, _ => Bool.noConfusion (show false = true from p)
  | .set _, _, _, p, _ => Bool.noConfusion (show false = true from p)
  | .frozenset _, _, _, p, _ => Bool.noConfusion (show false = true from p)
  | .obj _ _, _, _, p, _ => Bool.noConfusion (show false = true from p)
theorem dw_all {Pm : Params} (KX : K.In h) (ar : ∀ a ∈ A, ArgOb h A a) : ∀ (ds : List WData) (vs : List Value), WellAll Pm h vs ds → plWs ds = true → (∀ u ∈ vs, OkU A u) → DwAll K (argH K h A) (vs.map toV) ds
  | [], _, x, _, _ => by
    cases x
    exact .nil
  | d :: ds, _, x, p, hu => by
    obtain ⟨v, vs, rfl, x1, x2⟩ := well_cons x
    have q : plW d = true ∧ plWs ds = true := Bool.and_eq_true_iff.mp p
    exact .cons (dw_one KX ar d v x1 q.1 (hu _ (List.mem_cons_self ..))) (dw_all KX ar ds vs x2 q.2 fun u m => hu u (List.mem_cons_of_mem _ m))
end
end
theorem spec_call {P : Program} {w : World} {K : PySem.W.Frag} {mg mb : Str → Option Value} {CX : CXT} {k : Nat} {fa : Addr} {fd : FuncData} {ps : List Str} {sp : Sp} {s₁ : Shared} {vals : List Value} {ds : List WData} {R : PySem.W.WRecords} {cl : Str → Option Addr} {d0 : WData}
    (KX : K.In s₁.heap) (hns : s₁.heap.Ns mainGlobals mg) (hb : s₁.heap.Ns builtinsNs mb) (hbb : ∀ x : Str, x ≠ "__name__" → mb x = bootBuiltins x) (hlim : s₁.heap.NoLimit) (hg : s₁.gens = #[])
    (hwl : WellAll w.params s₁.heap vals ds) (hpl : plWs ds = true) (hwt : ∀ d ∈ ds, d.weight ≤ 1048576) (hr : Room k callerA)
    (F : ∀ base : Heap, K.In base → base.Ns mainGlobals mg → FnOk P w K mg base CX k fa fd ps sp) (hbind : ∀ (s : Shared) (us : List Value), us.length = ps.length → BindsTo s fd ⟨us, []⟩ (ps.zip us)) (hlen : ds.length = ps.length)
    (hsp : ∀ (H : Hp) (xs : List V), OnlyF H → DwAll K H xs ds → sp xs H (fun v H' => Dw K H' v d0) fun _ _ _ => False)
    (hCX : ∀ H e s', CX [] H s₁ (fun _ _ _ => False) e s' → False) :
    codeAny (model P w) callerA (.call (.ref fa) ⟨vals, []⟩) (fun r s' => ∃ u as, r = .ok (.ret u) ∧ ReadsW R cl s'.heap u d0 as ∧ OldK s₁.heap s'.heap ∧ s'.os = s₁.os ∧ AllBare s'.gens) s₁ := by
  obtain ⟨A, ho, ar⟩ := area_all ds vals hwl hpl hwt
  have hO : OnlyF (argH K s₁.heap A) := argH_only ar
  have hok : HOk P w (argH K s₁.heap A) s₁.heap := argH_ok ar
  have hS := dw_all KX ar ds vals hwl hpl ho
  have hV := vals_toV ho
  have hK : ∀ b u, argH K s₁.heap A b = some u → K.lookup b = none := fun b u q => (argH_is ar q).1
  have noA : ∀ {b : Addr} {o : Obj} {es : Array DictEntry} {ep : Nat}, s₁.heap.get? b = some o → o.data = .dict es ep → argH K s₁.heap A b = none := fun {b o es ep} e d => by
    cases q : argH K s₁.heap A b with
    | none => rfl
    | some u =>
      obtain ⟨_, vs, _, _, ⟨e2, _⟩ | ⟨e2, _⟩⟩ := argH_is ar q
      · rw [e2] at e
        cases e
        have d' : Data.seq vs.toArray _ = Data.dict es ep := d
        cases d'
      · rw [e2] at e
        cases e
        have d' : Data.seq vs.toArray _ = Data.dict es ep := d
        cases d'
  generalize argH K s₁.heap A = H at hO hok hS hK noA
  have base_of : ∀ {b : Addr} {o : Obj}, s₁.heap.get? b = some o → H b = none → (hidT s₁.heap H).get? b = some o := fun e n => hidT_get e n
  have nsK : ∀ {b : Addr} {m : Str → Option Value}, s₁.heap.Ns b m → (hidT s₁.heap H).Ns b m := fun {b m} ⟨o, es, ep, e, d, r⟩ => ⟨o, es, ep, base_of e (noA e d), d, r⟩
  have nK : ∀ b o, K.lookup b = some o → H b = none := fun b o e => by
    cases q : H b with
    | none => rfl
    | some u =>
      rw [hK b u q] at e
      cases e
  have hKb : K.In (hidT s₁.heap H) := fun b o e => base_of (KX b o e) (nK b o e)
  have hM : Mod K mg (hidT s₁.heap H) := ⟨hKb, nsK hns, ⟨mb, nsK hb, hbb⟩, let ⟨mc, h1, h2⟩ := hlim; ⟨mc, nsK h1, h2⟩⟩
  have e0 : Env0 P w K mg (hidT s₁.heap H) callerA [] s₁ H := ⟨rfl, hM, fun b o e => of_hidT e, Nat.le_of_eq (hidT_size _ _), trivial, fun b hb => absurd (show b ∈ ([] : List Addr) from hb) (by simp), hok, .of_eq hg⟩
  have hl : vals.length = ps.length := by rw [wellAll_len hwl]; exact hlen
  refine codeAny_mono ((F _ hKb (nsK hns)).run callerA [] s₁ H ⟨vals, []⟩ vals (vals.map toV) _ _ hr e0 (hbind s₁ vals hl) hV (hsp H _ hO hS)) fun r s' x => ?_
  cases r with
  | error e => exact (hCX H e s' x).elim
  | ok fl =>
    cases fl with
    | next => exact False.elim x
    | brk => exact False.elim x
    | cont => exact False.elim x
    | ret u =>
      obtain ⟨v, H', os, bare, un, hok', r', q⟩ := x
      have kept : ∀ b o, s₁.heap.get? b = some o → s'.heap.get? b = some o := fun b o e => by
        cases q2 : H b with
        | none => exact un.keep b o e q2 (by intro z; exact absurd (show b ∈ ([] : List Addr) from z) (by simp)) (by simp)
        | some u2 =>
          rcases hO b with z | ⟨ob, u3, z, _⟩
          · rw [q2] at z
            cases z
          · have z2 := un.frzs b ob _ z
            obtain ⟨e1, _⟩ := hok b _ z
            obtain ⟨e2, _⟩ := hok' b _ z2
            rw [e] at e1
            cases e1
            exact e2
      have KX' : K.In s'.heap := fun b o e => kept b o (KX b o e)
      obtain ⟨as, hrd⟩ := Dw.reads (R := R) (cl := cl) hok' KX' d0 v u q r'
      exact ⟨u, as, rfl, hrd, OldK.of_keep kept, os, bare⟩
theorem layable_weight {ds : List WData} (h : WData.layableAll ds = true) : ∀ d ∈ ds, d.weight ≤ 1048576 := fun d hd =>
  (PySem.W.layableW_iff.mp (List.all_eq_true.mp h d hd)).2.2
theorem encAll_len : ∀ (cs : List Codec) (a : Codec.denoteAll cs), (Codec.encAll cs a).length = cs.length
  | [], _ => rfl
  | c :: cs, a => by
    show (Codec.encAll cs a.2).length + 1 = cs.length + 1
    rw [encAll_len cs a.2]
theorem walk_spec {r : OpenSpec} {k : Nat} {q : Program} {loose : List Str} {XP : (Str → Option Value) → Heap → Prop} {YP : World → Heap → Prop} {d : DefRec} {K : Params → PySem.W.Frag} {CX : World → CXT} {ps : List Str} {sp : World → Sp}
    (hwell : r.wellSaid = true) (hdf : d.params.defaults = []) (hlen : r.args.length = ps.length) (hr : Room k callerA)
    (hY : ∀ (w : World) (h : Heap), YP w h → (K w.params).In h)
    (F : ∀ (w : World) (mg : Str → Option Value) (fa : Addr) (h : Heap), YP w h → (K w.params).In h → h.Ns mainGlobals mg → mg d.name = some (.ref fa) →
      ∃ fd : FuncData, (∀ (s : Shared) (us : List Value), us.length = ps.length → BindsTo s fd ⟨us, []⟩ (ps.zip us)) ∧
        ∀ base : Heap, (K w.params).In base → base.Ns mainGlobals mg → FnOk r.prog w (K w.params) mg base (CX w) k fa fd ps (sp w))
    (hsp : ∀ (w : World) (H : Hp) (xs : List V) (a : Codec.denoteAll r.args), OnlyF H → Codec.withinAll r.args a = true → Codec.app r.args r.asked a = true → DwAll (K w.params) H xs (Codec.encAll r.args a) →
      sp w xs H (fun v H' => Dw (K w.params) H' v (r.ret.enc (Codec.app r.args r.f a))) fun _ _ _ => False)
    (hCX : ∀ (w : World) (H : Hp) (s : Shared) (e : Value) (s' : Shared), CX w [] H s (fun _ _ _ => False) e s' → False) :
    PySem.W.WalkOS q loose XP YP r d [] (fun f vs => PySem.call f vs) := by
  intro w s_0 s₁ mg mb G Y fa o pm cd doc dV kV ho hd hcd hD hmg hg args vals as hpre hlay hrd hwl hlo
  obtain ⟨a, e1, e2⟩ := PySem.W.os_pre_some hpre
  obtain ⟨e3, hwi⟩ := Codec.encAll_of_decAll r.args args a e1
  subst e3
  have KX := hY w _ Y
  obtain ⟨fd, hb, hF⟩ := F w mg fa _ Y KX G.T.g hmg
  refine PySem.W.enter_call (codeAny_mono (spec_call (R := []) (cl := classAt s_0.heap) (d0 := r.ret.enc (Codec.app r.args r.f a)) KX G.T.g G.T.b G.T.builtins G.T.nolimit hg hwl (pl_encAll _ _) (layable_weight hlay) hr hF hb (by rw [encAll_len]; exact hlen)
    (fun H xs hO hS => hsp w H xs a hO hwi e2 hS) fun H e s' => hCX w H s₁ e s') fun r' s' hq => ?_)
  obtain ⟨u, as', rfl, h1, h2, h3, h4⟩ := hq
  exact ⟨.inl ⟨u, _, as', rfl, fun _ => rfl, h1, (OpenSpec.post_iff hwell hwi _ _).mpr rfl, fun z => Bool.noConfusion (show false = true from z)⟩, h2, h3, h4⟩
theorem walk_specK {r : OpenSpec} {k : Nat} {q : Program} {loose : List Str} {XP : (Str → Option Value) → Heap → Prop} {YP : World → Heap → Prop} {d : DefRec} {K : Params → PySem.W.Frag} {CX : CXT} {ps : List Str} {sp : PySem.W.Frag → Sp}
    (hwell : r.wellSaid = true) (hdf : d.params.defaults = []) (hlen : r.args.length = ps.length) (hr : Room k callerA)
    (hY : ∀ (w : World) (h : Heap), YP w h → (K w.params).In h)
    (F : ∀ (w : World) (mg : Str → Option Value) (fa : Addr) (h : Heap), YP w h → (K w.params).In h → h.Ns mainGlobals mg → mg d.name = some (.ref fa) →
      ∃ fd : FuncData, (∀ (s : Shared) (us : List Value), us.length = ps.length → BindsTo s fd ⟨us, []⟩ (ps.zip us)) ∧
        ∀ base : Heap, (K w.params).In base → base.Ns mainGlobals mg → FnOk r.prog w (K w.params) mg base CX k fa fd ps (sp (K w.params)))
    (hsp : ∀ (K : PySem.W.Frag) (H : Hp) (xs : List V) (a : Codec.denoteAll r.args), OnlyF H → Codec.withinAll r.args a = true → Codec.app r.args r.asked a = true → DwAll K H xs (Codec.encAll r.args a) →
      sp K xs H (fun v H' => Dw K H' v (r.ret.enc (Codec.app r.args r.f a))) fun _ _ _ => False)
    (hCX : ∀ (H : Hp) (s : Shared) (e : Value) (s' : Shared), CX [] H s (fun _ _ _ => False) e s' → False) :
    PySem.W.WalkOS q loose XP YP r d [] (fun f vs => PySem.call f vs) :=
  walk_spec (K := K) (CX := fun _ => CX) (sp := fun w => sp (K w.params)) hwell hdf hlen hr hY F (fun w H xs a h1 h2 h3 h4 => hsp (K w.params) H xs a h1 h2 h3 h4) fun _ H s e s' => hCX H s e s'
end L2
set_option linter.unusedVariables false
namespace Sig
open Sp18
structure Fmt (F : Format) : Prop where
  hp : 3 ≤ F.p
  hw : 2 ≤ F.w
theorem fmt_s : Fmt single := ⟨by decide, by decide⟩
theorem fmt_d : Fmt double := ⟨by decide, by decide⟩
abbrev PW (F : Format) : Nat := 2 ^ (F.p - 1)
abbrev HB (F : Format) : Nat := 2 ^ (F.bits - 1)
theorem pw_pos (F : Format) : 0 < PW F := Nat.two_pow_pos _
theorem hb_pos (F : Format) : 0 < HB F := Nat.two_pow_pos _
theorem hb_eq {F : Format} (h : Fmt F) : HB F = 2 ^ F.w * PW F := by
  unfold HB PW Format.bits
  rw [← Nat.pow_add]
  congr 1
  have := h.hp
  omega
theorem top_eq (F : Format) : top F = (2 ^ F.w - 1) * PW F := rfl
theorem top_add {F : Format} (h : Fmt F) : top F + PW F = HB F := by
  rw [hb_eq h, top_eq, Nat.sub_mul, Nat.one_mul]
  have h1 : 1 * PW F ≤ 2 ^ F.w * PW F := Nat.mul_le_mul_right _ (Nat.two_pow_pos _)
  omega
theorem top_lt {F : Format} (h : Fmt F) : top F < HB F := by
  have := top_add h
  have := pw_pos F
  omega
theorem pw_lt_top {F : Format} (h : Fmt F) : 3 * PW F ≤ top F := by
  rw [top_eq]
  refine Nat.mul_le_mul_right _ ?_
  have h1 : 2 ^ 2 ≤ 2 ^ F.w := Nat.pow_le_pow_right (by decide) h.hw
  omega
def sgn (F : Format) (b : Nat) : Bool := b / HB F % 2 == 1
def mag (F : Format) (b : Nat) : Nat := b % HB F
def mant (F : Format) (a : Nat) : Nat := if a / PW F = 0 then a % PW F else PW F + a % PW F
def expo (F : Format) (a : Nat) : Int := if a / PW F = 0 then F.least else F.least + ((a / PW F : Nat) : Int) - 1
theorem of_eq (F : Format) (b : Nat) : of F b = if top F < mag F b then .none else if mag F b = top F then .inf (sgn F b) else .fin (sgn F b) (mant F (mag F b)) (expo F (mag F b)) := by
  unfold of sgn mag mant expo
  dsimp only
  split
  · rfl
  · split
    · rfl
    · split <;> rfl
theorem of_nan {F : Format} {b : Nat} (h : top F < mag F b) : of F b = .none := by rw [of_eq, if_pos h]
theorem of_inf {F : Format} {b : Nat} (h : mag F b = top F) : of F b = .inf (sgn F b) := by rw [of_eq, if_neg (by omega), if_pos h]
theorem of_fin {F : Format} {b : Nat} (h : mag F b < top F) : of F b = .fin (sgn F b) (mant F (mag F b)) (expo F (mag F b)) := by rw [of_eq, if_neg (by omega), if_neg (by omega)]
theorem mag_lt (F : Format) (b : Nat) : mag F b < HB F := Nat.mod_lt _ (hb_pos F)
theorem bits_split {F : Format} {b : Nat} (h : b < 2 * HB F) : b = signBit F (sgn F b) + mag F b := by
  unfold signBit sgn mag
  have hp := hb_pos F
  have h2 : b / HB F < 2 := by rw [Nat.div_lt_iff_lt_mul hp]; omega
  have e := Nat.div_add_mod b (HB F)
  have h3 : b / HB F = 0 ∨ b / HB F = 1 := by
    generalize b / HB F = q at h2
    omega
  rcases h3 with h3 | h3
  · rw [h3] at e ⊢
    simp
    simp at e
    exact e.symm
  · rw [h3] at e ⊢
    simp
    simp at e
    exact e.symm
theorem sgn_true {F : Format} {b : Nat} (h : b < 2 * HB F) : sgn F b = true ↔ HB F ≤ b := by
  have e := bits_split h
  have m := mag_lt F b
  unfold signBit at e
  cases hs : sgn F b with
  | true => rw [hs] at e; simp at e; simp; rw [e]; exact Nat.le_add_right _ _
  | false => rw [hs] at e; simp at e; simp; omega
theorem signBit_t (F : Format) : signBit F true = HB F := by unfold signBit; rw [if_pos rfl]
theorem signBit_f (F : Format) : signBit F false = 0 := by unfold signBit; rw [if_neg (by decide)]
theorem sgn_of {F : Format} {s : Bool} {a : Nat} (h : a < HB F) : sgn F (signBit F s + a) = s := by
  have hp := hb_pos F
  unfold sgn
  cases s with
  | true =>
    rw [signBit_t, Nat.add_div_left _ hp, Nat.div_eq_of_lt h]
    rfl
  | false =>
    rw [signBit_f, Nat.zero_add, Nat.div_eq_of_lt h]
    rfl
theorem mag_of {F : Format} {s : Bool} {a : Nat} (h : a < HB F) : mag F (signBit F s + a) = a := by
  unfold mag
  cases s with
  | true => rw [signBit_t, Nat.add_mod_left, Nat.mod_eq_of_lt h]
  | false => rw [signBit_f, Nat.zero_add, Nat.mod_eq_of_lt h]
theorem signBit_le (F : Format) (s : Bool) : signBit F s ≤ HB F := by
  cases s with
  | true => rw [signBit_t]; exact Nat.le_refl _
  | false => rw [signBit_f]; exact Nat.zero_le _
theorem inf_eq (F : Format) (s : Bool) : infinite F s = signBit F s + top F := rfl
theorem none_lt {F : Format} (h : Fmt F) : NONE F < HB F ∧ top F < NONE F := by
  unfold NONE
  have h1 := top_add h
  have e : PW F = 2 * 2 ^ (F.p - 2) := by
    unfold PW
    have := h.hp
    rw [show F.p - 1 = (F.p - 2) + 1 by omega, Nat.pow_succ]
    omega
  have h2 : 0 < 2 ^ (F.p - 2) := Nat.two_pow_pos _
  omega
theorem bits_eq {F : Format} (h : Fmt F) : 2 ^ F.bits = 2 * HB F := by
  unfold HB
  have : F.bits = F.bits - 1 + 1 := by unfold Format.bits; have := h.hp; omega
  rw [this, Nat.pow_succ, Nat.add_sub_cancel]
  omega
theorem plain_eq {F : Format} (hF : Fmt F) {b : Nat} (h : b < 2 * HB F) : plain F b = if top F < mag F b then NONE F else b := by
  unfold plain
  have e := bits_eq hF
  by_cases h1 : top F < mag F b
  · rw [of_nan h1, if_pos h1]
  · rw [if_neg h1]
    by_cases h2 : mag F b = top F
    · rw [of_inf h2]
      dsimp only
      rw [e, Nat.mod_eq_of_lt h]
    · rw [of_fin (by omega)]
      dsimp only
      rw [e, Nat.mod_eq_of_lt h]
theorem plain_lt {F : Format} (hF : Fmt F) {b : Nat} (h : b < 2 * HB F) : plain F b < 2 * HB F := by
  rw [plain_eq hF h]
  have := none_lt hF
  split <;> omega
theorem mag_none {F : Format} (hF : Fmt F) : mag F (NONE F) = NONE F := Nat.mod_eq_of_lt (none_lt hF).1
theorem plain_ne {F : Format} (hF : Fmt F) {b : Nat} (h : b < 2 * HB F) (h1 : ¬ top F < mag F b) : plain F b ≠ NONE F := by
  rw [plain_eq hF h, if_neg h1]
  intro e
  rw [e, mag_none hF] at h1
  exact h1 (none_lt hF).2
theorem neg_eq {F : Format} (hF : Fmt F) {b : Nat} (h : b < 2 * HB F) : neg F b = if top F < mag F b then NONE F else signBit F (!sgn F b) + mag F b := by
  unfold neg
  dsimp only
  by_cases h1 : top F < mag F b
  · rw [plain_eq hF h, if_pos h1, if_pos rfl, if_pos h1]
  · have h2 := plain_ne hF h h1
    rw [if_neg h2, if_neg h1, plain_eq hF h, if_neg h1]
    have e := bits_split h
    have m := mag_lt F b
    cases hs : sgn F b with
    | true =>
      rw [hs, signBit_t] at e
      rw [if_neg (by show ¬ b < HB F; omega)]
      show b - HB F = signBit F false + _
      rw [signBit_f]
      omega
    | false =>
      rw [hs, signBit_f] at e
      rw [if_pos (by show b < HB F; omega)]
      show b + HB F = signBit F true + _
      rw [signBit_t]
      omega
theorem of_neg {F : Format} (hF : Fmt F) {b : Nat} (h : b < 2 * HB F) (h1 : ¬ top F < mag F b) : sgn F (neg F b) = (!sgn F b) ∧ mag F (neg F b) = mag F b := by
  rw [neg_eq hF h, if_neg h1]
  exact ⟨sgn_of (mag_lt F b), mag_of (mag_lt F b)⟩
theorem mant_zero {F : Format} {a : Nat} : mant F a = 0 ↔ a = 0 := by
  unfold mant
  have hp := pw_pos F
  have e := Nat.div_add_mod a (PW F)
  split
  · rename_i h
    rw [h] at e
    simp at e
    omega
  · rename_i h
    constructor
    · intro h2; omega
    · intro h2; subst h2; simp at h
theorem mant_lt (F : Format) (a : Nat) : mant F a < 2 * PW F := by
  unfold mant
  have := Nat.mod_lt a (pw_pos F)
  split <;> omega
theorem expo_ge (F : Format) (a : Nat) : F.least ≤ expo F a := by
  unfold expo
  split
  · exact Int.le_refl _
  · rename_i h
    generalize a / PW F = q at h
    omega
def val (F : Format) (a : Nat) : Nat := mant F a * 2 ^ (expo F a - F.least).toNat
theorem val_zero (F : Format) : val F 0 = 0 := by
  unfold val
  rw [mant_zero.mpr rfl, Nat.zero_mul]
theorem val_eq (F : Format) (a : Nat) : val F a = if a / PW F = 0 then a % PW F else (PW F + a % PW F) * 2 ^ (a / PW F - 1) := by
  unfold val mant expo
  split
  · simp
  · rename_i h
    congr 2
    generalize a / PW F = q at h
    omega
theorem val_step (F : Format) (a : Nat) : val F a < val F (a + 1) := by
  have hp := pw_pos F
  rw [val_eq, val_eq]
  have hm := Nat.mod_lt a hp
  by_cases h : a % PW F + 1 < PW F
  · have e1 : (a + 1) / PW F = a / PW F := by
      have e := Nat.div_add_mod a (PW F)
      have e' : a + 1 = (a % PW F + 1) + PW F * (a / PW F) := by omega
      rw [e', Nat.add_mul_div_left _ _ hp, Nat.div_eq_of_lt h, Nat.zero_add]
    have e2 : (a + 1) % PW F = a % PW F + 1 := by
      have e := Nat.div_add_mod a (PW F)
      have f := Nat.div_add_mod (a + 1) (PW F)
      rw [e1] at f
      omega
    rw [e1, e2]
    split
    · omega
    · exact Nat.mul_lt_mul_of_pos_right (by omega) (Nat.two_pow_pos _)
  · have h' : a % PW F + 1 = PW F := by omega
    have e := Nat.div_add_mod a (PW F)
    have e' : a + 1 = PW F * (a / PW F + 1) := by rw [Nat.mul_add, Nat.mul_one]; omega
    have e1 : (a + 1) / PW F = a / PW F + 1 := by rw [e', Nat.mul_div_cancel_left _ hp]
    have e2 : (a + 1) % PW F = 0 := by rw [e', Nat.mul_mod_right]
    rw [e1, e2, if_neg (Nat.succ_ne_zero (a / PW F)), Nat.add_sub_cancel, Nat.add_zero]
    split
    · rename_i h0
      rw [h0, Nat.pow_zero]
      omega
    · rename_i h0
      obtain ⟨k, hk⟩ : ∃ k, a / PW F = k + 1 := ⟨a / PW F - 1, by generalize a / PW F = q at h0; omega⟩
      rw [hk, Nat.add_sub_cancel, Nat.pow_succ, Nat.mul_comm (2 ^ k) 2, ← Nat.mul_assoc]
      exact Nat.mul_lt_mul_of_pos_right (by omega) (Nat.two_pow_pos _)
theorem val_mono {F : Format} {a b : Nat} (h : a < b) : val F a < val F b := by
  obtain ⟨k, rfl⟩ : ∃ k, b = a + 1 + k := ⟨b - a - 1, by omega⟩
  clear h
  induction k with
  | zero => exact val_step F a
  | succ k ih => exact Nat.lt_trans ih (val_step F (a + 1 + k))
theorem scaled_val {F : Format} {s : Bool} {a : Nat} {d : Int} (hd : F.least ≤ d) (he : d ≤ expo F a) : scaled s (mant F a) (expo F a) d * (2 ^ (d - F.least).toNat : Nat) = signed s (val F a) := by
  unfold scaled signed val
  have e : (expo F a - F.least).toNat = (expo F a - d).toNat + (d - F.least).toNat := by omega
  rw [e, Nat.pow_add, ← Nat.mul_assoc]
  split
  · rw [Int.neg_mul]; rfl
  · rfl
theorem lower_le (e f : Int) : lower e f ≤ e ∧ lower e f ≤ f ∧ (lower e f = e ∨ lower e f = f) := by
  unfold lower
  split <;> omega
theorem lower_ge {F : Format} (a b : Nat) : F.least ≤ lower (expo F a) (expo F b) := by
  have h1 := expo_ge F a
  have h2 := expo_ge F b
  rcases (lower_le (expo F a) (expo F b)).2.2 with e | e <;> rw [e] <;> assumption
end Sig
set_option linter.unusedVariables false
namespace Sig
open Sp18
theorem nearest_py {m d : Nat} (more : Bool) (hm : more = false) (hd : 0 < d) : nearest m (d : Int) more = (m + 2 ^ (d - 1) - 1 + m / 2 ^ d % 2) / 2 ^ d := by
  subst hm
  unfold nearest
  rw [if_neg (by omega)]
  simp only [Int.toNat_natCast]
  obtain ⟨k, rfl⟩ : ∃ k, d = k + 1 := ⟨d - 1, by omega⟩
  rw [Nat.add_sub_cancel]
  have hk : 0 < 2 ^ k := Nat.two_pow_pos k
  have e2 : 2 ^ (k + 1) = 2 * 2 ^ k := by rw [Nat.pow_succ]; omega
  rw [e2]
  generalize 2 ^ k = h at hk
  have hp : 0 < 2 * h := by omega
  have e := Nat.div_add_mod m (2 * h)
  have hr := Nat.mod_lt m hp
  generalize m / (2 * h) = q at e
  generalize m % (2 * h) = r at e hr
  have e3 : m + h - 1 + q % 2 = (r + h - 1 + q % 2) + 2 * h * q := by omega
  rw [e3, Nat.add_mul_div_left _ _ hp]
  by_cases c : 2 * h < 2 * r ∨ (2 * r = 2 * h ∧ (false = true ∨ q % 2 = 1))
  · rw [if_pos c]
    have : (r + h - 1 + q % 2) / (2 * h) = 1 := by
      rw [Nat.div_eq_iff hp]
      rcases c with c | ⟨c, c1 | c1⟩
      · omega
      · exact absurd c1 (by decide)
      · omega
    omega
  · rw [if_neg c]
    have : (r + h - 1 + q % 2) / (2 * h) = 0 := by
      rw [Nat.div_eq_zero_iff]
      right
      have c1 : ¬ 2 * h < 2 * r := fun z => c (.inl z)
      have c2 : ¬ (2 * r = 2 * h ∧ q % 2 = 1) := fun z => c (.inr ⟨z.1, .inr z.2⟩)
      omega
    omega
def dropOf (F : Format) (m : Nat) (e : Int) : Int := if F.least - e > ((Nat.log2 m + 1 : Nat) : Int) - ((F.p - 1 : Nat) : Int) - 1 then F.least - e else ((Nat.log2 m + 1 : Nat) : Int) - ((F.p - 1 : Nat) : Int) - 1
theorem round_drop (F : Format) (s : Bool) (m : Nat) (e : Int) (more : Bool) : 0 ≤ e + dropOf F m e - F.least ∧
    round F s m e more = signBit F s + min ((e + dropOf F m e - F.least).toNat * PW F + nearest m (dropOf F m e) more) (top F) := by
  have hu : (if (Nat.log2 m : Int) + e - ((F.p - 1 : Nat) : Int) < F.least then F.least else (Nat.log2 m : Int) + e - ((F.p - 1 : Nat) : Int)) = e + dropOf F m e := by
    unfold dropOf
    split <;> split <;> omega
  refine ⟨?_, ?_⟩
  · unfold dropOf
    split <;> omega
  · unfold round
    dsimp only
    rw [hu]
    have e1 : e + dropOf F m e - e = dropOf F m e := by omega
    rw [e1]
    split
    · rename_i h
      rw [Nat.min_eq_right h]
      rfl
    · rename_i h
      rw [Nat.min_eq_left (Nat.le_of_lt (Nat.lt_of_not_le h))]
theorem round_lt {F : Format} (hF : Fmt F) (s : Bool) (m : Nat) (e : Int) (more : Bool) : round F s m e more < 2 * HB F := by
  rw [(round_drop F s m e more).2]
  have h1 := signBit_le F s
  have h2 := top_lt hF
  have h3 := Nat.min_le_right ((e + dropOf F m e - F.least).toNat * PW F + nearest m (dropOf F m e) more) (top F)
  omega
theorem round_mag {F : Format} (hF : Fmt F) (s : Bool) (m : Nat) (e : Int) (more : Bool) : mag F (round F s m e more) ≤ top F := by
  rw [(round_drop F s m e more).2]
  have h3 := Nat.min_le_right ((e + dropOf F m e - F.least).toNat * PW F + nearest m (dropOf F m e) more) (top F)
  rw [mag_of (Nat.lt_of_le_of_lt h3 (top_lt hF))]
  exact h3
theorem log2_dbl {n x : Nat} (hn : 0 < n) (hx : x < 2) : Nat.log2 (2 * n + x) = Nat.log2 n + 1 := by
  have h0 : n ≠ 0 := by omega
  have h1 := Nat.log2_self_le h0
  have h2 : n < 2 ^ (Nat.log2 n + 1) := Nat.lt_log2_self
  rw [Nat.log2_eq_iff (by omega)]
  have e1 : 2 ^ (Nat.log2 n + 1) = 2 * 2 ^ Nat.log2 n := by rw [Nat.pow_succ]; omega
  have e2 : 2 ^ (Nat.log2 n + 1 + 1) = 4 * 2 ^ Nat.log2 n := by rw [Nat.pow_succ, Nat.pow_succ]; omega
  rw [e1] at h2
  rw [e1, e2]
  generalize 2 ^ Nat.log2 n = k at h1 h2 ⊢
  omega
theorem nearest_dbl {n x d : Nat} {more : Bool} (hx : x < 2) (hd : 0 < d) : nearest (2 * n + x) ((d : Int) + 1) more = nearest n d (x == 1 || more) := by
  unfold nearest
  rw [if_neg (show ¬ (d : Int) + 1 ≤ 0 by omega), if_neg (show ¬ (d : Int) ≤ 0 by omega)]
  dsimp only
  have e0 : ((d : Int) + 1).toNat = d + 1 := by omega
  rw [e0, Int.toNat_natCast]
  obtain ⟨c, rfl⟩ : ∃ c, d = c + 1 := ⟨d - 1, by omega⟩
  have hk : 0 < 2 ^ c := Nat.two_pow_pos c
  rw [Nat.pow_succ 2 (c + 1), Nat.pow_succ]
  generalize 2 ^ c = h at hk
  have hp : 0 < h * 2 := by omega
  have e := Nat.div_add_mod n (h * 2)
  have hr := Nat.mod_lt n hp
  have q1 : (2 * n + x) / (h * 2 * 2) = n / (h * 2) := by
    rw [Nat.mul_comm (h * 2) 2, ← Nat.div_div_eq_div_mul]
    congr 1
    omega
  have r1 : (2 * n + x) % (h * 2 * 2) = 2 * (n % (h * 2)) + x := by
    have f := Nat.div_add_mod (2 * n + x) (h * 2 * 2)
    rw [q1] at f
    have g : h * 2 * 2 * (n / (h * 2)) = 2 * (h * 2 * (n / (h * 2))) := by
      rw [Nat.mul_comm (h * 2) 2, Nat.mul_assoc]
    omega
  rw [q1, r1]
  generalize n / (h * 2) = q at e
  generalize n % (h * 2) = r at e hr
  have h01 : x = 0 ∨ x = 1 := by omega
  rcases h01 with rfl | rfl
  · have c1 : (h * 2 * 2 < 2 * (2 * r + 0) ∨ 2 * (2 * r + 0) = h * 2 * 2 ∧ (more = true ∨ q % 2 = 1)) ↔ (h * 2 < 2 * r ∨ 2 * r = h * 2 ∧ (((0 : Nat) == 1 || more) = true ∨ q % 2 = 1)) := by
      have : (((0 : Nat) == 1 || more) = true) ↔ more = true := by simp
      rw [this]
      constructor
      · rintro (z | ⟨z, w⟩)
        · left; omega
        · right; exact ⟨by omega, w⟩
      · rintro (z | ⟨z, w⟩)
        · left; omega
        · right; exact ⟨by omega, w⟩
    by_cases c : h * 2 < 2 * r ∨ 2 * r = h * 2 ∧ (((0 : Nat) == 1 || more) = true ∨ q % 2 = 1)
    · rw [if_pos c, if_pos (c1.mpr c)]
    · rw [if_neg c, if_neg fun z => c (c1.mp z)]
  · have c1 : (h * 2 * 2 < 2 * (2 * r + 1) ∨ 2 * (2 * r + 1) = h * 2 * 2 ∧ (more = true ∨ q % 2 = 1)) ↔ (h * 2 < 2 * r ∨ 2 * r = h * 2 ∧ (((1 : Nat) == 1 || more) = true ∨ q % 2 = 1)) := by
      have : (((1 : Nat) == 1 || more) = true) ↔ True := by simp
      rw [this]
      constructor
      · rintro (z | ⟨z, w⟩)
        · by_cases hh : h * 2 < 2 * r
          · left; exact hh
          · right; exact ⟨by omega, .inl trivial⟩
        · omega
      · rintro (z | ⟨z, w⟩)
        · left; omega
        · left; omega
    by_cases c : h * 2 < 2 * r ∨ 2 * r = h * 2 ∧ (((1 : Nat) == 1 || more) = true ∨ q % 2 = 1)
    · rw [if_pos c, if_pos (c1.mpr c)]
    · rw [if_neg c, if_neg fun z => c (c1.mp z)]
theorem round_dbl {F : Format} (hF : Fmt F) {s : Bool} {n x : Nat} {e : Int} {more : Bool} (hn : 2 ^ F.p ≤ n) (hx : x < 2) : round F s (2 * n + x) (e - 1) more = round F s n e (x == 1 || more) := by
  have hn0 : 0 < n := Nat.lt_of_lt_of_le (Nat.two_pow_pos _) hn
  have hl : F.p ≤ Nat.log2 n := (Nat.le_log2 (by omega)).mpr hn
  have hp := hF.hp
  have hdr : dropOf F (2 * n + x) (e - 1) = dropOf F n e + 1 := by
    unfold dropOf
    rw [log2_dbl hn0 hx]
    split <;> split <;> omega
  have hd1 : 1 ≤ dropOf F n e := by
    unfold dropOf
    split <;> omega
  obtain ⟨d, hd⟩ : ∃ d : Nat, dropOf F n e = (d : Int) := ⟨(dropOf F n e).toNat, by omega⟩
  rw [(round_drop F s (2 * n + x) (e - 1) more).2, (round_drop F s n e _).2, hdr, hd, nearest_dbl hx (by omega)]
  congr 3
  congr 2
  omega
theorem div_step {F : Format} (hF : Fmt F) {s : Bool} {A n : Nat} {e : Int} (hn : 0 < n) (h : 2 ^ F.p ≤ A / n) :
    round F s (2 * A / n) (e - 1) (2 * A % n != 0) = round F s (A / n) e (A % n != 0) := by
  have e1 := Nat.div_add_mod A n
  have hr := Nat.mod_lt A hn
  by_cases c : n ≤ 2 * (A % n)
  · have q2 : 2 * A / n = 2 * (A / n) + 1 := by
      have : 2 * A = (2 * (A % n) - n) + n * (2 * (A / n) + 1) := by
        rw [Nat.mul_add, Nat.mul_one, Nat.mul_left_comm]
        omega
      rw [this, Nat.add_mul_div_left _ _ hn, Nat.div_eq_of_lt (by omega), Nat.zero_add]
    rw [q2, round_dbl hF h (by decide)]
    have : (A % n != 0) = true := by
      have : A % n ≠ 0 := by omega
      simpa using this
    rw [this]
    rfl
  · have q2 : 2 * A / n = 2 * (A / n) + 0 := by
      have : 2 * A = (2 * (A % n)) + n * (2 * (A / n)) := by
        rw [Nat.mul_left_comm]
        omega
      rw [this, Nat.add_mul_div_left _ _ hn, Nat.div_eq_of_lt (by omega), Nat.zero_add, Nat.add_zero]
    have r2 : 2 * A % n = 2 * (A % n) := by
      have f := Nat.div_add_mod (2 * A) n
      rw [q2, Nat.add_zero, Nat.mul_left_comm] at f
      omega
    rw [q2, r2, round_dbl hF h (by decide)]
    congr 1
    by_cases z : A % n = 0
    · rw [z]; rfl
    · have a1 : (2 * (A % n) != 0) = true := by
        have : 2 * (A % n) ≠ 0 := by omega
        simpa using this
      have a2 : (A % n != 0) = true := by simpa using z
      rw [a1, a2]; rfl
theorem div_places {F : Format} (hF : Fmt F) {s : Bool} {m n : Nat} {e : Int} (hn : 0 < n) (k : Nat) (h : 2 ^ F.p ≤ m * 2 ^ k / n) : ∀ j : Nat,
    round F s (m * 2 ^ (k + j) / n) (e - ((k + j : Nat) : Int)) (m * 2 ^ (k + j) % n != 0) = round F s (m * 2 ^ k / n) (e - (k : Int)) (m * 2 ^ k % n != 0)
  | 0 => rfl
  | j + 1 => by
    have ih := div_places hF (s := s) (e := e) hn k h j
    have hk : 2 ^ F.p ≤ m * 2 ^ (k + j) / n := by
      refine Nat.le_trans h (Nat.div_le_div_right ?_)
      rw [Nat.pow_add, ← Nat.mul_assoc]
      exact Nat.le_mul_of_pos_right _ (Nat.two_pow_pos _)
    rw [← ih, ← div_step hF hn hk]
    have e1 : m * 2 ^ (k + (j + 1)) = 2 * (m * 2 ^ (k + j)) := by
      rw [← Nat.add_assoc, Nat.pow_succ, ← Nat.mul_assoc, Nat.mul_comm]
    rw [e1]
    congr 1
    omega
theorem div_round {F : Format} (hF : Fmt F) {s : Bool} {m n : Nat} {e : Int} (hm : 0 < m) (hn : 0 < n) (hn2 : n < 2 * PW F) :
    round F s (m * 2 ^ (F.p + 2 + Nat.log2 n) / n) (e - ((F.p + 2 + Nat.log2 n : Nat) : Int)) (m * 2 ^ (F.p + 2 + Nat.log2 n) % n != 0) =
    round F s (2 * (m * 2 ^ (2 * (F.p - 1) + 4) / n) + (if 0 < m * 2 ^ (2 * (F.p - 1) + 4) % n then 1 else 0)) (e - ((2 * (F.p - 1) + 4 : Nat) : Int) - 1) false := by
  have hp := hF.hp
  have hP : 2 * PW F = 2 ^ F.p := by
    unfold PW
    rw [Nat.mul_comm, ← Nat.pow_succ]
    congr 1
    omega
  rw [hP] at hn2
  have hl : Nat.log2 n < F.p := (Nat.log2_lt (by omega)).mpr hn2
  have hlt : n < 2 ^ (Nat.log2 n + 1) := Nat.lt_log2_self
  have h1 : 2 ^ F.p ≤ m * 2 ^ (F.p + 2 + Nat.log2 n) / n := by
    rw [Nat.le_div_iff_mul_le hn]
    have a : 2 ^ F.p * n ≤ 2 ^ F.p * 2 ^ (Nat.log2 n + 1) := Nat.mul_le_mul_left _ (Nat.le_of_lt hlt)
    rw [← Nat.pow_add] at a
    have b : 2 ^ (F.p + (Nat.log2 n + 1)) ≤ 2 ^ (F.p + 2 + Nat.log2 n) := Nat.pow_le_pow_right (by decide) (by omega)
    exact Nat.le_trans a (Nat.le_trans b (Nat.le_mul_of_pos_left _ hm))
  obtain ⟨j, hj⟩ : ∃ j, 2 * (F.p - 1) + 4 = F.p + 2 + Nat.log2 n + j := ⟨2 * (F.p - 1) + 4 - (F.p + 2 + Nat.log2 n), by omega⟩
  have h2 : 2 ^ F.p ≤ m * 2 ^ (2 * (F.p - 1) + 4) / n := by
    refine Nat.le_trans h1 (Nat.div_le_div_right (Nat.mul_le_mul_left _ (Nat.pow_le_pow_right (by decide) (by omega))))
  rw [round_dbl hF h2 (by split <;> decide), Bool.or_false]
  rw [← div_places hF (s := s) (e := e) hn _ h1 j, ← hj]
  congr 1
  generalize m * 2 ^ (2 * (F.p - 1) + 4) % n = r
  by_cases z : 0 < r
  · rw [if_pos z]
    have : r ≠ 0 := by omega
    simpa using this
  · rw [if_neg z]
    have : r = 0 := by omega
    rw [this]; rfl
end Sig
set_option linter.unusedVariables false
namespace Sig
open Sp18
variable {F : Format} {a b : Nat}
theorem none_lt2 (hF : Fmt F) : NONE F < 2 * HB F := by have := none_lt hF; omega
theorem inf_lt2 (hF : Fmt F) (s : Bool) : infinite F s < 2 * HB F := by
  have := top_lt hF
  have := signBit_le F s
  rw [inf_eq]
  omega
theorem sign_lt2 (hF : Fmt F) (s : Bool) : signBit F s < 2 * HB F := by
  have := hb_pos F
  have := signBit_le F s
  omega
theorem add_lt (hF : Fmt F) (a b : Nat) : add F a b < 2 * HB F := by
  unfold add
  split
  · exact none_lt2 hF
  · exact none_lt2 hF
  · split
    · exact inf_lt2 hF _
    · exact none_lt2 hF
  · exact inf_lt2 hF _
  · exact inf_lt2 hF _
  · dsimp only
    split
    · exact sign_lt2 hF _
    · exact round_lt hF _ _ _ _
theorem mul_lt (hF : Fmt F) (a b : Nat) : mul F a b < 2 * HB F := by
  unfold mul
  split
  · exact none_lt2 hF
  · exact none_lt2 hF
  · exact inf_lt2 hF _
  · split
    · exact none_lt2 hF
    · exact inf_lt2 hF _
  · split
    · exact none_lt2 hF
    · exact inf_lt2 hF _
  · split
    · exact sign_lt2 hF _
    · exact round_lt hF _ _ _ _
theorem div_lt (hF : Fmt F) (a b : Nat) : div F a b < 2 * HB F := by
  unfold div
  split
  · exact none_lt2 hF
  · exact none_lt2 hF
  · exact none_lt2 hF
  · exact inf_lt2 hF _
  · exact sign_lt2 hF _
  · split
    · split
      · exact none_lt2 hF
      · exact inf_lt2 hF _
    · split
      · exact sign_lt2 hF _
      · exact round_lt hF _ _ _ _
theorem neg_lt (hF : Fmt F) (hb : b < 2 * HB F) : neg F b < 2 * HB F := by
  rw [neg_eq hF hb]
  split
  · exact none_lt2 hF
  · have := mag_lt F b
    have := signBit_le F (!sgn F b)
    have := hb_pos F
    cases h : sgn F b
    · simp only [Bool.not_false, signBit_t]
      omega
    · simp only [Bool.not_true, signBit_f]
      omega
theorem convert_lt {G : Format} (hG : Fmt G) (a : Nat) : convert F G a < 2 * HB G := by
  unfold convert
  split
  · exact none_lt2 hG
  · exact inf_lt2 hG _
  · split
    · exact sign_lt2 hG _
    · exact round_lt hG _ _ _ _
theorem ofInt_lt (hF : Fmt F) (z : Int) : ofInt F z < 2 * HB F := by
  unfold ofInt
  split
  · have := hb_pos F; omega
  · exact round_lt hF _ _ _ _
theorem inf_bits (hb : b < 2 * HB F) (h : mag F b = top F) : infinite F (sgn F b) = b := by
  rw [inf_eq, ← h]
  exact (bits_split hb).symm
theorem add_nan (h : top F < mag F a ∨ top F < mag F b) : add F a b = NONE F := by
  unfold add
  rcases h with h | h
  · rw [of_nan h]
  · rw [of_nan h]
    cases of F a <;> rfl
theorem add_inf_r (hb : b < 2 * HB F) (h1 : mag F a < top F) (h2 : mag F b = top F) : add F a b = b := by
  unfold add
  rw [of_fin h1, of_inf h2]
  exact inf_bits hb h2
theorem add_inf_l (ha : a < 2 * HB F) (h1 : mag F a = top F) (h2 : mag F b < top F) : add F a b = a := by
  unfold add
  rw [of_inf h1, of_fin h2]
  exact inf_bits ha h1
theorem add_inf_inf (ha : a < 2 * HB F) (h1 : mag F a = top F) (h2 : mag F b = top F) : add F a b = if sgn F a = sgn F b then a else NONE F := by
  unfold add
  rw [of_inf h1, of_inf h2]
  dsimp only
  rw [inf_bits ha h1]
def total (F : Format) (a b : Nat) : Int :=
  scaled (sgn F a) (mant F (mag F a)) (expo F (mag F a)) (lower (expo F (mag F a)) (expo F (mag F b))) + scaled (sgn F b) (mant F (mag F b)) (expo F (mag F b)) (lower (expo F (mag F a)) (expo F (mag F b)))
theorem add_fin (h1 : mag F a < top F) (h2 : mag F b < top F) : add F a b = if total F a b = 0 then signBit F (sgn F a && sgn F b)
    else round F (decide (total F a b < 0)) (total F a b).natAbs (lower (expo F (mag F a)) (expo F (mag F b))) false := by
  unfold add
  rw [of_fin h1, of_fin h2]
  rfl
theorem sub_eq (hF : Fmt F) (hb : b < 2 * HB F) : sub F a b = add F a (signBit F (!sgn F b) + mag F b) := by
  unfold sub
  by_cases h : top F < mag F b
  · rw [add_nan (b := neg F b) (.inr ?_), add_nan (b := signBit F (!sgn F b) + mag F b) (.inr ?_)]
    · rw [mag_of (mag_lt F b)]; exact h
    · rw [neg_eq hF hb, if_pos h, mag_none hF]; exact (none_lt hF).2
  · rw [neg_eq hF hb, if_neg h]
theorem mul_nan (h : top F < mag F a ∨ top F < mag F b) : mul F a b = NONE F := by
  unfold mul
  rcases h with h | h
  · rw [of_nan h]
  · rw [of_nan h]
    cases of F a <;> rfl
theorem mul_inf (hF : Fmt F) (h1 : mag F a ≤ top F) (h2 : mag F b ≤ top F) (h : mag F a = top F ∨ mag F b = top F) :
    mul F a b = if mag F a = 0 ∨ mag F b = 0 then NONE F else infinite F (sgn F a != sgn F b) := by
  have ht : 0 < top F := by have := pw_lt_top hF; have := pw_pos F; omega
  unfold mul
  by_cases ha : mag F a = top F
  · by_cases hb : mag F b = top F
    · rw [of_inf ha, of_inf hb, if_neg (by omega)]
    · rw [of_inf ha, of_fin (by omega)]
      dsimp only
      by_cases z : mag F b = 0
      · rw [if_pos (mant_zero.mpr z), if_pos (.inr z)]
      · rw [if_neg fun q => z (mant_zero.mp q), if_neg (by omega)]
  · have hb : mag F b = top F := h.resolve_left ha
    rw [of_fin (b := a) (by omega), of_inf hb]
    dsimp only
    by_cases z : mag F a = 0
    · rw [if_pos (mant_zero.mpr z), if_pos (.inl z)]
    · rw [if_neg fun q => z (mant_zero.mp q), if_neg (by omega)]
theorem mul_fin (h1 : mag F a < top F) (h2 : mag F b < top F) : mul F a b = if mag F a = 0 ∨ mag F b = 0 then signBit F (sgn F a != sgn F b)
    else round F (sgn F a != sgn F b) (mant F (mag F a) * mant F (mag F b)) (expo F (mag F a) + expo F (mag F b)) false := by
  unfold mul
  rw [of_fin h1, of_fin h2]
  dsimp only
  by_cases z : mag F a = 0 ∨ mag F b = 0
  · rw [if_pos z, if_pos]
    rcases z with z | z
    · rw [mant_zero.mpr z, Nat.zero_mul]
    · rw [mant_zero.mpr z, Nat.mul_zero]
  · rw [if_neg z, if_neg]
    intro q
    rcases Nat.mul_eq_zero.mp q with q | q
    · exact z (.inl (mant_zero.mp q))
    · exact z (.inr (mant_zero.mp q))
theorem div_nan (h : top F < mag F a ∨ top F < mag F b) : div F a b = NONE F := by
  unfold div
  rcases h with h | h
  · rw [of_nan h]
  · rw [of_nan h]
    cases of F a <;> rfl
theorem div_same (hF : Fmt F) (h : mag F a = mag F b) (h2 : mag F a = 0 ∨ mag F a = top F) : div F a b = NONE F := by
  have ht : 0 < top F := by have := pw_lt_top hF; have := pw_pos F; omega
  unfold div
  rcases h2 with z | z
  · rw [of_fin (b := a) (by omega), of_fin (b := b) (by omega)]
    dsimp only
    rw [← h, z, if_pos (mant_zero.mpr rfl), if_pos (mant_zero.mpr rfl)]
  · rw [of_inf z, of_inf (by omega)]
theorem div_zero (hF : Fmt F) (h1 : mag F a ≤ top F) (h2 : mag F b ≤ top F) (hs : ¬ (mag F a = mag F b ∧ (mag F a = 0 ∨ mag F a = top F))) (h : mag F a = 0 ∨ mag F b = top F) :
    div F a b = signBit F (sgn F a != sgn F b) := by
  have ht : 0 < top F := by have := pw_lt_top hF; have := pw_pos F; omega
  unfold div
  by_cases hb : mag F b = top F
  · rw [of_fin (b := a) (by omega), of_inf hb]
  · have ha : mag F a = 0 := h.resolve_right hb
    rw [of_fin (b := a) (by omega), of_fin (b := b) (by omega)]
    dsimp only
    rw [if_neg fun q => hs ⟨by rw [mant_zero.mp q, ha], .inl ha⟩, if_pos (mant_zero.mpr ha)]
theorem div_inf (hF : Fmt F) (h1 : mag F a ≤ top F) (h2 : mag F b ≤ top F) (hs : ¬ (mag F a = 0 ∨ mag F b = top F)) (h : mag F b = 0 ∨ mag F a = top F) :
    div F a b = infinite F (sgn F a != sgn F b) := by
  unfold div
  by_cases ha : mag F a = top F
  · rw [of_inf ha, of_fin (b := b) (by omega)]
  · have hb : mag F b = 0 := h.resolve_right ha
    rw [of_fin (b := a) (by omega), of_fin (b := b) (by omega)]
    dsimp only
    rw [if_pos (mant_zero.mpr hb), if_neg fun q => hs (.inl (mant_zero.mp q))]
theorem div_fin (hF : Fmt F) (h1 : mag F a < top F) (h2 : mag F b < top F) (ha : mag F a ≠ 0) (hb : mag F b ≠ 0) :
    div F a b = round F (sgn F a != sgn F b) (2 * (mant F (mag F a) * 2 ^ (2 * (F.p - 1) + 4) / mant F (mag F b)) + (if 0 < mant F (mag F a) * 2 ^ (2 * (F.p - 1) + 4) % mant F (mag F b) then 1 else 0))
      (expo F (mag F a) - expo F (mag F b) - ((2 * (F.p - 1) + 4 : Nat) : Int) - 1) false := by
  have hm : 0 < mant F (mag F a) := Nat.pos_of_ne_zero fun q => ha (mant_zero.mp q)
  have hn : 0 < mant F (mag F b) := Nat.pos_of_ne_zero fun q => hb (mant_zero.mp q)
  unfold div
  rw [of_fin h1, of_fin h2]
  dsimp only
  rw [if_neg (by omega), if_neg (by omega)]
  exact div_round hF hm hn (mant_lt F _)
end Sig
set_option linter.unusedVariables false
namespace Sig
open Sp18 PySem PyProof.Rows
variable {F : Format} {a b : Nat}
theorem nat_xor_add_and (m : Nat) : ∀ n : Nat, (m ^^^ n) + 2 * (m &&& n) = m + n := by
  induction m using Nat.strongRecOn with
  | ind m ih =>
    intro n
    by_cases h0 : m = 0
    · subst h0; simp
    · have ih' := ih (m / 2) (by omega) (n / 2)
      rw [← Nat.xor_div_two, ← Nat.and_div_two] at ih'
      have o1 := @Nat.xor_mod_two_eq_one m n
      have a1 := @Nat.and_mod_two_eq_one m n
      omega
theorem and_nat (a b : Nat) : Builtin.bitAnd (a : Int) (b : Int) = ((a &&& b : Nat) : Int) := by
  rw [bitAnd_pp (Int.natCast_nonneg a) (Int.natCast_nonneg b), Int.toNat_natCast, Int.toNat_natCast]
theorem xor_nat (a b : Nat) : Builtin.bitXor (a : Int) (b : Int) = ((a ^^^ b : Nat) : Int) := by
  rw [bitXor_and, and_nat]
  have := nat_xor_add_and a b
  omega
theorem and_mask (a n : Nat) : Builtin.bitAnd (a : Int) (((2 ^ n : Nat) : Int) - 1) = ((a % 2 ^ n : Nat) : Int) := by
  have h : 0 < 2 ^ n := Nat.two_pow_pos n
  have e : ((2 ^ n : Nat) : Int) - 1 = ((2 ^ n - 1 : Nat) : Int) := by omega
  rw [e, and_nat, Nat.and_two_pow_sub_one_eq_mod]
theorem sgn_test (F : Format) (a : Nat) : sgn F a = a.testBit (F.bits - 1) := by
  unfold sgn
  rw [Nat.testBit_eq_decide_div_mod_eq]
  by_cases h : a / HB F % 2 = 1
  · rw [decide_eq_true h, h]; rfl
  · rw [decide_eq_false h]
    exact beq_eq_false_iff_ne.mpr h
theorem and_pow (a n : Nat) : a &&& 2 ^ n = if a.testBit n = true then 2 ^ n else 0 := by
  apply Nat.eq_of_testBit_eq
  intro i
  rw [Nat.testBit_and, Nat.testBit_two_pow]
  by_cases h : n = i
  · subst h
    cases c : a.testBit n
    · simp
    · simp [Nat.testBit_two_pow_self]
  · rw [decide_eq_false h, Bool.and_false]
    split
    · rw [Nat.testBit_two_pow, decide_eq_false h]
    · simp
theorem and_hb (F : Format) (a : Nat) : a &&& HB F = signBit F (a.testBit (F.bits - 1)) := by
  unfold HB
  rw [and_pow]
  rfl
theorem p_size (F : Format) (a : Nat) : Builtin.bitAnd (a : Int) (((HB F : Nat) : Int) - 1) = ((mag F a : Nat) : Int) := and_mask a _
theorem p_sign (F : Format) (a : Nat) : Builtin.bitAnd (a : Int) ((HB F : Nat) : Int) = ((signBit F (sgn F a) : Nat) : Int) := by
  rw [and_nat, and_hb, sgn_test]
theorem p_xors (F : Format) (a b : Nat) : Builtin.bitAnd (Builtin.bitXor (a : Int) (b : Int)) ((HB F : Nat) : Int) = ((signBit F (sgn F a != sgn F b) : Nat) : Int) := by
  rw [xor_nat, and_nat, and_hb, Nat.testBit_xor, sgn_test, sgn_test]
theorem p_ands (F : Format) (a b : Nat) : Builtin.bitAnd (Builtin.bitAnd (a : Int) (b : Int)) ((HB F : Nat) : Int) = ((signBit F (sgn F a && sgn F b) : Nat) : Int) := by
  rw [and_nat, and_nat, and_hb, Nat.testBit_and, sgn_test, sgn_test]
theorem p_opp (ha : a < 2 * HB F) : Builtin.bitXor (a : Int) ((HB F : Nat) : Int) = ((signBit F (!sgn F a) + mag F a : Nat) : Int) := by
  rw [bitXor_and, p_sign]
  have e := bits_split ha
  cases h : sgn F a
  · rw [h, signBit_f] at e
    simp only [Bool.not_false, signBit_t, signBit_f]
    omega
  · rw [h, signBit_t] at e
    simp only [Bool.not_true, signBit_t, signBit_f]
    omega
theorem and_sign_mag (s : Bool) {x : Nat} (hx : x < HB F) : signBit F s &&& x = 0 := by
  cases s with
  | false => rw [signBit_f]; simp
  | true =>
    rw [signBit_t, Nat.and_comm, and_hb]
    have : x.testBit (F.bits - 1) = false := Nat.testBit_lt_two_pow hx
    rw [this, signBit_f]
theorem p_or (s : Bool) {x : Nat} (hx : x < HB F) : Builtin.bitOr ((signBit F s : Nat) : Int) (x : Int) = ((signBit F s + x : Nat) : Int) := by
  rw [bitOr_and, and_nat, and_sign_mag s hx]
  omega
theorem p_hidden (F : Format) (a : Nat) : Builtin.bitOr (Builtin.bitAnd (a : Int) (((PW F : Nat) : Int) - 1)) ((PW F : Nat) : Int) = ((PW F + a % PW F : Nat) : Int) := by
  have e : Builtin.bitAnd (a : Int) (((PW F : Nat) : Int) - 1) = ((a % PW F : Nat) : Int) := and_mask a _
  rw [e, bitOr_and, and_nat]
  have h : a % PW F &&& PW F = 0 := by
    unfold PW
    rw [and_pow, Nat.testBit_lt_two_pow (Nat.mod_lt _ (Nat.two_pow_pos _))]
    rfl
  rw [h]
  omega
theorem p_bits {m : Nat} (h : 0 < m) : Builtin.Int.intBits (m : Int) = Nat.log2 m + 1 := by
  unfold Builtin.Int.intBits
  have : ((m : Int) == 0) = false := by
    have : (m : Int) ≠ 0 := by omega
    simpa using this
  rw [this]
  rfl
theorem ne_size (ha : a < 2 * HB F) : ((a : Int) = ((mag F a : Nat) : Int)) ↔ sgn F a = false := by
  have e := bits_split ha
  have hp := hb_pos F
  cases h : sgn F a
  · rw [h, signBit_f] at e
    simp
    omega
  · rw [h, signBit_t] at e
    simp
    omega
theorem p_shr (a n : Nat) : (a : Int) / 2 ^ n = ((a / 2 ^ n : Nat) : Int) := by
  rw [show (2 : Int) ^ n = ((2 ^ n : Nat) : Int) by simp]
  exact (Int.natCast_ediv a (2 ^ n)).symm
end Sig
set_option linter.unusedVariables false
namespace Sig
open Sp18
open Sp18Neutral (fmt)
def F01 (f : Int) : Prop := f = 0 ∨ f = 1
def Std (F : Format) : Prop := F = single ∨ F = double
theorem F01.std {f : Int} (h : F01 f) : Std (fmt f) := by
  rcases h with rfl | rfl
  · exact .inl rfl
  · exact .inr rfl
theorem Std.ok {F : Format} (h : Std F) : Fmt F := by
  rcases h with rfl | rfl
  · exact fmt_s
  · exact fmt_d
theorem F01.ok {f : Int} (h : F01 f) : Fmt (fmt f) := h.std.ok
section
variable {F : Format} (hF : Std F) {a b : Nat}
include hF
theorem p_bd : 24 ≤ F.p ∧ F.p ≤ 53 := by rcases hF with rfl | rfl <;> decide
theorem least_bd : -1074 ≤ F.least ∧ F.least ≤ -149 := by rcases hF with rfl | rfl <;> decide
theorem top_pos : 0 < top F := by have := pw_lt_top hF.ok; have := pw_pos F; omega
theorem pw_bd : 2 * PW F ≤ 2 ^ 53 := by rcases hF with rfl | rfl <;> decide
theorem mant_bd (a : Nat) : mant F a < 2 ^ 53 := by
  have := mant_lt F a
  have := pw_bd hF
  omega
theorem expo_bd (h : a < HB F) : -1074 ≤ expo F a ∧ expo F a ≤ 1024 := by
  have h1 := expo_ge F a
  have h2 := least_bd hF
  refine ⟨by omega, ?_⟩
  have h3 : a / PW F < 2 ^ F.w := by
    rw [Nat.div_lt_iff_lt_mul (pw_pos F), ← hb_eq hF.ok]
    exact h
  have h4 : F.least + ((2 ^ F.w : Nat) : Int) ≤ 1024 := by rcases hF with rfl | rfl <;> decide
  unfold expo
  generalize a / PW F = q at h3
  generalize 2 ^ F.w = W at h3 h4
  split <;> omega
end
theorem log2_bd {n k : Nat} (h : n < 2 ^ k) : Nat.log2 n ≤ k := by
  by_cases h0 : n = 0
  · subst h0
    have : Nat.log2 0 = 0 := by decide
    omega
  · exact Nat.le_of_lt ((Nat.log2_lt h0).mpr h)
theorem mag_mag (F : Format) (a : Nat) : mag F (mag F a) = mag F a := Nat.mod_mod _ _
theorem sgn_mag (F : Format) (a : Nat) : sgn F (mag F a) = false := by
  unfold sgn
  rw [Nat.div_eq_of_lt (mag_lt F a)]
  rfl
theorem mag_small {F : Format} {a : Nat} (h : a < HB F) : mag F a = a := Nat.mod_eq_of_lt h
theorem scaled_py {s : Bool} {m : Nat} {e d : Int} : scaled s m e d = if s = true then -((m : Int) * 2 ^ (e - d).toNat) else (m : Int) * 2 ^ (e - d).toNat := by
  unfold scaled signed
  have : ((m * 2 ^ (e - d).toNat : Nat) : Int) = (m : Int) * 2 ^ (e - d).toNat := by
    rw [Int.natCast_mul, Int.natCast_pow]
    rfl
  rw [this]
theorem scaled_bd {s : Bool} {m : Nat} {e d : Int} (hm : m < 2 ^ 53) (h : (e - d).toNat ≤ 2100) : (scaled s m e d).natAbs < 2 ^ 2153 := by
  have e1 : (scaled s m e d).natAbs = m * 2 ^ (e - d).toNat := by
    unfold scaled signed
    split
    · rw [Int.natAbs_neg]; rfl
    · rfl
  have e2 : (2 : Nat) ^ 2153 = 2 ^ 53 * 2 ^ 2100 := by rw [← Nat.pow_add]
  rw [e1, e2]
  refine Nat.lt_of_lt_of_le (Nat.mul_lt_mul_of_pos_right hm (Nat.two_pow_pos _)) (Nat.mul_le_mul_left _ (Nat.pow_le_pow_right (by decide) h))
theorem total_bd {F : Format} (hF : Std F) (a b : Nat) : Nat.log2 (total F a b).natAbs ≤ 2154 := by
  have ha := expo_bd hF (mag_lt F a)
  have hb := expo_bd hF (mag_lt F b)
  obtain ⟨l1, l2, l3⟩ := lower_le (expo F (mag F a)) (expo F (mag F b))
  have h1 := scaled_bd (s := sgn F a) (e := expo F (mag F a)) (d := lower (expo F (mag F a)) (expo F (mag F b))) (mant_bd hF (mag F a)) (by omega)
  have h2 := scaled_bd (s := sgn F b) (e := expo F (mag F b)) (d := lower (expo F (mag F a)) (expo F (mag F b))) (mant_bd hF (mag F b)) (by omega)
  refine log2_bd ?_
  unfold total
  have h3 := Int.natAbs_add_le (scaled (sgn F a) (mant F (mag F a)) (expo F (mag F a)) (lower (expo F (mag F a)) (expo F (mag F b)))) (scaled (sgn F b) (mant F (mag F b)) (expo F (mag F b)) (lower (expo F (mag F a)) (expo F (mag F b))))
  rw [show (2 : Nat) ^ 2154 = 2 ^ 2153 + 2 ^ 2153 by rw [Nat.pow_succ]; omega]
  generalize (2 : Nat) ^ 2153 = B at h1 h2
  omega
theorem rounded_pos {F : Format} {s : Bool} {m : Nat} {e : Int} (h : 0 < dropOf F m e) :
    (e + dropOf F m e - F.least) * 2 ^ ((F.p - 1 : Nat) : Int).toNat + ((m : Int) + 1 * 2 ^ (dropOf F m e - 1).toNat - 1 + (m : Int) / 2 ^ (dropOf F m e).toNat % 2) / 2 ^ (dropOf F m e).toNat
      = (((e + dropOf F m e - F.least).toNat * PW F + nearest m (dropOf F m e) false : Nat) : Int) := by
  have h0 := (round_drop F s m e false).1
  obtain ⟨d, hd⟩ : ∃ d : Nat, dropOf F m e = (d : Int) := ⟨(dropOf F m e).toNat, by omega⟩
  obtain ⟨u, hu⟩ : ∃ u : Nat, e + dropOf F m e - F.least = (u : Int) := ⟨(e + dropOf F m e - F.least).toNat, by omega⟩
  rw [hu]
  rw [hd] at h ⊢
  have hd1 : ((d : Int) - 1).toNat = d - 1 := by omega
  rw [nearest_py false rfl (by omega), hd1, Int.toNat_natCast, Int.toNat_natCast, Int.toNat_natCast]
  have hp : 0 < 2 ^ (d - 1) := Nat.two_pow_pos _
  have hk : 0 < 2 ^ d := Nat.two_pow_pos _
  have e1 : (m : Int) / 2 ^ d % 2 = ((m / 2 ^ d % 2 : Nat) : Int) := by
    rw [p_shr]
    rfl
  have e2 : (m : Int) + 1 * 2 ^ (d - 1) - 1 + ((m / 2 ^ d % 2 : Nat) : Int) = ((m + 2 ^ (d - 1) - 1 + m / 2 ^ d % 2 : Nat) : Int) := by
    have : (2 : Int) ^ (d - 1) = ((2 ^ (d - 1) : Nat) : Int) := by simp
    rw [this]
    omega
  rw [e1, e2, p_shr]
  have e3 : (u : Int) * 2 ^ (F.p - 1) = ((u * PW F : Nat) : Int) := by
    unfold PW
    simp
  rw [e3]
  rfl
theorem rounded_neg {F : Format} {s : Bool} {m : Nat} {e : Int} (h : ¬ 0 < dropOf F m e) :
    (e + dropOf F m e - F.least) * 2 ^ ((F.p - 1 : Nat) : Int).toNat + (m : Int) * 2 ^ (-dropOf F m e).toNat
      = (((e + dropOf F m e - F.least).toNat * PW F + nearest m (dropOf F m e) false : Nat) : Int) := by
  have h0 := (round_drop F s m e false).1
  obtain ⟨u, hu⟩ : ∃ u : Nat, e + dropOf F m e - F.least = (u : Int) := ⟨(e + dropOf F m e - F.least).toNat, by omega⟩
  unfold nearest
  rw [if_pos (by omega), hu, Int.toNat_natCast, Int.toNat_natCast]
  unfold PW
  simp
end Sig
namespace Sig
open Sp18
open Sp18Neutral (fmt nats)
theorem among_iff {op : Int} {n : Nat} : among op n = true ↔ 0 ≤ op ∧ op < n := by
  unfold among
  simp
theorem row_iff {F : Int} {l : List Int} (hF : F01 F) : Sp18Neutral.row F l = true → ∀ z ∈ l, 0 ≤ z ∧ z < ((2 * HB (fmt F) : Nat) : Int) := by
  intro h z hz
  unfold Sp18Neutral.row at h
  rw [Bool.and_eq_true, List.all_eq_true] at h
  have h1 := h.2 z hz
  rw [Bool.and_eq_true] at h1
  have h2 := of_decide_eq_true h1.1
  have h3 := of_decide_eq_true h1.2
  refine ⟨h2, ?_⟩
  rcases hF with rfl | rfl
  · have : ((2 * HB (fmt 0) : Nat) : Int) = 4294967296 := by decide
    rw [this]
    simpa using h3
  · have : ((2 * HB (fmt 1) : Nat) : Int) = 18446744073709551616 := by decide
    rw [this]
    simpa using h3
theorem isFmt_iff {F : Int} : Sp18Neutral.isFmt F = true → F01 F := by
  unfold Sp18Neutral.isFmt F01
  simp
end Sig
set_option linter.unusedVariables false
namespace Sig
open Sp18
variable {F : Format} {a b : Nat}
theorem sign_ne (F : Format) (s : Bool) : signBit F (!s) ≠ signBit F s := by
  have := hb_pos F
  cases s
  · simp only [Bool.not_false, signBit_t, signBit_f]; omega
  · simp only [Bool.not_true, signBit_t, signBit_f]; omega
theorem endless_eq (ha : a < 2 * HB F) (hb : b < 2 * HB F) (h : top F ≤ mag F a ∨ top F ≤ mag F b) : add F a b =
    if top F < mag F a then NONE F else if top F < mag F b then NONE F else if ¬ mag F a = top F then b else if b = signBit F (!sgn F a) + mag F a then NONE F else a := by
  by_cases c1 : top F < mag F a
  · rw [if_pos c1, add_nan (.inl c1)]
  rw [if_neg c1]
  by_cases c2 : top F < mag F b
  · rw [if_pos c2, add_nan (.inr c2)]
  rw [if_neg c2]
  by_cases c3 : mag F a = top F
  · rw [if_neg (fun z => z c3)]
    by_cases c4 : mag F b = top F
    · rw [add_inf_inf ha c3 c4]
      have e := bits_split hb
      by_cases c5 : sgn F a = sgn F b
      · rw [if_pos c5, if_neg]
        intro z
        have h2 := sign_ne F (sgn F b)
        rw [c5] at z
        omega
      · rw [if_neg c5, if_pos]
        have e2 : sgn F b = !sgn F a := by
          clear e
          revert c5
          generalize sgn F a = s
          generalize sgn F b = t
          intro c5
          cases s <;> cases t <;> first | rfl | exact absurd rfl c5
        rw [← e2]
        omega
    · rw [add_inf_l ha c3 (by omega), if_neg]
      intro z
      have := mag_of (F := F) (s := !sgn F a) (mag_lt F a)
      rw [← z] at this
      omega
  · rw [if_pos c3]
    exact add_inf_r hb (by omega) (by omega)
theorem add_fin2 (h1 : mag F a < top F) (h2 : mag F b < top F) : add F a b = if total F a b = 0 then signBit F (sgn F a && sgn F b)
    else if total F a b < 0 then round F true (-total F a b).toNat (lower (expo F (mag F a)) (expo F (mag F b))) false else round F false (total F a b).toNat (lower (expo F (mag F a)) (expo F (mag F b))) false := by
  rw [add_fin h1 h2]
  split
  · rfl
  · split
    · rename_i h
      rw [decide_eq_true h]
      congr 1
      omega
    · rename_i h
      rw [decide_eq_false h]
      congr 1
      omega
theorem mul_eq (hF : Fmt F) : mul F a b =
    if top F ≤ mag F a ∨ top F ≤ mag F b then (if top F < mag F a ∨ top F < mag F b ∨ mag F a = 0 ∨ mag F b = 0 then NONE F else signBit F (sgn F a != sgn F b) + top F)
    else if mag F a = 0 ∨ mag F b = 0 then signBit F (sgn F a != sgn F b)
    else round F (sgn F a != sgn F b) (mant F (mag F a) * mant F (mag F b)) (expo F (mag F a) + expo F (mag F b)) false := by
  by_cases c : top F ≤ mag F a ∨ top F ≤ mag F b
  · rw [if_pos c]
    by_cases c1 : top F < mag F a ∨ top F < mag F b
    · rw [mul_nan c1, if_pos (c1.elim .inl fun z => .inr (.inl z))]
    · rw [mul_inf hF (by omega) (by omega) (by omega)]
      by_cases c2 : mag F a = 0 ∨ mag F b = 0
      · rw [if_pos c2, if_pos (.inr (.inr c2))]
      · rw [if_neg c2, if_neg (by omega)]
        rfl
  · rw [if_neg c, mul_fin (by omega) (by omega)]
theorem div_eq (hF : Fmt F) : div F a b =
    if top F < mag F a ∨ top F < mag F b then NONE F
    else if mag F a = mag F b ∧ (mag F a = 0 ∨ mag F a = top F) then NONE F
    else if mag F a = 0 ∨ mag F b = top F then signBit F (sgn F a != sgn F b)
    else if mag F b = 0 ∨ mag F a = top F then signBit F (sgn F a != sgn F b) + top F
    else round F (sgn F a != sgn F b) (2 * (mant F (mag F a) * 2 ^ (2 * (F.p - 1) + 4) / mant F (mag F b)) + (if 0 < mant F (mag F a) * 2 ^ (2 * (F.p - 1) + 4) % mant F (mag F b) then 1 else 0))
      (expo F (mag F a) - expo F (mag F b) - ((2 * (F.p - 1) + 4 : Nat) : Int) - 1) false := by
  by_cases c : top F < mag F a ∨ top F < mag F b
  · rw [if_pos c, div_nan c]
  rw [if_neg c]
  by_cases c1 : mag F a = mag F b ∧ (mag F a = 0 ∨ mag F a = top F)
  · rw [if_pos c1, div_same hF c1.1 c1.2]
  rw [if_neg c1]
  by_cases c2 : mag F a = 0 ∨ mag F b = top F
  · rw [if_pos c2, div_zero hF (by omega) (by omega) c1 c2]
  rw [if_neg c2]
  by_cases c3 : mag F b = 0 ∨ mag F a = top F
  · rw [if_pos c3, div_inf hF (by omega) (by omega) c2 c3]
    rfl
  rw [if_neg c3, div_fin hF (by omega) (by omega) (by omega) (by omega)]
theorem sign_or_lt (s : Bool) {x : Nat} (hx : x < HB F) : signBit F s + x < 2 * HB F := by
  have := signBit_le F s
  omega
end Sig
set_option linter.unusedVariables false
namespace Sig
open Sp18
variable {F : Format} {a b : Nat}
theorem sgn_sm (s : Bool) {x : Nat} (hx : x < HB F) : signBit F s + x < 2 * HB F := by
  have := signBit_le F s
  omega
theorem cast_shl (a k : Nat) : (a : Int) * 2 ^ k = ((a * 2 ^ k : Nat) : Int) := by
  rw [Int.natCast_mul, Int.natCast_pow]
  rfl
theorem cast_div (a b : Nat) : (a : Int) / (b : Int) = ((a / b : Nat) : Int) := rfl
theorem cast_mod (a b : Nat) : (a : Int) % (b : Int) = ((a % b : Nat) : Int) := rfl
theorem cast_rest (q r : Nat) : (2 * (q : Int) + if 0 < (r : Int) then 1 else 0) = ((2 * q + if 0 < r then 1 else 0 : Nat) : Int) := by
  split <;> split <;> omega
theorem quot_bd (hF : Std F) {a b : Nat} (ha : 0 < a) (ha2 : a < 2 ^ 53) (hb : 0 < b) (hb2 : b < 2 * PW F) :
    0 < a * 2 ^ (2 * (F.p - 1) + 4) / b ∧ Nat.log2 (2 * (a * 2 ^ (2 * (F.p - 1) + 4) / b) + (if 0 < a * 2 ^ (2 * (F.p - 1) + 4) % b then 1 else 0)) ≤ 300 := by
  have hp := p_bd hF
  have h1 : 2 * PW F ≤ 2 ^ (2 * (F.p - 1) + 4) := by
    rw [show 2 * PW F = 2 ^ (F.p - 1 + 1) by rw [Nat.pow_succ, Nat.mul_comm]]
    exact Nat.pow_le_pow_right (by decide) (by omega)
  have h2 : 2 ^ (2 * (F.p - 1) + 4) ≤ a * 2 ^ (2 * (F.p - 1) + 4) := Nat.le_mul_of_pos_left _ ha
  refine ⟨Nat.div_pos (by omega) hb, log2_bd ?_⟩
  have h3 : a * 2 ^ (2 * (F.p - 1) + 4) < 2 ^ 53 * 2 ^ 108 := by
    refine Nat.lt_of_lt_of_le (Nat.mul_lt_mul_of_pos_right ha2 (Nat.two_pow_pos _)) (Nat.mul_le_mul_left _ (Nat.pow_le_pow_right (by decide) (by omega)))
  have h4 := Nat.div_le_self (a * 2 ^ (2 * (F.p - 1) + 4)) b
  have h5 : (2 : Nat) ^ 300 = 2 ^ 139 * (2 ^ 53 * 2 ^ 108) := by rw [← Nat.pow_add, ← Nat.pow_add]
  have h6 : 4 ≤ (2 : Nat) ^ 139 := by decide
  have h7 : 4 * (2 ^ 53 * 2 ^ 108) ≤ (2 : Nat) ^ 300 := by rw [h5]; exact Nat.mul_le_mul_right _ h6
  generalize (2 : Nat) ^ 53 * 2 ^ 108 = B at h3 h7
  generalize (2 : Nat) ^ 300 = C at h7 ⊢
  split <;> omega
theorem lower_py (e f : Int) : (if f < e then f else e) = lower e f := by
  unfold lower
  split <;> split <;> omega
theorem total_py2 (ha : a < 2 * HB F) (hb : b < 2 * HB F) :
    (if (!decide (a = mag F a)) = true then -(((mant F (mag F a) : Nat) : Int) * 2 ^ (expo F (mag F a) - lower (expo F (mag F a)) (expo F (mag F b))).toNat) else ((mant F (mag F a) : Nat) : Int) * 2 ^ (expo F (mag F a) - lower (expo F (mag F a)) (expo F (mag F b))).toNat) +
    (if (!decide (b = mag F b)) = true then -(((mant F (mag F b) : Nat) : Int) * 2 ^ (expo F (mag F b) - lower (expo F (mag F a)) (expo F (mag F b))).toNat) else ((mant F (mag F b) : Nat) : Int) * 2 ^ (expo F (mag F b) - lower (expo F (mag F a)) (expo F (mag F b))).toNat) = total F a b := by
  have e1 : (!decide (a = mag F a)) = sgn F a := by
    have := ne_size ha
    rw [Int.natCast_inj] at this
    cases h : sgn F a with
    | false => rw [decide_eq_true (this.mpr h)]; rfl
    | true => rw [decide_eq_false fun z => by rw [this.mp z] at h; cases h]; rfl
  have e2 : (!decide (b = mag F b)) = sgn F b := by
    have := ne_size hb
    rw [Int.natCast_inj] at this
    cases h : sgn F b with
    | false => rw [decide_eq_true (this.mpr h)]; rfl
    | true => rw [decide_eq_false fun z => by rw [this.mp z] at h; cases h]; rfl
  rw [e1, e2]
  unfold total
  rw [scaled_py, scaled_py]
end Sig
set_option linter.unusedVariables false
namespace Sig
open Sp18
variable {F : Format} {a b : Nat}
theorem opp_eq (hF : Fmt F) (ha : a < 2 * HB F) : plain F (signBit F (!sgn F a) + mag F a) = neg F a := by
  have hm := mag_lt F a
  rw [plain_eq hF (sgn_sm _ hm), mag_of hm, neg_eq hF ha]
end Sig
set_option linter.unusedVariables false
namespace Sig
open Sp18
open Sp18Neutral (fmt nats)
theorem small_iff {op : Int} (h : Sp18Neutral.small op = true) : 0 ≤ op := by
  unfold Sp18Neutral.small NeutralIO.within at h
  rw [Bool.and_eq_true] at h
  exact of_decide_eq_true h.1
theorem even_iff {l : List Int} (h : Sp18Neutral.even l = true) : l.length % 2 = 0 := by
  unfold Sp18Neutral.even at h
  exact eq_of_beq h
end Sig
set_option linter.unusedVariables false
namespace Sig
open Sp18
open Sp18Neutral (fmt nats)
variable {F : Format} {a b : Nat}
theorem of_plain (hF : Fmt F) (ha : a < 2 * HB F) : of F (plain F a) = of F a := by
  rw [plain_eq hF ha]
  by_cases c : top F < mag F a
  · rw [if_pos c, of_nan c, of_nan (by rw [mag_none hF]; exact (none_lt hF).2)]
  · rw [if_neg c]
theorem plain_plain (hF : Fmt F) (ha : a < 2 * HB F) : plain F (plain F a) = plain F a := by
  rw [plain_eq hF ha]
  by_cases c : top F < mag F a
  · rw [if_pos c, plain_eq hF (none_lt2 hF), if_pos (by rw [mag_none hF]; exact (none_lt hF).2)]
  · rw [if_neg c, plain_eq hF ha, if_neg c]
theorem neg_plain (hF : Fmt F) (ha : a < 2 * HB F) : neg F (plain F a) = neg F a := by
  unfold neg
  rw [plain_plain hF ha]
def twos : List Int → List (Int × Int)
  | a :: b :: l => (a, b) :: twos l
  | _ => []
theorem twos_len : ∀ (m : Nat) (l : List Int), l.length = 2 * m → (twos l).length = m
  | 0, [], _ => rfl
  | m + 1, a :: b :: l, h => by
    have := twos_len m l (by simp only [List.length_cons] at h; omega)
    show (twos l).length + 1 = m + 1
    omega
  | 0, _ :: _, h => by simp at h
  | m + 1, [], h => by simp at h
  | m + 1, [a], h => by simp only [List.length_cons, List.length_nil] at h; omega
theorem twos_at : ∀ (i : Nat) (l : List Int) {x : Int × Int}, (twos l)[i]? = some x → l[2 * i]? = some x.1 ∧ l[2 * i + 1]? = some x.2
  | 0, a :: b :: l, x, h => by
    have e : (a, b) = x := Option.some.inj h
    subst e
    exact ⟨rfl, rfl⟩
  | i + 1, a :: b :: l, x, h => by
    have := twos_at i l (x := x) h
    exact this
  | _, [], x, h => by simp [twos] at h
  | _, [a], x, h => by simp [twos] at h
theorem twos_mem {l : List Int} {x : Int × Int} {i : Nat} (h : (twos l)[i]? = some x) : x.1 ∈ l ∧ x.2 ∈ l :=
  ⟨List.mem_of_getElem? (twos_at i l h).1, List.mem_of_getElem? (twos_at i l h).2⟩
theorem pairs_told (F : Format) : ∀ l : List Int, pairs (Sp18.told F (nats l)) = (twos l).map fun x => (plain F x.1.toNat, plain F x.2.toNat)
  | [] => rfl
  | [a] => rfl
  | a :: b :: l => by
    have := pairs_told F l
    show (plain F a.toNat, plain F b.toNat) :: pairs (Sp18.told F (nats l)) = _
    rw [this]
    rfl
end Sig
set_option linter.unusedVariables false
namespace Sig
open Sp18
open Sp18Neutral (fmt nats)
variable {F : Format} {a b c d : Nat}
def flats (l : List C) : List Int := (flat l).map fun (n : Nat) => (n : Int)
end Sig
set_option linter.all false
namespace Sig
open Sp18
open Sp18Neutral (fmt nats)
variable {F G : Format} {a b : Nat}
theorem conv_eq (F G : Format) (a : Nat) (hF : Fmt F) : convert F G a = if top F < mag F a then NONE G else if mag F a = 0 then signBit G (sgn F a) else if mag F a = top F then signBit G (sgn F a) + top G
    else round G (sgn F a) (mant F (mag F a)) (expo F (mag F a)) false := by
  have hp := pw_lt_top hF
  have hpw := pw_pos F
  unfold convert
  by_cases c1 : top F < mag F a
  · rw [if_pos c1, of_nan c1]
  rw [if_neg c1]
  by_cases c2 : mag F a = top F
  · rw [of_inf c2, if_neg (by omega), if_pos c2]
    rfl
  rw [of_fin (by omega)]
  by_cases c3 : mag F a = 0
  · rw [if_pos c3]
    show (if mant F (mag F a) = 0 then _ else _) = _
    rw [if_pos (mant_zero.mpr c3)]
  · rw [if_neg c3, if_neg c2]
    show (if mant F (mag F a) = 0 then _ else _) = _
    rw [if_neg (fun z => c3 (mant_zero.mp z))]
end Sig
set_option linter.all false
namespace Sig
open Sp18
open Sp18Neutral (fmt nats)
theorem twos_nth {a : List Int} {m : Nat} (h : a.length = 2 * m) {k : Nat} (hk : k < m) : ∃ x, (twos a)[k]? = some x ∧ a[2 * k]? = some x.1 ∧ a[2 * k + 1]? = some x.2 := by
  have hl := twos_len m a h
  refine ⟨_, List.getElem?_eq_getElem (by omega), ?_⟩
  exact twos_at k a (List.getElem?_eq_getElem (by omega))
end Sig
set_option linter.all false
namespace Sig
open Sp18
open Sp18Neutral (fmt nats)
variable {F : Format}
end Sig
set_option linter.all false
namespace Sig
open Sp18
open Sp18Neutral (fmt nats)
variable {F : Format}
theorem add_of {a b a' b' : Nat} (h1 : of F a = of F a') (h2 : of F b = of F b') : add F a b = add F a' b' := by
  unfold add
  rw [h1, h2]
theorem mul_of {a b a' b' : Nat} (h1 : of F a = of F a') (h2 : of F b = of F b') : mul F a b = mul F a' b' := by
  unfold mul
  rw [h1, h2]
theorem plain_of (hF : Fmt F) {a b : Nat} (ha : a < 2 * HB F) (hb : b < 2 * HB F) (h : of F a = of F b) : plain F a = plain F b := by
  rw [plain_eq hF ha, plain_eq hF hb]
  rw [of_eq, of_eq] at h
  have ht := top_lt hF
  by_cases c1 : top F < mag F a
  · rw [if_pos c1] at h ⊢
    by_cases c2 : top F < mag F b
    · rw [if_pos c2]
    · rw [if_neg c2] at h; split at h <;> cases h
  · rw [if_neg c1] at h ⊢
    by_cases c2 : top F < mag F b
    · rw [if_pos c2] at h; split at h <;> cases h
    · rw [if_neg c2] at h ⊢
      have sa := bits_split ha
      have sb := bits_split hb
      by_cases d1 : mag F a = top F
      · rw [if_pos d1] at h
        by_cases d2 : mag F b = top F
        · rw [if_pos d2] at h
          injection h with h1
          rw [sa, sb, h1, d1, d2]
        · rw [if_neg d2] at h; cases h
      · rw [if_neg d1] at h
        by_cases d2 : mag F b = top F
        · rw [if_pos d2] at h; cases h
        · rw [if_neg d2] at h
          injection h with h1 h2 h3
          have e : val F (mag F a) = val F (mag F b) := by unfold val; rw [h2, h3]
          have e2 : mag F a = mag F b := by
            rcases Nat.lt_trichotomy (mag F a) (mag F b) with z | z | z
            · have := val_mono (F := F) z; omega
            · exact z
            · have := val_mono (F := F) z; omega
          rw [sa, sb, h1, e2]
theorem neg_of (hF : Fmt F) {a b : Nat} (ha : a < 2 * HB F) (hb : b < 2 * HB F) (h : of F a = of F b) : neg F a = neg F b := by
  unfold neg
  rw [plain_of hF ha hb h]
theorem sub_of (hF : Fmt F) {a b a' b' : Nat} (hb : b < 2 * HB F) (hb' : b' < 2 * HB F) (h1 : of F a = of F a') (h2 : of F b = of F b') : sub F a b = sub F a' b' := by
  unfold sub
  rw [neg_of hF hb hb' h2]
  exact add_of h1 rfl
end Sig
set_option linter.all false
namespace Sig
open Sp18
variable {F : Format}
def near (F : Format) (S N k : Nat) : Prop :=
  (2 * N ≤ (val F S + val F (S + 1)) * 2 ^ k ∧ (2 * N = (val F S + val F (S + 1)) * 2 ^ k → S % 2 = 0)) ∧
  (∀ T, S = T + 1 → (val F T + val F S) * 2 ^ k ≤ 2 * N ∧ ((val F T + val F S) * 2 ^ k = 2 * N → S % 2 = 0))
theorem val_le {a b : Nat} (h : a ≤ b) : val F a ≤ val F b := by
  rcases Nat.lt_or_ge a b with c | c
  · exact Nat.le_of_lt (val_mono c)
  · rw [Nat.le_antisymm h c]; exact Nat.le_refl _
theorem near_mono {S T N M k : Nat} (h1 : near F S N k) (h2 : near F T M k) (h : N ≤ M) : S ≤ T := by
  rcases Nat.lt_or_ge T S with c | c
  · exfalso
    obtain ⟨U, rfl⟩ : ∃ U, S = U + 1 := ⟨S - 1, by omega⟩
    obtain ⟨a1, a2⟩ := h1.2 U rfl
    obtain ⟨b1, b2⟩ := h2.1
    have hp : 0 < 2 ^ k := Nat.two_pow_pos k
    have v1 : val F T ≤ val F U := val_le (by omega)
    have v2 : val F (T + 1) ≤ val F (U + 1) := val_le (by omega)
    have v3 : (val F T + val F (T + 1)) * 2 ^ k ≤ (val F U + val F (U + 1)) * 2 ^ k := Nat.mul_le_mul_right _ (by omega)
    have e1 : (val F U + val F (U + 1)) * 2 ^ k = 2 * N := by omega
    have e2 : 2 * M = (val F T + val F (T + 1)) * 2 ^ k := by omega
    have e3 : (val F T + val F (T + 1)) * 2 ^ k = (val F U + val F (U + 1)) * 2 ^ k := by omega
    have e4 := Nat.eq_of_mul_eq_mul_right hp e3
    have e5 : T = U := by
      rcases Nat.lt_or_ge T U with d | d
      · have := val_mono (F := F) d; omega
      · omega
    subst e5
    have := a2 e1
    have := b2 e2
    omega
  · exact c
theorem near_uniq {S T N k : Nat} (h1 : near F S N k) (h2 : near F T N k) : S = T := Nat.le_antisymm (near_mono h1 h2 (Nat.le_refl _)) (near_mono h2 h1 (Nat.le_refl _))
theorem near_self (S k : Nat) : near F S (val F S * 2 ^ k) k := by
  have hp : 0 < 2 ^ k := Nat.two_pow_pos k
  have e : 2 * (val F S * 2 ^ k) = (val F S + val F S) * 2 ^ k := by rw [Nat.add_mul]; omega
  have h1 := val_step F S
  have h2 : (val F S + val F S) * 2 ^ k < (val F S + val F (S + 1)) * 2 ^ k := Nat.mul_lt_mul_of_pos_right (by omega) hp
  refine ⟨⟨by omega, fun z => by omega⟩, fun T hT => ?_⟩
  subst hT
  have h3 := val_step F T
  have h4 : (val F T + val F (T + 1)) * 2 ^ k < (val F (T + 1) + val F (T + 1)) * 2 ^ k := Nat.mul_lt_mul_of_pos_right (by omega) hp
  exact ⟨by omega, fun z => by omega⟩
theorem near_le {S N k c : Nat} (h : near F S N k) (hc : N ≤ val F c * 2 ^ k) : S ≤ c := near_mono h (near_self c k) hc
theorem near_ge {S N k c : Nat} (h : near F S N k) (hc : val F c * 2 ^ k ≤ N) : c ≤ S := near_mono (near_self c k) h hc
theorem near_scale {S N k : Nat} (j : Nat) : near F S N k ↔ near F S (N * 2 ^ j) (k + j) := by
  have hp : 0 < 2 ^ j := Nat.two_pow_pos j
  unfold near
  have e : ∀ x : Nat, x * 2 ^ (k + j) = x * 2 ^ k * 2 ^ j := fun x => by rw [Nat.pow_add, Nat.mul_assoc]
  have e2 : 2 * (N * 2 ^ j) = 2 * N * 2 ^ j := by rw [Nat.mul_assoc]
  simp only [e, e2, Nat.mul_le_mul_right_iff hp]
  have i : ∀ x y : Nat, x * 2 ^ j = y * 2 ^ j ↔ x = y := fun x y => ⟨fun h => Nat.eq_of_mul_eq_mul_right hp h, fun h => by rw [h]⟩
  simp only [i]
theorem val_pack {U m : Nat} (hm : m ≤ 2 * PW F) (h : U = 0 ∨ PW F ≤ m) : val F (U * PW F + m) = m * 2 ^ U := by
  have hp := pw_pos F
  rw [val_eq]
  rcases Nat.lt_or_ge m (PW F) with c | c
  · have : U = 0 := by omega
    subst this
    rw [Nat.zero_mul, Nat.zero_add, if_pos (Nat.div_eq_of_lt c), Nat.mod_eq_of_lt c, Nat.pow_zero, Nat.mul_one]
  · rcases Nat.lt_or_ge m (2 * PW F) with d | d
    · have e1 : U * PW F + m = (U + 1) * PW F + (m - PW F) := by rw [Nat.add_mul]; omega
      have e2 : (U * PW F + m) / PW F = U + 1 := by
        rw [e1, Nat.add_comm, Nat.add_mul_div_right _ _ hp, Nat.div_eq_of_lt (by omega), Nat.zero_add]
      have e3 : (U * PW F + m) % PW F = m - PW F := by
        rw [e1, Nat.add_comm, Nat.add_mul_mod_self_right, Nat.mod_eq_of_lt (by omega)]
      rw [e2, if_neg (by omega), e3, Nat.add_sub_cancel]
      congr 1
      omega
    · have e0 : m = 2 * PW F := by omega
      have e1 : U * PW F + m = (U + 2) * PW F := by rw [Nat.add_mul]; omega
      have e2 : (U * PW F + m) / PW F = U + 2 := by rw [e1, Nat.mul_div_cancel _ hp]
      have e3 : (U * PW F + m) % PW F = 0 := by rw [e1, Nat.mul_mod_left]
      rw [e2, if_neg (by omega), e3, e0, Nat.add_zero, show U + 2 - 1 = U + 1 by omega, Nat.pow_succ]
      generalize 2 ^ U = y
      generalize PW F = x
      rw [Nat.mul_comm y 2, ← Nat.mul_assoc, Nat.mul_comm x 2]
theorem even_pack (hF : Fmt F) (U m : Nat) : (U * PW F + m) % 2 = m % 2 := by
  have : PW F = 2 * 2 ^ (F.p - 2) := by
    have := hF.hp
    unfold PW
    rw [show F.p - 1 = (F.p - 2) + 1 by omega, Nat.pow_succ, Nat.mul_comm]
  rw [this]
  have e : U * (2 * 2 ^ (F.p - 2)) = 2 * (U * 2 ^ (F.p - 2)) := by
    generalize 2 ^ (F.p - 2) = y
    rw [← Nat.mul_assoc, Nat.mul_comm U 2, Nat.mul_assoc]
  rw [e]
  omega
theorem near_core (hF : Fmt F) {U q r d : Nat} (hr : r < 2 ^ d) (hd : 0 < d) (hq : q < 2 * PW F) (h : U = 0 ∨ PW F ≤ q) :
    near F (U * PW F + (if 2 ^ d < 2 * r ∨ (2 * r = 2 ^ d ∧ q % 2 = 1) then q + 1 else q)) ((q * 2 ^ d + r) * 2 ^ U) d := by
  have hp := pw_pos F
  have hD : 0 < 2 ^ d := Nat.two_pow_pos d
  have hU : 0 < 2 ^ U := Nat.two_pow_pos U
  obtain ⟨m, hm⟩ : ∃ m, m = (if 2 ^ d < 2 * r ∨ (2 * r = 2 ^ d ∧ q % 2 = 1) then q + 1 else q) := ⟨_, rfl⟩
  rw [← hm]
  have hmq : (m = q + 1 ∧ 2 ^ d ≤ 2 * r ∧ (2 * r = 2 ^ d → m % 2 = 0)) ∨ (m = q ∧ 2 * r ≤ 2 ^ d ∧ (2 * r = 2 ^ d → m % 2 = 0)) := by
    by_cases c : 2 ^ d < 2 * r ∨ (2 * r = 2 ^ d ∧ q % 2 = 1)
    · rw [if_pos c] at hm; left; refine ⟨hm, by omega, fun z => by omega⟩
    · rw [if_neg c] at hm; right; refine ⟨hm, by omega, fun z => by omega⟩
  have hm2 : m ≤ 2 * PW F := by omega
  have hmU : U = 0 ∨ PW F ≤ m := by omega
  have ev := even_pack hF U m
  have vS := val_pack (U := U) hm2 hmU
  have vS1 : (m + 1) * 2 ^ U ≤ val F (U * PW F + m + 1) := by
    rcases Nat.lt_or_ge m (2 * PW F) with c | c
    · rw [Nat.add_assoc, val_pack (U := U) (m := m + 1) (by omega) (by omega)]
      exact Nat.le_refl _
    · have e0 : m = 2 * PW F := by omega
      have e1 : U * PW F + m + 1 = (U + 1) * PW F + (PW F + 1) := by rw [Nat.add_mul]; omega
      rw [e1, val_pack (U := U + 1) (m := PW F + 1) (by omega) (by omega), e0, Nat.pow_succ]
      generalize 2 ^ U = y
      rw [Nat.mul_comm y 2, ← Nat.mul_assoc]
      exact Nat.mul_le_mul_right _ (by omega)
  have k1 : ∀ x y : Nat, x * 2 ^ U * 2 ^ d = x * 2 ^ d * 2 ^ U := fun x y => by rw [Nat.mul_assoc, Nat.mul_comm (2 ^ U), ← Nat.mul_assoc]
  have two : 2 * ((q * 2 ^ d + r) * 2 ^ U) = (2 * (q * 2 ^ d) + 2 * r) * 2 ^ U := by rw [← Nat.mul_assoc, Nat.mul_add]
  have dm : (2 * m + 1) * 2 ^ d = 2 * (m * 2 ^ d) + 2 ^ d := by rw [Nat.add_mul, Nat.one_mul, Nat.mul_assoc]
  have mq : m * 2 ^ d = q * 2 ^ d + (if m = q then 0 else 2 ^ d) := by
    rcases hmq with ⟨e, _⟩ | ⟨e, _⟩
    · rw [e, if_neg (by omega), Nat.add_mul, Nat.one_mul]
    · rw [e, if_pos rfl, Nat.add_zero]
  have up : (2 * m + 1) * 2 ^ d * 2 ^ U ≤ (val F (U * PW F + m) + val F (U * PW F + m + 1)) * 2 ^ d := by
    rw [← k1 _ 0]
    refine Nat.mul_le_mul_right _ ?_
    rw [vS]
    have : (2 * m + 1) * 2 ^ U = m * 2 ^ U + (m + 1) * 2 ^ U := by rw [← Nat.add_mul]; congr 1; omega
    omega
  refine ⟨⟨?_, fun z => ?_⟩, fun T hT => ?_⟩
  · refine Nat.le_trans ?_ up
    rw [two]
    refine Nat.mul_le_mul_right _ ?_
    rw [dm, mq]
    split
    · next c => rcases hmq with ⟨e, _⟩ | ⟨e, e2, _⟩ <;> omega
    · omega
  · rw [ev]
    rw [← z, two] at up
    have up2 := Nat.le_of_mul_le_mul_right up hU
    rw [dm, mq] at up2
    rcases hmq with ⟨e, e2, e3⟩ | ⟨e, e2, e3⟩
    · rw [if_neg (by omega)] at up2
      omega
    · rw [if_pos e] at up2
      exact e3 (by omega)
  ·
    have hm0 : 0 < m := by
      rcases Nat.eq_zero_or_pos m with c | c
      · have : U = 0 := by omega
        rw [c, this] at hT
        omega
      · exact c
    by_cases c : U = 0 ∨ PW F + 1 ≤ m
    · have eT : T = U * PW F + (m - 1) := by omega
      have vT : val F T = (m - 1) * 2 ^ U := by rw [eT]; exact val_pack (by omega) (by omega)
      have s : (val F T + val F (U * PW F + m)) * 2 ^ d = (2 * (m * 2 ^ d) - 2 ^ d) * 2 ^ U := by
        rw [vT, vS, ← Nat.add_mul, k1 _ 0]
        congr 1
        rw [show m - 1 + m = 2 * m - 1 by omega, Nat.sub_mul, Nat.one_mul, Nat.mul_assoc]
      rw [s, two]
      have mqm : 2 ^ d ≤ m * 2 ^ d := Nat.le_mul_of_pos_left _ hm0
      refine ⟨Nat.mul_le_mul_right _ ?_, fun z => ?_⟩
      · rw [mq]
        split
        · omega
        · rcases hmq with ⟨e, e2, _⟩ | ⟨e, _⟩ <;> omega
      · have z2 := Nat.eq_of_mul_eq_mul_right hU z
        rw [ev]
        rcases hmq with ⟨e, e2, e3⟩ | ⟨e, e2, e3⟩
        · rw [mq, if_neg (by omega)] at z2
          exact e3 (by omega)
        · rw [mq, if_pos e] at z2 mqm
          omega
    · have eU : U ≠ 0 := fun z => c (.inl z)
      have em : m = PW F := by omega
      have eq : q = PW F := by omega
      obtain ⟨W, rfl⟩ : ∃ W, U = W + 1 := ⟨U - 1, by omega⟩
      have vT : val F T < val F ((W + 1) * PW F + m) := by rw [hT]; exact val_step F T
      have lt : (val F T + val F ((W + 1) * PW F + m)) * 2 ^ d < (2 * m) * 2 ^ d * 2 ^ (W + 1) := by
        rw [← k1 _ 0]
        refine Nat.mul_lt_mul_of_pos_right ?_ hD
        rw [vS] at vT ⊢
        rw [Nat.mul_assoc]
        omega
      have ge : (2 * m) * 2 ^ d * 2 ^ (W + 1) ≤ (2 * (q * 2 ^ d) + 2 * r) * 2 ^ (W + 1) := by
        refine Nat.mul_le_mul_right _ ?_
        rw [eq, ← em, Nat.mul_assoc]
        omega
      rw [two]
      exact ⟨by omega, fun z => by omega⟩
def szOf (F : Format) (n : Nat) (e : Int) : Nat := (e + dropOf F n e - F.least).toNat * PW F + nearest n (dropOf F n e) false
theorem round_sz (F : Format) (s : Bool) (n : Nat) (e : Int) : round F s n e false = signBit F s + min (szOf F n e) (top F) := (round_drop F s n e false).2
theorem two_p (hF : Fmt F) : 2 ^ F.p = 2 * PW F := by
  have := hF.hp
  unfold PW
  rw [← Nat.pow_succ']
  congr 1
  omega
theorem near_round (hF : Fmt F) {n : Nat} (hn : 0 < n) (e : Int) : near F (szOf F n e) (n * 2 ^ (e - F.least).toNat) (F.least - e).toNat := by
  have h0 := (round_drop F false n e false).1
  have hp := hF.hp
  have hp2 := two_p hF
  have hlo : 2 ^ Nat.log2 n ≤ n := Nat.log2_self_le (by omega)
  have hhi : n < 2 ^ (Nat.log2 n + 1) := Nat.lt_log2_self
  unfold szOf
  obtain ⟨d, hd⟩ : ∃ d, d = dropOf F n e := ⟨_, rfl⟩
  rw [← hd] at h0 ⊢
  obtain ⟨U, hU⟩ : ∃ U, U = (e + d - F.least).toNat := ⟨_, rfl⟩
  rw [← hU]
  have hdd : (d = F.least - e ∧ ((Nat.log2 n + 1 : Nat) : Int) - ((F.p - 1 : Nat) : Int) - 1 ≤ d ∧ U = 0) ∨ (d = ((Nat.log2 n + 1 : Nat) : Int) - ((F.p - 1 : Nat) : Int) - 1) := by
    unfold dropOf at hd
    split at hd
    · left; exact ⟨hd, by omega, by omega⟩
    · right; exact hd
  by_cases c : 0 < d
  · obtain ⟨k, hk⟩ : ∃ k : Nat, (k : Int) = d := ⟨d.toNat, by omega⟩
    have hk0 : 0 < k := by omega
    have key := near_core hF (U := U) (q := n / 2 ^ k) (r := n % 2 ^ k) (d := k) (Nat.mod_lt _ (Nat.two_pow_pos k)) hk0 ?_ ?_
    · have en : n / 2 ^ k * 2 ^ k + n % 2 ^ k = n := by rw [Nat.mul_comm]; exact Nat.div_add_mod n _
      rw [en] at key
      have e1 : nearest n d false = if 2 ^ k < 2 * (n % 2 ^ k) ∨ (2 * (n % 2 ^ k) = 2 ^ k ∧ n / 2 ^ k % 2 = 1) then n / 2 ^ k + 1 else n / 2 ^ k := by
        unfold nearest
        rw [if_neg (by omega), ← hk]
        simp
      rw [e1]
      rcases Nat.le_total k U with h | h
      · have a1 : (e - F.least).toNat = U - k := by omega
        have a2 : (F.least - e).toNat = 0 := by omega
        rw [a1, a2, near_scale k, Nat.zero_add, Nat.mul_assoc, ← Nat.pow_add, Nat.sub_add_cancel h]
        exact key
      · have a1 : (e - F.least).toNat = 0 := by omega
        have a2 : (F.least - e).toNat = k - U := by omega
        rw [a1, a2, Nat.pow_zero, Nat.mul_one, near_scale U, Nat.sub_add_cancel h]
        exact key
    · rw [Nat.div_lt_iff_lt_mul (Nat.two_pow_pos k), ← hp2, ← Nat.pow_add]
      refine Nat.lt_of_lt_of_le hhi (Nat.pow_le_pow_right (by decide) ?_)
      omega
    · rcases hdd with ⟨_, _, z⟩ | z
      · exact .inl z
      · right
        rw [Nat.le_div_iff_mul_le (Nat.two_pow_pos k)]
        unfold PW
        rw [← Nat.pow_add]
        refine Nat.le_trans (Nat.pow_le_pow_right (by decide) ?_) hlo
        omega
  · obtain ⟨k, hk⟩ : ∃ k : Nat, (k : Int) = -d := ⟨(-d).toNat, by omega⟩
    have e1 : nearest n d false = n * 2 ^ k := by
      unfold nearest
      rw [if_pos (by omega)]
      congr 2
      omega
    have hle : F.least ≤ e := by omega
    have m2 : n * 2 ^ k ≤ 2 * PW F := by
      rw [← hp2]
      refine Nat.le_of_lt (Nat.lt_of_lt_of_le (Nat.mul_lt_mul_of_pos_right hhi (Nat.two_pow_pos k)) ?_)
      rw [← Nat.pow_add]
      exact Nat.pow_le_pow_right (by decide) (by omega)
    have mU : U = 0 ∨ PW F ≤ n * 2 ^ k := by
      rcases hdd with ⟨_, _, z⟩ | z
      · exact .inl z
      · right
        refine Nat.le_trans ?_ (Nat.mul_le_mul_right _ hlo)
        unfold PW
        rw [← Nat.pow_add]
        exact Nat.pow_le_pow_right (by decide) (by omega)
    have v := val_pack (U := U) m2 mU
    rw [e1]
    have a2 : (F.least - e).toNat = 0 := by omega
    have e2 : n * 2 ^ (e - F.least).toNat = val F (U * PW F + n * 2 ^ k) * 2 ^ 0 := by
      rw [v, Nat.pow_zero, Nat.mul_one, Nat.mul_assoc, ← Nat.pow_add]
      congr 2
      omega
    rw [a2, e2]
    exact near_self _ 0
end Sig
set_option linter.all false
namespace Sig
open Sp18
variable {F : Format} {a b c : Nat}
abbrev LL (F : Format) : Nat := (-F.least).toNat
def VV (F : Format) (a : Nat) : Int := signed (sgn F a) (val F (mag F a))
theorem least_neg (h : Std F) : F.least ≤ 0 := by have := least_bd h; omega
theorem min_lt2 (hF : Fmt F) (S : Nat) : min S (top F) < HB F := by have := top_lt hF; omega
theorem mul_near (hF : Std F) (h1 : mag F a < top F) (h2 : mag F b < top F) : ∃ S, mul F a b = signBit F (sgn F a != sgn F b) + min S (top F) ∧ near F S (val F (mag F a) * val F (mag F b)) (LL F) := by
  rw [mul_fin h1 h2]
  by_cases z : mag F a = 0 ∨ mag F b = 0
  · rw [if_pos z]
    refine ⟨0, by rw [Nat.zero_min]; rfl, ?_⟩
    have e : val F (mag F a) * val F (mag F b) = val F 0 * 2 ^ LL F := by
      rw [val_zero, Nat.zero_mul]
      rcases z with z | z
      · rw [z, val_zero, Nat.zero_mul]
      · rw [z, val_zero, Nat.mul_zero]
    rw [e]
    exact near_self 0 _
  · rw [if_neg z, round_sz]
    refine ⟨_, rfl, ?_⟩
    have m1 : mant F (mag F a) ≠ 0 := fun q => z (.inl (mant_zero.mp q))
    have m2 : mant F (mag F b) ≠ 0 := fun q => z (.inr (mant_zero.mp q))
    have key := near_round hF.ok (n := mant F (mag F a) * mant F (mag F b)) (Nat.pos_of_ne_zero (Nat.mul_ne_zero m1 m2)) (expo F (mag F a) + expo F (mag F b))
    have g1 := expo_ge F (mag F a)
    have g2 := expo_ge F (mag F b)
    have g3 := least_neg hF
    have ev : val F (mag F a) * val F (mag F b) = mant F (mag F a) * mant F (mag F b) * 2 ^ (expo F (mag F a) + expo F (mag F b) - 2 * F.least).toNat := by
      unfold val
      have : (expo F (mag F a) + expo F (mag F b) - 2 * F.least).toNat = (expo F (mag F a) - F.least).toNat + (expo F (mag F b) - F.least).toNat := by omega
      rw [this, Nat.pow_add]
      generalize 2 ^ (expo F (mag F a) - F.least).toNat = x
      generalize 2 ^ (expo F (mag F b) - F.least).toNat = y
      generalize mant F (mag F a) = m
      generalize mant F (mag F b) = n
      rw [Nat.mul_assoc, Nat.mul_assoc, ← Nat.mul_assoc x n y, Nat.mul_comm x n, Nat.mul_assoc]
    rw [ev]
    rcases Int.le_total F.least (expo F (mag F a) + expo F (mag F b)) with h | h
    · have a2 : (F.least - (expo F (mag F a) + expo F (mag F b))).toNat = 0 := by omega
      rw [a2, near_scale (LL F), Nat.mul_assoc, ← Nat.pow_add, Nat.zero_add] at key
      have : (expo F (mag F a) + expo F (mag F b) - F.least).toNat + LL F = (expo F (mag F a) + expo F (mag F b) - 2 * F.least).toNat := by unfold LL; omega
      rw [this] at key
      exact key
    · have a1 : (expo F (mag F a) + expo F (mag F b) - F.least).toNat = 0 := by omega
      rw [a1, Nat.pow_zero, Nat.mul_one, near_scale (expo F (mag F a) + expo F (mag F b) - 2 * F.least).toNat] at key
      have : (F.least - (expo F (mag F a) + expo F (mag F b))).toNat + (expo F (mag F a) + expo F (mag F b) - 2 * F.least).toNat = LL F := by unfold LL; omega
      rw [this] at key
      exact key
theorem total_VV (a b : Nat) : total F a b * (2 ^ (lower (expo F (mag F a)) (expo F (mag F b)) - F.least).toNat : Nat) = VV F a + VV F b := by
  obtain ⟨l1, l2, _⟩ := lower_le (expo F (mag F a)) (expo F (mag F b))
  have l3 := lower_ge (F := F) (mag F a) (mag F b)
  unfold total VV
  rw [Int.add_mul, scaled_val l3 l1, scaled_val l3 l2]
theorem add_near (hF : Std F) (h1 : mag F a < top F) (h2 : mag F b < top F) : (VV F a + VV F b = 0 ∧ add F a b = signBit F (sgn F a && sgn F b)) ∨
    (VV F a + VV F b ≠ 0 ∧ ∃ S, add F a b = signBit F (decide (VV F a + VV F b < 0)) + min S (top F) ∧ near F S (VV F a + VV F b).natAbs 0) := by
  have t := total_VV (F := F) a b
  have l3 := lower_ge (F := F) (mag F a) (mag F b)
  rw [add_fin h1 h2]
  have hp : (0 : Int) < ((2 ^ (lower (expo F (mag F a)) (expo F (mag F b)) - F.least).toNat : Nat) : Int) := by
    have := Nat.two_pow_pos (lower (expo F (mag F a)) (expo F (mag F b)) - F.least).toNat
    omega
  by_cases z : total F a b = 0
  · left
    rw [if_pos z]
    rw [z, Int.zero_mul] at t
    exact ⟨t.symm, rfl⟩
  · right
    rw [if_neg z, round_sz]
    have hne : VV F a + VV F b ≠ 0 := by
      rw [← t]
      exact Int.mul_ne_zero z (by omega)
    have hs : decide (total F a b < 0) = decide (VV F a + VV F b < 0) := by
      rw [decide_eq_decide, ← t]
      constructor
      · intro h
        exact Int.mul_neg_of_neg_of_pos h hp
      · intro h
        rcases Int.lt_or_le (total F a b) 0 with c | c
        · exact c
        · have := Int.mul_nonneg c (Int.le_of_lt hp)
          omega
    rw [hs]
    refine ⟨hne, _, rfl, ?_⟩
    have key := near_round hF.ok (n := (total F a b).natAbs) (by omega) (lower (expo F (mag F a)) (expo F (mag F b)))
    have a2 : (F.least - lower (expo F (mag F a)) (expo F (mag F b))).toNat = 0 := by omega
    have e2 : (VV F a + VV F b).natAbs = (total F a b).natAbs * 2 ^ (lower (expo F (mag F a)) (expo F (mag F b)) - F.least).toNat := by
      rw [← t, Int.natAbs_mul, Int.natAbs_natCast]
    rw [a2, ← e2] at key
    exact key
theorem mul_le (hF : Std F) (h1 : mag F a < top F) (h2 : mag F b < top F) (hc : c < top F) (h : val F (mag F a) * val F (mag F b) ≤ val F c * 2 ^ LL F) : mag F (mul F a b) ≤ c ∧ sgn F (mul F a b) = (sgn F a != sgn F b) := by
  obtain ⟨S, e, n⟩ := mul_near hF h1 h2
  have hS := near_le n h
  have ht := top_lt hF.ok
  rw [e, mag_of (min_lt2 hF.ok S), sgn_of (min_lt2 hF.ok S)]
  exact ⟨by omega, rfl⟩
theorem mul_ge (hF : Std F) (h1 : mag F a < top F) (h2 : mag F b < top F) (hc : c ≤ top F) (h : val F c * 2 ^ LL F ≤ val F (mag F a) * val F (mag F b)) : c ≤ mag F (mul F a b) := by
  obtain ⟨S, e, n⟩ := mul_near hF h1 h2
  have hS := near_ge n h
  rw [e, mag_of (min_lt2 hF.ok S)]
  omega
theorem mul_exact (hF : Std F) (h1 : mag F a < top F) (h2 : mag F b < top F) (hc : c ≤ top F) (h : val F (mag F a) * val F (mag F b) = val F c * 2 ^ LL F) : mag F (mul F a b) = c := by
  obtain ⟨S, e, n⟩ := mul_near hF h1 h2
  rw [h] at n
  have hS := near_uniq n (near_self c _)
  rw [e, mag_of (min_lt2 hF.ok S), hS]
  omega
theorem VV_abs (a : Nat) : (VV F a).natAbs = val F (mag F a) := by
  unfold VV signed
  split
  · rw [Int.natAbs_neg, Int.natAbs_natCast]
  · exact Int.natAbs_natCast _
theorem add_le (hF : Std F) (h1 : mag F a < top F) (h2 : mag F b < top F) (hc : c < top F) (h : (VV F a + VV F b).natAbs ≤ val F c) : mag F (add F a b) ≤ c := by
  have ht := top_lt hF.ok
  rcases add_near hF h1 h2 with ⟨_, e⟩ | ⟨_, S, e, n⟩
  · rw [e, ← Nat.add_zero (signBit F _), mag_of (hb_pos F)]
    omega
  · have hS := near_le n (by rw [Nat.pow_zero, Nat.mul_one]; exact h)
    rw [e, mag_of (min_lt2 hF.ok S)]
    omega
theorem add_le2 (hF : Std F) (h1 : mag F a < top F) (h2 : mag F b < top F) (hc : c < top F) (h : val F (mag F a) + val F (mag F b) ≤ val F c) : mag F (add F a b) ≤ c := by
  refine add_le hF h1 h2 hc ?_
  have := VV_abs (F := F) a
  have := VV_abs (F := F) b
  omega
theorem add_ge (hF : Std F) (h1 : mag F a < top F) (h2 : mag F b < top F) (hc : c ≤ top F) (h : (val F c : Int) ≤ VV F a + VV F b) (h0 : 0 < VV F a + VV F b) : c ≤ mag F (add F a b) ∧ sgn F (add F a b) = false := by
  have ht := top_lt hF.ok
  rcases add_near hF h1 h2 with ⟨z, e⟩ | ⟨_, S, e, n⟩
  · omega
  · have hS := near_ge n (c := c) (by rw [Nat.pow_zero, Nat.mul_one]; omega)
    rw [e, mag_of (min_lt2 hF.ok S), sgn_of (min_lt2 hF.ok S)]
    exact ⟨by omega, decide_eq_false (by omega)⟩
theorem add_pos (hF : Std F) (h1 : mag F a < top F) (h2 : mag F b < top F) (hs : sgn F a = false ∨ sgn F b = false) (h : 0 ≤ VV F a + VV F b) : sgn F (add F a b) = false := by
  rcases add_near hF h1 h2 with ⟨z, e⟩ | ⟨_, S, e, n⟩
  · rw [e, ← Nat.add_zero (signBit F _), sgn_of (hb_pos F)]
    rcases hs with s | s <;> rw [s]
    · rfl
    · exact Bool.and_false _
  · rw [e, sgn_of (min_lt2 hF.ok S)]
    exact decide_eq_false (by omega)
theorem sub_VV (hF : Std F) (hb : b < 2 * HB F) : ∃ b', sub F a b = add F a b' ∧ b' < 2 * HB F ∧ mag F b' = mag F b ∧ sgn F b' = (!sgn F b) ∧ VV F b' = - VV F b := by
  refine ⟨signBit F (!sgn F b) + mag F b, sub_eq hF.ok hb, sign_or_lt _ (mag_lt F b), mag_of (mag_lt F b), sgn_of (mag_lt F b), ?_⟩
  unfold VV signed
  rw [mag_of (mag_lt F b), sgn_of (mag_lt F b)]
  cases sgn F b <;> simp
theorem VV_pos (h : sgn F a = false) : VV F a = val F (mag F a) := by unfold VV signed; rw [h]; rfl
theorem ofInt_val (hF : Std F) {r : Nat} (h0 : 0 < r) (h : Nat.log2 r < F.p) : ofInt F (r : Int) < HB F ∧ val F (ofInt F (r : Int)) = r * 2 ^ LL F ∧ ofInt F (r : Int) < top F := by
  have hp := hF.ok.hp
  have hL : F.p - 1 ≤ LL F := by rcases hF with rfl | rfl <;> decide
  have ht := top_lt hF.ok
  unfold ofInt
  rw [if_neg (by omega), round_sz]
  have key := near_round hF.ok h0 0
  have a1 : ((0 : Int) - F.least).toNat = LL F := by unfold LL; omega
  have a2 : (F.least - (0 : Int)).toNat = 0 := by have := least_neg hF; omega
  have e0 : ((r : Nat) : Int).natAbs = r := Int.natAbs_natCast r
  rw [e0]
  rw [a1, a2] at key
  have m2 : r * 2 ^ (F.p - 1 - Nat.log2 r) ≤ 2 * PW F := by
    rw [← two_p hF.ok]
    refine Nat.le_of_lt (Nat.lt_of_lt_of_le (Nat.mul_lt_mul_of_pos_right Nat.lt_log2_self (Nat.two_pow_pos _)) ?_)
    rw [← Nat.pow_add]
    exact Nat.pow_le_pow_right (by decide) (by omega)
  have mU : PW F ≤ r * 2 ^ (F.p - 1 - Nat.log2 r) := by
    refine Nat.le_trans ?_ (Nat.mul_le_mul_right _ (Nat.log2_self_le (by omega)))
    unfold PW
    rw [← Nat.pow_add]
    exact Nat.pow_le_pow_right (by decide) (by omega)
  have v := val_pack (F := F) (U := LL F + Nat.log2 r - (F.p - 1)) m2 (.inr mU)
  have e2 : r * 2 ^ LL F = val F ((LL F + Nat.log2 r - (F.p - 1)) * PW F + r * 2 ^ (F.p - 1 - Nat.log2 r)) * 2 ^ 0 := by
    rw [v, Nat.pow_zero, Nat.mul_one, Nat.mul_assoc, ← Nat.pow_add]
    congr 2
    omega
  rw [e2] at key
  have eS := near_uniq key (near_self _ 0)
  have hlt : (LL F + Nat.log2 r - (F.p - 1)) * PW F + r * 2 ^ (F.p - 1 - Nat.log2 r) < top F := by
    have h1 : (LL F + Nat.log2 r - (F.p - 1)) * PW F ≤ LL F * PW F := Nat.mul_le_mul_right _ (by omega)
    have h2 : (LL F + 3) * PW F ≤ top F := by rcases hF with rfl | rfl <;> decide +kernel
    have h3 : (LL F + 3) * PW F = LL F * PW F + 3 * PW F := Nat.add_mul _ _ _
    have := pw_pos F
    omega
  have hs : decide (((r : Nat) : Int) < 0) = false := decide_eq_false (by omega)
  rw [eS, hs, signBit_f, Nat.zero_add, Nat.min_eq_left (by omega)]
  refine ⟨by omega, ?_, hlt⟩
  rw [e2, Nat.pow_zero, Nat.mul_one]
end Sig
set_option linter.all false
namespace Sig
open Sp18
variable {F : Format} {a b c : Nat}
theorem div_near (hF : Std F) (h1 : mag F a < top F) (h2 : mag F b < top F) (ha : mag F a ≠ 0) (hb : mag F b ≠ 0) {j c : Nat} (hj : j ≤ 20) (hc : c < top F) (hv : val F c * 2 ^ j = 2 ^ LL F) :
    (2 ^ j * val F (mag F a) ≤ val F (mag F b) → mag F (div F a b) ≤ c) ∧ (val F (mag F a) ≤ val F (mag F b) → val F (mag F b) ≤ 2 ^ j * val F (mag F a) → c ≤ mag F (div F a b)) ∧ sgn F (div F a b) = (sgn F a != sgn F b) := by
  have hp := p_bd hF
  rw [div_fin hF.ok h1 h2 ha hb, round_sz]
  have ht := top_lt hF.ok
  rw [mag_of (min_lt2 hF.ok _), sgn_of (min_lt2 hF.ok _)]
  have mr0 : 0 < mant F (mag F a) := Nat.pos_of_ne_zero fun q => ha (mant_zero.mp q)
  have mn0 : 0 < mant F (mag F b) := Nat.pos_of_ne_zero fun q => hb (mant_zero.mp q)
  have mr1 := mant_bd hF (mag F a)
  have mn1 := mant_bd hF (mag F b)
  have mn2 := mant_lt F (mag F b)
  have pw2 : 2 * PW F ≤ 2 ^ F.p := by rw [two_p hF.ok]; exact Nat.le_refl _
  have er := expo_ge F (mag F a)
  have en := expo_ge F (mag F b)
  have er2 := expo_bd hF (mag_lt F a)
  have en2 := expo_bd hF (mag_lt F b)
  have hL := least_bd hF
  unfold val at *
  obtain ⟨mr, hmr⟩ : ∃ x, x = mant F (mag F a) := ⟨_, rfl⟩
  obtain ⟨mn, hmn⟩ : ∃ x, x = mant F (mag F b) := ⟨_, rfl⟩
  obtain ⟨α, hα⟩ : ∃ x : Nat, x = (expo F (mag F a) - F.least).toNat := ⟨_, rfl⟩
  obtain ⟨β, hβ⟩ : ∃ x : Nat, x = (expo F (mag F b) - F.least).toNat := ⟨_, rfl⟩
  obtain ⟨G, hG⟩ : ∃ x : Nat, x = 2 * (F.p - 1) + 4 := ⟨_, rfl⟩
  rw [← hmr, ← hmn, ← hα, ← hβ, ← hG]
  rw [← hmr] at mr0 mr1
  rw [← hmn] at mn0 mn1 mn2
  obtain ⟨x, hx⟩ : ∃ x, x = 2 * (mr * 2 ^ G / mn) + (if 0 < mr * 2 ^ G % mn then 1 else 0) := ⟨_, rfl⟩
  rw [← hx]
  obtain ⟨e', he'⟩ : ∃ e' : Int, e' = expo F (mag F a) - expo F (mag F b) - (G : Int) - 1 := ⟨_, rfl⟩
  rw [← he']
  have hdm := Nat.div_add_mod (mr * 2 ^ G) mn
  have hmod := Nat.mod_lt (mr * 2 ^ G) mn0
  have hGG : mn < 2 ^ G := Nat.lt_of_lt_of_le mn2 (Nat.le_trans pw2 (Nat.pow_le_pow_right (by decide) (by omega)))
  have hgr : 2 ^ G ≤ mr * 2 ^ G := Nat.le_mul_of_pos_left _ mr0
  have x0 : 0 < x := by
    have : 0 < mr * 2 ^ G / mn := Nat.div_pos (by omega) mn0
    omega
  have key := near_round hF.ok x0 e'
  have hvc : mant F c * 2 ^ (expo F c - F.least).toNat * 2 ^ j = 2 ^ LL F := hv
  refine ⟨fun h => ?_, fun h0 h => ?_, rfl⟩
  ·
    have h' : mr * 2 ^ (G + 1) * 2 ^ (j + α) ≤ mn * 2 ^ (β + G + 1) := by
      have := Nat.mul_le_mul_right (2 ^ (G + 1)) h
      rw [Nat.pow_add 2 j α, show β + G + 1 = β + (G + 1) by omega, Nat.pow_add 2 β (G + 1)]
      calc mr * 2 ^ (G + 1) * (2 ^ j * 2 ^ α) = 2 ^ j * (mr * 2 ^ α) * 2 ^ (G + 1) := by
            generalize 2 ^ (G + 1) = u; generalize 2 ^ j = v; generalize 2 ^ α = w
            rw [Nat.mul_comm v (mr * w), Nat.mul_assoc mr u, Nat.mul_assoc mr w v, Nat.mul_assoc mr (w * v) u, Nat.mul_comm u, Nat.mul_comm v w]
        _ ≤ mn * 2 ^ β * 2 ^ (G + 1) := this
        _ = mn * (2 ^ β * 2 ^ (G + 1)) := Nat.mul_assoc _ _ _
    have hg : j + α ≤ β + G := by
      rcases Nat.lt_or_ge (β + G) (j + α) with z | z
      · exfalso
        have q1 : 2 ^ (β + G + 1) ≤ 2 ^ (j + α) := Nat.pow_le_pow_right (by decide) (by omega)
        have q2 : mr * 2 ^ (G + 1) * 2 ^ (j + α) ≤ mn * 2 ^ (j + α) := Nat.le_trans h' (Nat.mul_le_mul_left _ q1)
        have q3 := Nat.le_of_mul_le_mul_right q2 (Nat.two_pow_pos _)
        rw [Nat.pow_succ, ← Nat.mul_assoc] at q3
        omega
      · exact z
    obtain ⟨g, hg2⟩ : ∃ g, β + G = j + α + g := ⟨β + G - (j + α), by omega⟩
    have h2' : mr * 2 ^ G ≤ mn * 2 ^ g := by
      rw [hg2, show j + α + g + 1 = g + 1 + (j + α) by omega, Nat.pow_add 2 (g + 1), ← Nat.mul_assoc] at h'
      have := Nat.le_of_mul_le_mul_right h' (Nat.two_pow_pos _)
      rw [Nat.pow_succ, Nat.pow_succ, ← Nat.mul_assoc, ← Nat.mul_assoc] at this
      omega
    have hx2 : x ≤ 2 ^ (g + 1) := by
      rw [Nat.pow_succ]
      have q1 : mr * 2 ^ G / mn ≤ 2 ^ g := by
        exact Nat.le_of_mul_le_mul_left (show mn * (mr * 2 ^ G / mn) ≤ mn * 2 ^ g by omega) mn0
      rcases Nat.lt_or_ge (mr * 2 ^ G / mn) (2 ^ g) with z | z
      · rw [hx]; split <;> omega
      · have e : mr * 2 ^ G / mn = 2 ^ g := by omega
        rw [e] at hdm
        rw [hx, e, if_neg (by omega)]
        omega
    have : szOf F x e' ≤ c := near_le key (by
      refine Nat.le_of_mul_le_mul_right (c := 2 ^ j) ?_ (Nat.two_pow_pos _)
      have e3 : val F c * 2 ^ (F.least - e').toNat * 2 ^ j = 2 ^ LL F * 2 ^ (F.least - e').toNat := by
        rw [Nat.mul_assoc, Nat.mul_comm (2 ^ (F.least - e').toNat), ← Nat.mul_assoc]
        rw [show val F c * 2 ^ j = 2 ^ LL F from hvc]
      rw [e3, Nat.mul_assoc, ← Nat.pow_add, ← Nat.pow_add]
      refine Nat.le_trans (Nat.mul_le_mul_right _ hx2) ?_
      rw [← Nat.pow_add]
      refine Nat.pow_le_pow_right (by decide) ?_
      unfold LL
      omega)
    omega
  ·
    have hab : α ≤ β + 53 := by
      rcases Nat.lt_or_ge (β + 53) α with z | z
      · exfalso
        have q1 : 2 ^ (53 + β) ≤ 2 ^ α := Nat.pow_le_pow_right (by decide) (by omega)
        have q2 : 1 * 2 ^ (53 + β) ≤ mr * 2 ^ α := Nat.mul_le_mul mr0 q1
        have q3 : mn * 2 ^ β < 2 ^ 53 * 2 ^ β := Nat.mul_lt_mul_of_pos_right mn1 (Nat.two_pow_pos _)
        rw [← Nat.pow_add] at q3
        omega
      · exact z
    have hab2 : α ≤ β + F.p := by
      rcases Nat.lt_or_ge (β + F.p) α with z | z
      · exfalso
        have q1 : 2 ^ (F.p + β) ≤ 2 ^ α := Nat.pow_le_pow_right (by decide) (by omega)
        have q2 : 1 * 2 ^ (F.p + β) ≤ mr * 2 ^ α := Nat.mul_le_mul mr0 q1
        have q3 : mn * 2 ^ β < 2 ^ F.p * 2 ^ β := Nat.mul_lt_mul_of_pos_right (by omega) (Nat.two_pow_pos _)
        rw [← Nat.pow_add] at q3
        omega
      · exact z
    obtain ⟨g, hg2⟩ : ∃ g, β + G = j + α + g := ⟨β + G - (j + α), by omega⟩
    have h2' : mn * 2 ^ g ≤ mr * 2 ^ G := by
      have q := Nat.mul_le_mul_right (2 ^ G) h
      have q2 : mn * 2 ^ g * 2 ^ (j + α) ≤ mr * 2 ^ G * 2 ^ (j + α) := by
        rw [Nat.mul_assoc, ← Nat.pow_add, show g + (j + α) = β + G by omega, Nat.pow_add 2 β, ← Nat.mul_assoc, Nat.pow_add 2 j α]
        refine Nat.le_trans q (Nat.le_of_eq ?_)
        generalize 2 ^ G = u; generalize 2 ^ j = v; generalize 2 ^ α = w
        rw [Nat.mul_comm v (mr * w), Nat.mul_assoc mr u, Nat.mul_assoc mr w v, Nat.mul_assoc mr (w * v) u, Nat.mul_comm u, Nat.mul_comm v w]
      exact Nat.le_of_mul_le_mul_right q2 (Nat.two_pow_pos _)
    have hx2 : 2 ^ (g + 1) ≤ x := by
      have q1 : 2 ^ g ≤ mr * 2 ^ G / mn := by
        rw [Nat.le_div_iff_mul_le mn0, Nat.mul_comm]
        exact h2'
      rw [Nat.pow_succ, hx]
      omega
    have : c ≤ szOf F x e' := near_ge key (by
      refine Nat.le_of_mul_le_mul_right (c := 2 ^ j) ?_ (Nat.two_pow_pos _)
      have e3 : val F c * 2 ^ (F.least - e').toNat * 2 ^ j = 2 ^ LL F * 2 ^ (F.least - e').toNat := by
        rw [Nat.mul_assoc, Nat.mul_comm (2 ^ (F.least - e').toNat), ← Nat.mul_assoc]
        rw [show val F c * 2 ^ j = 2 ^ LL F from hvc]
      rw [e3, Nat.mul_assoc, ← Nat.pow_add, ← Nat.pow_add]
      refine Nat.le_trans ?_ (Nat.mul_le_mul_right _ hx2)
      rw [← Nat.pow_add]
      refine Nat.pow_le_pow_right (by decide) ?_
      unfold LL
      omega)
    omega
end Sig
set_option linter.all false
namespace Sig
open Sp18
abbrev DD : Format := double
theorem sD : Std DD := .inr rfl
theorem val_half {F : Format} {T : Nat} (h : 2 * PW F ≤ T) : 2 * val F (T - PW F) = val F T := by
  have hp := pw_pos F
  obtain ⟨q, hq⟩ : ∃ q, q = T / PW F := ⟨_, rfl⟩
  have hdm := Nat.div_add_mod T (PW F)
  have hlt := Nat.mod_lt T hp
  rw [← hq] at hdm
  have hq2 : 2 ≤ q := by rw [hq, Nat.le_div_iff_mul_le hp]; exact h
  have e1 : PW F * q = PW F * (q - 2) + 2 * PW F := by
    obtain ⟨k, rfl⟩ : ∃ k, q = k + 2 := ⟨q - 2, by omega⟩
    rw [Nat.add_sub_cancel, Nat.mul_add]
    omega
  have e2 : T = (q - 1) * PW F + (PW F + T % PW F) := by
    obtain ⟨k, rfl⟩ : ∃ k, q = k + 2 := ⟨q - 2, by omega⟩
    rw [show k + 2 - 1 = k + 1 by omega, Nat.add_mul, Nat.mul_comm k]
    rw [Nat.add_sub_cancel] at e1
    omega
  have e3 : T - PW F = (q - 2) * PW F + (PW F + T % PW F) := by
    rw [Nat.mul_comm (q - 2)]
    omega
  have v1 := val_pack (F := F) (U := q - 1) (m := PW F + T % PW F) (by omega) (by omega)
  have v2 := val_pack (F := F) (U := q - 2) (m := PW F + T % PW F) (by omega) (by omega)
  rw [← e2] at v1
  rw [← e3] at v2
  rw [v1, v2, show q - 1 = (q - 2) + 1 by omega, Nat.pow_succ]
  generalize 2 ^ (q - 2) = y
  generalize PW F + T % PW F = x
  rw [Nat.mul_comm y 2, Nat.mul_left_comm]
theorem one_val : val DD ONE = 2 ^ LL DD := by decide +kernel
theorem horn_step {z h k ch cn : Nat} (hz : mag DD z ≤ 0x3FE4000000000000) (hh : mag DD h ≤ ch) (hch : ch < top DD) (hk : mag DD k < top DD) (hcn : cn < top DD) (hv : val DD (mag DD k) + val DD ch ≤ val DD cn) : mag DD (add DD k (mul DD z h)) ≤ cn := by
  have hzt : mag DD z < top DD := Nat.lt_of_le_of_lt hz (by decide)
  have h1 := (mul_le sD hzt (show mag DD h < top DD by omega) hch (by
    have a1 : val DD (mag DD z) ≤ 2 ^ LL DD := Nat.le_trans (val_le hz) (by decide +kernel)
    have a2 : val DD (mag DD h) ≤ val DD ch := val_le hh
    rw [Nat.mul_comm (val DD ch)]
    exact Nat.mul_le_mul a1 a2)).1
  refine add_le2 sD hk (by omega) hcn ?_
  have := val_le (F := DD) h1
  omega
theorem sine_sum {z : Nat} (hz : mag DD z ≤ 0x3FE4000000000000) : mag DD (horner z SINE) ≤ 0x3FC8000000000000 := by
  have h6 : mag DD 0x3DE5D93A5ACFD57C ≤ 0x3DE5D93A5ACFD57C := by decide
  have h5 := horn_step (k := 0xBE5AE5E68A2B9CEB) (cn := 0x3E60000000000000) hz h6 (by decide) (by decide) (by decide) (by decide +kernel)
  have h4 := horn_step (k := 0x3EC71DE357B1FE7D) (cn := 0x3ED0000000000000) hz h5 (by decide) (by decide) (by decide) (by decide +kernel)
  have h3 := horn_step (k := 0xBF2A01A019C161D5) (cn := 0x3F30000000000000) hz h4 (by decide) (by decide) (by decide) (by decide +kernel)
  have h2 := horn_step (k := 0x3F8111111110F8A6) (cn := 0x3F90000000000000) hz h3 (by decide) (by decide) (by decide) (by decide +kernel)
  exact horn_step (k := 0xBFC5555555555549) (cn := 0x3FC8000000000000) hz h2 (by decide) (by decide) (by decide) (by decide +kernel)
theorem cosine_sum {z : Nat} (hz : mag DD z ≤ 0x3FE4000000000000) : mag DD (horner z COSINE) ≤ 0x3FB0000000000000 := by
  have h6 : mag DD 0xBDA8FAE9BE8838D4 ≤ 0x3DA8FAE9BE8838D4 := by decide
  have h5 := horn_step (k := 0x3E21EE9EBDB4B1C4) (cn := 0x3E30000000000000) hz h6 (by decide) (by decide) (by decide) (by decide +kernel)
  have h4 := horn_step (k := 0xBE927E4F809C52AD) (cn := 0x3EA0000000000000) hz h5 (by decide) (by decide) (by decide) (by decide +kernel)
  have h3 := horn_step (k := 0x3EFA01A019CB1590) (cn := 0x3F00000000000000) hz h4 (by decide) (by decide) (by decide) (by decide +kernel)
  have h2 := horn_step (k := 0xBF56C16C16C15177) (cn := 0x3F60000000000000) hz h3 (by decide) (by decide) (by decide) (by decide +kernel)
  exact horn_step (k := 0x3FA555555555554C) (cn := 0x3FB0000000000000) hz h2 (by decide) (by decide) (by decide) (by decide +kernel)
theorem share_bd {r n : Nat} (h0 : 0 < r) (h1 : 2 * r ≤ n) (h2 : n ≤ 8192) : 0x3F20000000000000 ≤ mag DD (share r n) ∧ mag DD (share r n) ≤ 0x3FE921FB54442D18 ∧ sgn DD (share r n) = false ∧ share r n < 2 * HB DD := by
  have lr : Nat.log2 r < DD.p := by
    have := log2_bd (k := 14) (show r < 2 ^ 14 by omega)
    exact Nat.lt_of_le_of_lt this (by decide)
  have ln : Nat.log2 n < DD.p := by
    have := log2_bd (k := 14) (show n < 2 ^ 14 by omega)
    exact Nat.lt_of_le_of_lt this (by decide)
  obtain ⟨a1, a2, a3⟩ := ofInt_val sD h0 lr
  obtain ⟨b1, b2, b3⟩ := ofInt_val sD (show 0 < n by omega) ln
  have ma := mag_small a1
  have mb := mag_small b1
  have sa : sgn DD (ofInt DD (r : Int)) = false := by have := sgn_mag DD (ofInt DD (r : Int)); rwa [ma] at this
  have sb : sgn DD (ofInt DD (n : Int)) = false := by have := sgn_mag DD (ofInt DD (n : Int)); rwa [mb] at this
  have hL : 0 < 2 ^ LL DD := Nat.two_pow_pos _
  have za : mag DD (ofInt DD (r : Int)) ≠ 0 := fun z => by
    rw [ma] at z
    rw [z, val_zero] at a2
    have : 0 < r * 2 ^ LL DD := Nat.mul_pos h0 hL
    omega
  have zb : mag DD (ofInt DD (n : Int)) ≠ 0 := fun z => by
    rw [mb] at z
    rw [z, val_zero] at b2
    have : 0 < n * 2 ^ LL DD := Nat.mul_pos (show 0 < n by omega) hL
    omega
  have d1 := div_near sD (by rw [ma]; exact a3) (by rw [mb]; exact b3) za zb (j := 1) (c := 0x3FE0000000000000) (by decide) (by decide) (by decide +kernel)
  have d13 := div_near sD (by rw [ma]; exact a3) (by rw [mb]; exact b3) za zb (j := 13) (c := 0x3F20000000000000) (by decide) (by decide) (by decide +kernel)
  rw [ma, mb, a2, b2] at d1 d13
  have up := d1.1 (by rw [← Nat.mul_assoc]; exact Nat.mul_le_mul_right _ (by omega))
  have lo := d13.2.1 (Nat.mul_le_mul_right _ (by omega)) (by rw [← Nat.mul_assoc]; exact Nat.mul_le_mul_right _ (by omega))
  have sg : sgn DD (div DD (ofInt DD (r : Int)) (ofInt DD (n : Int))) = false := by rw [d1.2.2, sa, sb]; rfl
  unfold share
  show _ ∧ _ ∧ _ ∧ mul DD _ _ < _
  obtain ⟨q, hq⟩ : ∃ q, q = div DD (ofInt DD (r : Int)) (ofInt DD (n : Int)) := ⟨_, rfl⟩
  rw [← hq] at up lo sg
  have ht : mag DD q < top DD := Nat.lt_of_le_of_lt up (by decide)
  have m := mul_le sD ht (b := QUARTER) (by decide) (c := 0x3FE921FB54442D18) (by decide) (by
    have := val_le (F := DD) up
    have e : val DD 0x3FE0000000000000 * val DD (mag DD QUARTER) ≤ val DD 0x3FE921FB54442D18 * 2 ^ LL DD := by decide +kernel
    exact Nat.le_trans (Nat.mul_le_mul_right _ this) e)
  have g := mul_ge sD ht (b := QUARTER) (by decide) (c := 0x3F20000000000000) (by decide) (by
    have := val_le (F := DD) lo
    have e : val DD 0x3F20000000000000 * 2 ^ LL DD ≤ val DD 0x3F20000000000000 * val DD (mag DD QUARTER) := by decide +kernel
    exact Nat.le_trans e (Nat.mul_le_mul_right _ this))
  have hs := m.2
  rw [sg] at hs
  show _ ≤ mag DD (mul DD (div DD (ofInt DD (r : Int)) (ofInt DD (n : Int))) QUARTER) ∧ mag DD (mul DD (div DD (ofInt DD (r : Int)) (ofInt DD (n : Int))) QUARTER) ≤ _ ∧ sgn DD (mul DD (div DD (ofInt DD (r : Int)) (ofInt DD (n : Int))) QUARTER) = false ∧ mul DD (div DD (ofInt DD (r : Int)) (ofInt DD (n : Int))) QUARTER < _
  rw [← hq]
  exact ⟨g, m.1, hs, mul_lt sD.ok _ _⟩
theorem sine_bd {t : Nat} (h1 : 0x3F20000000000000 ≤ mag DD t) (h2 : mag DD t ≤ 0x3FE921FB54442D18) (hs : sgn DD t = false) :
    0x3F10000000000000 ≤ mag DD (sine t) ∧ mag DD (sine t) ≤ ONE ∧ sgn DD (sine t) = false := by
  have ht : mag DD t < top DD := Nat.lt_of_le_of_lt h2 (by decide)
  obtain ⟨z, hz⟩ : ∃ z, z = mul DD t t := ⟨_, rfl⟩
  have z1 := mul_le sD ht ht (c := 0x3FE4000000000000) (by decide) (by
    have := val_le (F := DD) h2
    have e : val DD 0x3FE921FB54442D18 * val DD 0x3FE921FB54442D18 ≤ val DD 0x3FE4000000000000 * 2 ^ LL DD := by decide +kernel
    exact Nat.le_trans (Nat.mul_le_mul this this) e)
  rw [← hz] at z1
  have zt : mag DD z < top DD := Nat.lt_of_le_of_lt z1.1 (by decide)
  have hS := sine_sum z1.1
  obtain ⟨S, eS⟩ : ∃ S, S = horner z SINE := ⟨_, rfl⟩
  rw [← eS] at hS
  have St : mag DD S < top DD := Nat.lt_of_le_of_lt hS (by decide)
  have vz : val DD (mag DD z) ≤ 2 ^ LL DD := Nat.le_trans (val_le z1.1) (by decide +kernel)
  have u1 := (mul_le sD ht zt ht (Nat.mul_le_mul_left _ vz)).1
  have ut : mag DD (mul DD t z) < top DD := by omega
  have vS := val_le (F := DD) hS
  have vu := val_le (F := DD) u1
  have vt := val_le (F := DD) h2
  have hPW : 2 * PW DD ≤ mag DD t := Nat.le_trans (by decide) h1
  have half := val_half hPW
  have w1 := (mul_le sD ut St (c := mag DD t - PW DD) (by omega) (by
    have e : 2 * val DD 0x3FC8000000000000 ≤ 2 ^ LL DD := by decide +kernel
    have q1 : val DD (mag DD (mul DD t z)) * val DD (mag DD S) ≤ val DD (mag DD t) * val DD 0x3FC8000000000000 := Nat.mul_le_mul vu vS
    refine Nat.le_trans q1 ?_
    rw [← half, Nat.mul_comm 2, Nat.mul_assoc]
    exact Nat.mul_le_mul_left _ e)).1
  have w2 := (mul_le sD ut St (c := 0x3FC3000000000000) (by decide) (by
    have q1 : val DD (mag DD (mul DD t z)) * val DD (mag DD S) ≤ val DD 0x3FE921FB54442D18 * val DD 0x3FC8000000000000 := Nat.mul_le_mul (Nat.le_trans vu vt) vS
    exact Nat.le_trans q1 (by decide +kernel))).1
  obtain ⟨w, hw⟩ : ∃ w, w = mul DD (mul DD t z) S := ⟨_, rfl⟩
  rw [← hw] at w1 w2
  have wt : mag DD w < top DD := by omega
  have e : sine t = add DD t w := by rw [hw, eS, hz]; rfl
  have v1 := VV_pos hs
  have v2 := VV_abs (F := DD) w
  have x1 := val_le (F := DD) w1
  have x2 := val_le (F := DD) w2
  have lowT := val_le (F := DD) h1
  have c1 : val DD 0x3F10000000000000 * 2 = val DD 0x3F20000000000000 := by decide +kernel
  have c2 : 0 < val DD 0x3F10000000000000 := by decide +kernel
  have c3 : val DD 0x3FE921FB54442D18 + val DD 0x3FC3000000000000 ≤ val DD ONE := by decide +kernel
  rw [e]
  have g := add_ge sD ht wt (c := 0x3F10000000000000) (by decide) (by omega) (by omega)
  exact ⟨g.1, add_le2 sD ht wt (by decide) (by omega), g.2⟩
theorem cosine_bd {t : Nat} (h1 : 0x3F20000000000000 ≤ mag DD t) (h2 : mag DD t ≤ 0x3FE921FB54442D18) (hs : sgn DD t = false) :
    0x3F10000000000000 ≤ mag DD (cosine t) ∧ mag DD (cosine t) ≤ ONE ∧ sgn DD (cosine t) = false := by
  have ht : mag DD t < top DD := Nat.lt_of_le_of_lt h2 (by decide)
  obtain ⟨z, hz⟩ : ∃ z, z = mul DD t t := ⟨_, rfl⟩
  have z1 := mul_le sD ht ht (c := 0x3FE4000000000000) (by decide) (by
    have := val_le (F := DD) h2
    have e : val DD 0x3FE921FB54442D18 * val DD 0x3FE921FB54442D18 ≤ val DD 0x3FE4000000000000 * 2 ^ LL DD := by decide +kernel
    exact Nat.le_trans (Nat.mul_le_mul this this) e)
  have z2 := mul_ge sD ht ht (c := 0x3E50000000000000) (by decide) (by
    have := val_le (F := DD) h1
    have e : val DD 0x3E50000000000000 * 2 ^ LL DD ≤ val DD 0x3F20000000000000 * val DD 0x3F20000000000000 := by decide +kernel
    exact Nat.le_trans e (Nat.mul_le_mul this this))
  rw [← hz] at z1 z2
  have sz : sgn DD z = false := by rw [z1.2, hs]; rfl
  have zt : mag DD z < top DD := Nat.lt_of_le_of_lt z1.1 (by decide)
  have hC := cosine_sum z1.1
  obtain ⟨C, eC⟩ : ∃ C, C = horner z COSINE := ⟨_, rfl⟩
  rw [← eC] at hC
  have Ct : mag DD C < top DD := Nat.lt_of_le_of_lt hC (by decide)
  have vz : val DD (mag DD z) ≤ 2 ^ LL DD := Nat.le_trans (val_le z1.1) (by decide +kernel)
  have u1 := (mul_le sD zt zt zt (Nat.mul_le_mul_left _ vz)).1
  have ut : mag DD (mul DD z z) < top DD := by omega
  have vC := val_le (F := DD) hC
  have vu := val_le (F := DD) u1
  have hPW : 2 * PW DD ≤ mag DD z := Nat.le_trans (by decide) z2
  have half := val_half hPW
  have w1 := (mul_le sD ut Ct (c := mag DD z - PW DD) (by omega) (by
    have e : 2 * val DD 0x3FB0000000000000 ≤ 2 ^ LL DD := by decide +kernel
    have q1 : val DD (mag DD (mul DD z z)) * val DD (mag DD C) ≤ val DD (mag DD z) * val DD 0x3FB0000000000000 := Nat.mul_le_mul vu vC
    refine Nat.le_trans q1 ?_
    rw [← half, Nat.mul_comm 2, Nat.mul_assoc]
    exact Nat.mul_le_mul_left _ e)).1
  obtain ⟨v, hv⟩ : ∃ v, v = mul DD (mul DD z z) C := ⟨_, rfl⟩
  rw [← hv] at w1
  have vt : mag DD v < top DD := by omega
  have vlt : v < 2 * HB DD := by rw [hv]; exact mul_lt sD.ok _ _
  have hh := mul_exact sD zt (b := HALF) (by decide) (c := mag DD z - PW DD) (by omega) (by
    have e : val DD (mag DD HALF) * 2 = 2 ^ LL DD := by decide +kernel
    rw [← half, ← e, Nat.mul_comm 2, Nat.mul_assoc, Nat.mul_comm 2])
  have hhs := (mul_le sD zt (b := HALF) (by decide) (c := mag DD z) zt (by
    have e : val DD (mag DD HALF) ≤ 2 ^ LL DD := by decide +kernel
    exact Nat.mul_le_mul_left _ e)).2
  obtain ⟨y, hy⟩ : ∃ y, y = mul DD z HALF := ⟨_, rfl⟩
  rw [← hy] at hh hhs
  have sy : sgn DD y = false := by rw [hhs, sz]; rfl
  have yt : mag DD y < top DD := by omega
  obtain ⟨v', ev, v'lt, mv, sv, vv⟩ := sub_VV (a := y) sD vlt
  have Vy := VV_pos sy
  have Vv := VV_abs (F := DD) v
  have x1 := val_le (F := DD) w1
  rw [hh] at Vy
  have v't : mag DD v' < top DD := by omega
  have wpos := add_pos sD yt v't (.inl sy) (by omega)
  have c1 : val DD 0x3FE4000000000000 ≤ val DD 0x3FE4000000000000 := Nat.le_refl _
  have vz2 := val_le (F := DD) z1.1
  have wle := add_le sD yt v't (c := 0x3FE4000000000000) (by decide) (by omega)
  obtain ⟨w, hw⟩ : ∃ w, w = sub DD y v := ⟨_, rfl⟩
  rw [← ev, ← hw] at wpos wle
  have wlt : w < 2 * HB DD := by rw [hw, ev]; exact add_lt sD.ok _ _
  have wt : mag DD w < top DD := Nat.lt_of_le_of_lt wle (by decide)
  obtain ⟨w', ew, w'lt, mw, sw, vw⟩ := sub_VV (a := ONE) sD wlt
  have Vw := VV_pos wpos
  have V1 : VV DD ONE = (val DD ONE : Nat) := by decide +kernel
  have w't : mag DD w' < top DD := by omega
  have wv := val_le (F := DD) wle
  have c2 : val DD 0x3F10000000000000 + val DD 0x3FE4000000000000 ≤ val DD ONE := by decide +kernel
  have c3 : 0 < val DD 0x3F10000000000000 := by decide +kernel
  have e : cosine t = add DD ONE w' := by rw [← ew, hw, hy, hv, eC, hz]; rfl
  rw [e]
  have g := add_ge sD (a := ONE) (by decide) w't (c := 0x3F10000000000000) (by decide) (by omega) (by omega)
  exact ⟨g.1, add_le sD (a := ONE) (by decide) w't (by decide) (by omega), g.2⟩
theorem ROOT_bd : 0x3F10000000000000 ≤ mag DD ROOT ∧ mag DD ROOT ≤ ONE ∧ sgn DD ROOT = false := by decide
theorem within_bd {n r : Nat} (h0 : 0 < r) (h1 : r < n) (h2 : n ≤ 8192) : (0x3F10000000000000 ≤ mag DD (within n r).1 ∧ mag DD (within n r).1 ≤ ONE ∧ sgn DD (within n r).1 = false) ∧ (0x3F10000000000000 ≤ mag DD (within n r).2 ∧ mag DD (within n r).2 ≤ ONE ∧ sgn DD (within n r).2 = false) := by
  unfold within
  by_cases c1 : 2 * r = n
  · rw [if_pos c1]; exact ⟨ROOT_bd, ROOT_bd⟩
  rw [if_neg c1]
  by_cases c2 : 2 * r < n
  · rw [if_pos c2]
    obtain ⟨s1, s2, s3, _⟩ := share_bd h0 (show 2 * r ≤ n by omega) h2
    exact ⟨cosine_bd s1 s2 s3, sine_bd s1 s2 s3⟩
  · rw [if_neg c2]
    obtain ⟨s1, s2, s3, _⟩ := share_bd (r := n - r) (by omega) (show 2 * (n - r) ≤ n by omega) h2
    exact ⟨sine_bd s1 s2 s3, cosine_bd s1 s2 s3⟩
end Sig
set_option linter.all false
namespace Sig
open Sp18
open Sp18Neutral (fmt nats)
variable {F : Format} {a b c : Nat}
theorem convert_self (hF : Std F) (ha : a < 2 * HB F) (h : mag F a ≤ top F) : convert F F a = a := by
  rw [conv_eq F F a hF.ok, if_neg (by omega)]
  have s := bits_split ha
  by_cases c1 : mag F a = 0
  · rw [if_pos c1]; omega
  rw [if_neg c1]
  by_cases c2 : mag F a = top F
  · rw [if_pos c2]; omega
  rw [if_neg c2, round_sz]
  have hm : 0 < mant F (mag F a) := Nat.pos_of_ne_zero fun q => c1 (mant_zero.mp q)
  have key := near_round hF.ok hm (expo F (mag F a))
  have g := expo_ge F (mag F a)
  have a2 : (F.least - expo F (mag F a)).toNat = 0 := by omega
  have e : mant F (mag F a) * 2 ^ (expo F (mag F a) - F.least).toNat = val F (mag F a) * 2 ^ 0 := by rw [Nat.pow_zero, Nat.mul_one]; rfl
  rw [a2, e] at key
  rw [near_uniq key (near_self _ 0), Nat.min_eq_left h]
  omega
def Ok (a : Nat) : Prop := a < 2 * HB DD ∧ mag DD a ≤ top DD
theorem sine_lt (t : Nat) : sine t < 2 * HB DD := add_lt sD.ok _ _
theorem cosine_lt (t : Nat) : cosine t < 2 * HB DD := add_lt sD.ok _ _
theorem within_ok {n r : Nat} (h0 : 0 < r) (h1 : r < n) (h2 : n ≤ 8192) : Ok (within n r).1 ∧ Ok (within n r).2 := by
  obtain ⟨⟨_, a2, _⟩, ⟨_, b2, _⟩⟩ := within_bd h0 h1 h2
  have o : ONE ≤ top DD := by decide
  have e : (within n r).1 < 2 * HB DD ∧ (within n r).2 < 2 * HB DD := by
    unfold within
    split
    · decide
    · split
      · exact ⟨cosine_lt _, sine_lt _⟩
      · exact ⟨sine_lt _, cosine_lt _⟩
  exact ⟨⟨e.1, Nat.le_trans a2 o⟩, ⟨e.2, Nat.le_trans b2 o⟩⟩
def quarter (q : Nat) : C := [(ONE, 0), (0, ONE), (neg double ONE, 0), (0, neg double ONE)].getD q (ONE, 0)
theorem angle_eq (n j : Nat) : angle n j = if 4 * j % n = 0 then quarter (4 * j / n % 4) else
    if 4 * j / n % 4 = 0 then within n (4 * j % n) else if 4 * j / n % 4 = 1 then (neg double (within n (4 * j % n)).2, (within n (4 * j % n)).1) else if 4 * j / n % 4 = 2 then (neg double (within n (4 * j % n)).1, neg double (within n (4 * j % n)).2) else ((within n (4 * j % n)).2, neg double (within n (4 * j % n)).1) := rfl
theorem ok_cc (h : Ok a) : signBit DD (!sgn DD a) + mag DD a = neg DD a := by
  rw [neg_eq sD.ok h.1, if_neg (by have := h.2; omega)]
end Sig
set_option linter.all false
namespace Sig
open Sp18
variable {F : Format} {a b c : Nat}
theorem ediv_of {x t h : Int} (hh : 0 < h) (h1 : t * h ≤ x) (h2 : x < t * h + h) : x / h = t := by
  apply Int.le_antisymm
  · have : x < (t + 1) * h := by rw [Int.add_mul, Int.one_mul]; exact h2
    have := Int.ediv_lt_of_lt_mul hh this
    omega
  · exact Int.le_ediv_of_mul_le hh h1
def keptOf (x : Int) (d : Nat) : Int :=
  if (x / 2 ^ (d - 1)) % 2 ≠ 0 ∧ ((x / 2 ^ (d - 1) + 1) / 2) % 2 ≠ 0 ∧ x / 2 ^ (d - 1) * 2 ^ (d - 1) = x then (x / 2 ^ (d - 1) + 1) / 2 - 1 else (x / 2 ^ (d - 1) + 1) / 2
theorem signed_f (m : Nat) : signed false m = (m : Int) := rfl
theorem signed_t (m : Nat) : signed true m = -(m : Int) := rfl
theorem kept_eq (x : Int) {d : Nat} (hd : 0 < d) : keptOf x d = signed (decide (x < 0)) (if 2 ^ d < 2 * (x.natAbs % 2 ^ d) ∨ (2 * (x.natAbs % 2 ^ d) = 2 ^ d ∧ x.natAbs / 2 ^ d % 2 = 1) then x.natAbs / 2 ^ d + 1 else x.natAbs / 2 ^ d) := by
  obtain ⟨h, hh⟩ : ∃ h : Nat, h = 2 ^ (d - 1) := ⟨_, rfl⟩
  have h0 : 0 < h := by rw [hh]; exact Nat.two_pow_pos _
  have e2 : 2 ^ d = 2 * h := by rw [hh, ← Nat.pow_succ']; congr 1; omega
  have eI : (2 : Int) ^ (d - 1) = (h : Int) := by rw [hh, Int.natCast_pow]; rfl
  unfold keptOf
  rw [eI, e2]
  obtain ⟨A, hA⟩ : ∃ A, A = x.natAbs := ⟨_, rfl⟩
  rw [← hA]
  obtain ⟨Q, hQ⟩ : ∃ Q, Q = A / (2 * h) := ⟨_, rfl⟩
  obtain ⟨r, hr⟩ : ∃ r, r = A % (2 * h) := ⟨_, rfl⟩
  have hdm := Nat.div_add_mod A (2 * h)
  have hlt := Nat.mod_lt A (show 0 < 2 * h by omega)
  rw [← hQ, ← hr] at hdm ⊢
  rw [← hr] at hlt
  obtain ⟨y, hy⟩ : ∃ y, y = h * Q := ⟨_, rfl⟩
  rw [Nat.mul_assoc, ← hy] at hdm
  have m0 : ∀ t : Int, t = 2 * (Q : Int) → t * (h : Int) = 2 * (y : Int) := fun t e => by rw [e, Int.mul_assoc, hy, Int.natCast_mul, Int.mul_comm (Q : Int)]
  have m1 : ∀ t : Int, t = 2 * (Q : Int) + 1 → t * (h : Int) = 2 * (y : Int) + h := fun t e => by rw [e, Int.add_mul, Int.one_mul, m0 _ rfl]
  have m2 : ∀ t : Int, t = -(2 * (Q : Int)) → t * (h : Int) = -(2 * (y : Int)) := fun t e => by rw [e, Int.neg_mul, m0 _ rfl]
  have m3 : ∀ t : Int, t = -(2 * (Q : Int) + 1) → t * (h : Int) = -(2 * (y : Int) + h) := fun t e => by rw [e, Int.neg_mul, m1 _ rfl]
  have m4 : ∀ t : Int, t = -(2 * (Q : Int) + 2) → t * (h : Int) = -(2 * (y : Int) + 2 * h) := fun t e => by
    rw [e, Int.neg_mul, Int.add_mul, m0 _ rfl]
  have hI : (0 : Int) < (h : Int) := by omega
  by_cases neg : x < 0
  · rw [decide_eq_true neg, signed_t]
    have hx : x = -(A : Int) := by omega
    rcases Nat.eq_zero_or_pos r with c0 | c0
    · have t : x / (h : Int) = -(2 * (Q : Int)) := ediv_of hI (by rw [m2 _ rfl]; omega) (by rw [m2 _ rfl]; omega)
      rw [t, if_neg (by omega), if_neg (by omega)]
      omega
    rcases Nat.lt_trichotomy r h with c1 | c1 | c1
    · have t : x / (h : Int) = -(2 * (Q : Int) + 1) := ediv_of hI (by rw [m3 _ rfl]; omega) (by rw [m3 _ rfl]; omega)
      rw [t, m3 _ rfl, if_neg (by omega), if_neg (by omega)]
      omega
    · have t : x / (h : Int) = -(2 * (Q : Int) + 1) := ediv_of hI (by rw [m3 _ rfl]; omega) (by rw [m3 _ rfl]; omega)
      rw [t, m3 _ rfl]
      by_cases o : Q % 2 = 1
      · rw [if_pos (by omega), if_pos (by omega)]; omega
      · rw [if_neg (by omega), if_neg (by omega)]; omega
    · have t : x / (h : Int) = -(2 * (Q : Int) + 2) := ediv_of hI (by rw [m4 _ rfl]; omega) (by rw [m4 _ rfl]; omega)
      rw [t, if_neg (by omega), if_pos (by omega)]
      omega
  · rw [decide_eq_false neg, signed_f]
    have hx : x = (A : Int) := by omega
    rcases Nat.lt_trichotomy r h with c1 | c1 | c1
    · have t : x / (h : Int) = 2 * (Q : Int) := ediv_of hI (by rw [m0 _ rfl]; omega) (by rw [m0 _ rfl]; omega)
      rw [t, if_neg (by omega), if_neg (by omega)]
      omega
    · have t : x / (h : Int) = 2 * (Q : Int) + 1 := ediv_of hI (by rw [m1 _ rfl]; omega) (by rw [m1 _ rfl]; omega)
      rw [t, m1 _ rfl]
      by_cases o : Q % 2 = 1
      · rw [if_neg (by omega), if_pos (by omega)]; omega
      · rw [if_pos (by omega), if_neg (by omega)]; omega
    · have t : x / (h : Int) = 2 * (Q : Int) + 1 := ediv_of hI (by rw [m1 _ rfl]; omega) (by rw [m1 _ rfl]; omega)
      rw [t, m1 _ rfl, if_neg (by omega), if_pos (by omega)]
      omega
def bitsOf (x : Int) : Nat := if x = 0 then 0 else Nat.log2 x.natAbs + 1
def dropF (x : Int) (w q : Nat) : Nat := if bitsOf x < w + (q + 64) then q + 64 else bitsOf x - w
def fitV (x : Int) (w q : Nat) : Int := if keptOf x (dropF x w q) = 0 then (if x < 0 then -1 else 1) else keptOf x (dropF x w q) * 2 ^ (dropF x w q - q)
def spreadOf (s : Bool) (v : Nat) : Int := if v = 0 then (if s = true then -1 else 1) else signed s (v * 2 ^ 64)
theorem fit_near (hF : Std F) (x : Int) (q : Nat) {S : Nat} (h : near F S x.natAbs (q + 64)) : fitV x F.p q = spreadOf (decide (x < 0)) (val F S) ∧ dropF x F.p q ≤ bitsOf x + q + 64 ∧ (keptOf x (dropF x F.p q)).natAbs ≤ 2 * PW F := by
  have hp := hF.ok.hp
  have hp2 := two_p hF.ok
  obtain ⟨d, hd⟩ : ∃ d, d = dropF x F.p q := ⟨_, rfl⟩
  obtain ⟨U, hU⟩ : ∃ U, d = U + (q + 64) := by
    refine ⟨d - (q + 64), ?_⟩
    unfold dropF at hd
    split at hd <;> omega
  have hd0 : 0 < d := by omega
  have key := kept_eq x hd0
  obtain ⟨A, hA⟩ : ∃ A, A = x.natAbs := ⟨_, rfl⟩
  rw [← hA] at key h
  have hQ : A / 2 ^ d < 2 * PW F := by
    rw [Nat.div_lt_iff_lt_mul (Nat.two_pow_pos d), ← hp2, ← Nat.pow_add]
    rcases Nat.eq_zero_or_pos A with z | z
    · rw [z]; exact Nat.two_pow_pos _
    · refine Nat.lt_of_lt_of_le Nat.lt_log2_self (Nat.pow_le_pow_right (by decide) ?_)
      have hb : bitsOf x = Nat.log2 A + 1 := by unfold bitsOf; rw [if_neg (by omega), hA]
      unfold dropF at hd
      split at hd <;> omega
  have hUQ : U = 0 ∨ PW F ≤ A / 2 ^ d := by
    unfold dropF at hd
    split at hd
    · left; omega
    · next c =>
      right
      have z : 0 < A := by
        rcases Nat.eq_zero_or_pos A with z | z
        · have : bitsOf x = 0 := by unfold bitsOf; rw [if_pos (by omega)]
          omega
        · exact z
      have hb : bitsOf x = Nat.log2 A + 1 := by unfold bitsOf; rw [if_neg (by omega), hA]
      rw [Nat.le_div_iff_mul_le (Nat.two_pow_pos d)]
      unfold PW
      rw [← Nat.pow_add]
      exact Nat.le_trans (Nat.pow_le_pow_right (by decide) (by omega)) (Nat.log2_self_le (by omega))
  have core := near_core hF.ok (U := U) (q := A / 2 ^ d) (r := A % 2 ^ d) (d := d) (Nat.mod_lt _ (Nat.two_pow_pos d)) hd0 hQ hUQ
  obtain ⟨m, hm⟩ : ∃ m, m = (if 2 ^ d < 2 * (A % 2 ^ d) ∨ (2 * (A % 2 ^ d) = 2 ^ d ∧ A / 2 ^ d % 2 = 1) then A / 2 ^ d + 1 else A / 2 ^ d) := ⟨_, rfl⟩
  rw [← hm] at core key
  have en : A / 2 ^ d * 2 ^ d + A % 2 ^ d = A := by rw [Nat.mul_comm]; exact Nat.div_add_mod A _
  rw [en] at core
  have core2 : near F (U * PW F + m) A (q + 64) := by
    rw [near_scale U, Nat.add_comm (q + 64) U, ← hU]
    exact core
  have eS := near_uniq h core2
  have hm2 : m ≤ 2 * PW F := by
    rw [hm]; split <;> omega
  have hmU : U = 0 ∨ PW F ≤ m := by
    rcases hUQ with z | z
    · exact .inl z
    · right; rw [hm]; split <;> omega
  have v := val_pack (F := F) (U := U) hm2 hmU
  rw [← eS] at v
  rw [← hd]
  have hka : (keptOf x d).natAbs = m := by
    rw [key]; unfold signed; split
    · rw [Int.natAbs_neg, Int.natAbs_natCast]
    · exact Int.natAbs_natCast _
  refine ⟨?_, ?_, by omega⟩
  · unfold fitV spreadOf
    rw [← hd, v]
    by_cases z : m = 0
    · rw [if_pos (show keptOf x d = 0 by omega), if_pos (show m * 2 ^ U = 0 by rw [z, Nat.zero_mul])]
      by_cases n : x < 0
      · rw [if_pos n, if_pos (decide_eq_true n)]
      · rw [if_neg n, if_neg (by rw [decide_eq_false n]; decide)]
    · have zz : m * 2 ^ U ≠ 0 := Nat.mul_ne_zero z (Nat.pos_iff_ne_zero.mp (Nat.two_pow_pos U))
      rw [if_neg (by omega), if_neg zz, key]
      have e3 : d - q = U + 64 := by omega
      rw [e3]
      have e4 : ((m * 2 ^ U * 2 ^ 64 : Nat) : Int) = (m : Int) * 2 ^ (U + 64) := by
        rw [Nat.mul_assoc, ← Nat.pow_add, Int.natCast_mul, Int.natCast_pow]; rfl
      unfold signed
      split
      · rw [Int.neg_mul, e4]
      · rw [e4]
  · rw [hd]; unfold dropF; split <;> omega
def NN (F : Format) (b : Nat) : Int := spreadOf (sgn F b) (val F (mag F b))
theorem val_eq_zero {F : Format} {m : Nat} : val F m = 0 ↔ m = 0 := by
  constructor
  · intro h
    rcases Nat.eq_zero_or_pos m with z | z
    · exact z
    · have := val_mono (F := F) z
      rw [val_zero] at this
      omega
  · intro h; rw [h, val_zero]
theorem NN_of (hF : Fmt F) (s : Bool) {m : Nat} (h : m < HB F) : NN F (signBit F s + m) = spreadOf s (val F m) := by
  unfold NN
  rw [sgn_of h, mag_of h]
theorem NN_eq (b : Nat) : (mag F b = 0 ∧ NN F b = (if sgn F b = true then -1 else 1) ∧ VV F b = 0) ∨ (mag F b ≠ 0 ∧ NN F b = VV F b * 2 ^ 64 ∧ VV F b ≠ 0) := by
  by_cases z : mag F b = 0
  · left
    refine ⟨z, ?_, ?_⟩
    · unfold NN spreadOf; rw [z, val_zero, if_pos rfl]
    · unfold VV signed; rw [z, val_zero]; split <;> rfl
  · right
    have hv : val F (mag F b) ≠ 0 := fun q => z (val_eq_zero.mp q)
    refine ⟨z, ?_, ?_⟩
    · unfold NN spreadOf VV signed; rw [if_neg hv]
      split
      · rw [Int.neg_mul, Int.natCast_mul]; rfl
      · rw [Int.natCast_mul]; rfl
    · unfold VV signed; split <;> omega
theorem near_eps {S : Nat} (hS : S ≠ 0) {x : Nat} (h : x = val F S * 2 ^ 64 + 1 ∨ x + 1 = val F S * 2 ^ 64) : near F S x 64 := by
  unfold near
  have hK2 : 2 < 2 ^ 64 := by decide
  generalize 2 ^ 64 = K at h hK2 ⊢
  have h1 := val_step F S
  have e : ∀ T, S = T + 1 → (val F T + val F S) * K + K ≤ (val F S + val F S) * K := fun T hT => by
    have h2 : val F T + 1 ≤ val F S := by rw [hT]; exact val_step F T
    have := Nat.mul_le_mul_right K (show val F T + val F S + 1 ≤ val F S + val F S by omega)
    rw [Nat.add_mul (val F T + val F S), Nat.one_mul] at this
    exact this
  have e1 : (val F S + val F S) * K + K ≤ (val F S + val F (S + 1)) * K := by
    have := Nat.mul_le_mul_right K (show val F S + val F S + 1 ≤ val F S + val F (S + 1) by omega)
    rw [Nat.add_mul (val F S + val F S), Nat.one_mul] at this
    exact this
  have e2 : (val F S + val F S) * K = val F S * K + val F S * K := Nat.add_mul _ _ _
  refine ⟨⟨by omega, fun z => by omega⟩, fun T hT => ?_⟩
  have := e T hT
  exact ⟨by omega, fun z => by omega⟩
theorem val_one (hF : Fmt F) : val F 1 = 1 := by
  have h : 1 < PW F := by
    have := hF.hp
    unfold PW
    exact Nat.one_lt_two_pow (by omega)
  rw [val_eq, if_pos (Nat.div_eq_of_lt h), Nat.mod_eq_of_lt h]
theorem near_zero (hF : Fmt F) {x k : Nat} (h : 2 * x < 2 ^ k) : near F 0 x k := by
  have v1 := val_one hF
  have v0 := val_zero F
  have e : (val F 0 + val F (0 + 1)) * 2 ^ k = 2 ^ k := by
    rw [v0, Nat.zero_add, Nat.zero_add, v1, Nat.one_mul]
  refine ⟨?_, fun T hT => by omega⟩
  rw [e]
  exact ⟨by omega, fun z => by omega⟩
end Sig
set_option linter.all false
namespace Sig
open Sp18
variable {F : Format} {a b c : Nat}
theorem NN_min (hF : Std F) {s : Bool} {S : Nat} (h : S < top F) : NN F (signBit F s + min S (top F)) = spreadOf s (val F S) := by
  have ht := top_lt hF.ok
  rw [Nat.min_eq_left (by omega), NN_of hF.ok s (by omega)]
theorem plus_NN (hF : Std F) (h1 : mag F a < top F) (h2 : mag F b < top F) (hr : mag F (add F a b) < top F) : fitV (NN F a + NN F b) F.p 0 = NN F (add F a b) := by
  have ht := top_lt hF.ok
  have zero : ∀ x : Int, x.natAbs ≤ 2 → fitV x F.p 0 = (if x < 0 then -1 else 1) := fun x hx => by
    have n0 : near F 0 x.natAbs (0 + 64) := near_zero hF.ok (by omega)
    rw [(fit_near hF x 0 n0).1]
    unfold spreadOf
    rw [val_zero, if_pos rfl]
    by_cases c : x < 0
    · rw [if_pos c, if_pos (decide_eq_true c)]
    · rw [if_neg c, if_neg (by rw [decide_eq_false c]; decide)]
  have Ea := NN_eq (F := F) a
  have Eb := NN_eq (F := F) b
  have K2 : (0 : Int) < 2 ^ 64 := by decide
  rcases add_near hF h1 h2 with ⟨w0, e⟩ | ⟨w0, S, e, n⟩
  ·
    have hn : NN F (add F a b) = (if (sgn F a && sgn F b) = true then -1 else 1) := by
      rw [e, ← Nat.add_zero (signBit F _), NN_of hF.ok _ (hb_pos F)]
      unfold spreadOf
      rw [val_zero, if_pos rfl]
    rw [hn]
    rcases Ea with ⟨a1, a2, a3⟩ | ⟨a1, a2, a3⟩ <;> rcases Eb with ⟨b1, b2, b3⟩ | ⟨b1, b2, b3⟩
    · rw [a2, b2, zero _ (by cases sgn F a <;> cases sgn F b <;> decide)]
      cases sgn F a <;> cases sgn F b <;> decide
    · omega
    · omega
    · have hs : sgn F a = sgn F b → False := fun hs => by
        unfold VV signed at w0 a3 b3
        rw [hs] at w0 a3
        cases hb : sgn F b <;> rw [hb] at w0 a3 b3 <;> simp at w0 a3 b3 <;> omega
      have : NN F a + NN F b = 0 := by rw [a2, b2, ← Int.add_mul, w0, Int.zero_mul]
      rw [this, zero 0 (by decide)]
      cases ha : sgn F a <;> cases hb : sgn F b
      · rfl
      · rfl
      · rfl
      · exact (hs (by rw [ha, hb])).elim
  · have hS : S < top F := by
      rw [e, mag_of (min_lt2 hF.ok S)] at hr
      omega
    rw [e, NN_min hF hS]
    have sgnx : ∀ x : Int, (x = (VV F a + VV F b) * 2 ^ 64 ∨ x = (VV F a + VV F b) * 2 ^ 64 + 1 ∨ x = (VV F a + VV F b) * 2 ^ 64 - 1) → decide (x < 0) = decide (VV F a + VV F b < 0) := fun x hx => by
      rw [decide_eq_decide]
      generalize VV F a + VV F b = W at w0 hx
      have hk : (2 : Int) ^ 64 = 18446744073709551616 := by decide
      rw [hk] at hx
      omega
    rcases Ea with ⟨a1, a2, a3⟩ | ⟨a1, a2, a3⟩ <;> rcases Eb with ⟨b1, b2, b3⟩ | ⟨b1, b2, b3⟩
    · omega
    ·
      have eS : S = mag F b := by
        have vb := VV_abs (F := F) b
        rw [a3, Int.zero_add, vb] at n
        have := near_self (F := F) (mag F b) 0
        rw [Nat.pow_zero, Nat.mul_one] at this
        exact near_uniq n this
      have hx : (NN F a + NN F b) = (VV F a + VV F b) * 2 ^ 64 + 1 ∨ (NN F a + NN F b) = (VV F a + VV F b) * 2 ^ 64 - 1 := by
        rw [a2, b2, a3, Int.zero_add]; split <;> omega
      have vb := VV_abs (F := F) b
      have nn : near F S (NN F a + NN F b).natAbs (0 + 64) := by
        rw [eS]
        refine near_eps (by omega) ?_
        have q : ((VV F b) * 2 ^ 64).natAbs = val F (mag F b) * 2 ^ 64 := by rw [Int.natAbs_mul, vb]; rfl
        have q2 : VV F b * 2 ^ 64 ≠ 0 := Int.mul_ne_zero b3 (by decide)
        have q3 : 1 < (VV F b * 2 ^ 64).natAbs := by
          rw [q]
          have : 1 ≤ val F (mag F b) := by omega
          have := Nat.mul_le_mul_right (2 ^ 64) this
          omega
        rw [a3, Int.zero_add] at hx
        rw [← q]
        omega
      rw [(fit_near hF _ 0 nn).1, sgnx _ (by omega)]
    · have eS : S = mag F a := by
        have va := VV_abs (F := F) a
        rw [b3, Int.add_zero, va] at n
        have := near_self (F := F) (mag F a) 0
        rw [Nat.pow_zero, Nat.mul_one] at this
        exact near_uniq n this
      have hx : (NN F a + NN F b) = (VV F a + VV F b) * 2 ^ 64 + 1 ∨ (NN F a + NN F b) = (VV F a + VV F b) * 2 ^ 64 - 1 := by
        rw [a2, b2, b3, Int.add_zero]; split <;> omega
      have va := VV_abs (F := F) a
      have nn : near F S (NN F a + NN F b).natAbs (0 + 64) := by
        rw [eS]
        refine near_eps (by omega) ?_
        have q : ((VV F a) * 2 ^ 64).natAbs = val F (mag F a) * 2 ^ 64 := by rw [Int.natAbs_mul, va]; rfl
        have q2 : VV F a * 2 ^ 64 ≠ 0 := Int.mul_ne_zero a3 (by decide)
        have q3 : 1 < (VV F a * 2 ^ 64).natAbs := by
          rw [q]
          have : 1 ≤ val F (mag F a) := by omega
          have := Nat.mul_le_mul_right (2 ^ 64) this
          omega
        rw [b3, Int.add_zero] at hx
        rw [← q]
        omega
      rw [(fit_near hF _ 0 nn).1, sgnx _ (by omega)]
    · have hx : NN F a + NN F b = (VV F a + VV F b) * 2 ^ 64 := by rw [a2, b2, Int.add_mul]
      have nn : near F S (NN F a + NN F b).natAbs (0 + 64) := by
        rw [hx, Int.natAbs_mul]
        exact (near_scale 64).mp n
      rw [(fit_near hF _ 0 nn).1, sgnx _ (.inl hx)]
def cntF (F : Format) (q : Nat) (c : Nat) : Int := signed (sgn F c) (mant F (mag F c) * 2 ^ (expo F (mag F c) + q).toNat)
theorem cnt_val (hF : Std F) {q : Nat} (hq : q ≤ LL F) (h : 0 ≤ expo F (mag F c) + q) : (cntF F q c).natAbs * 2 ^ (LL F - q) = val F (mag F c) := by
  have : (cntF F q c).natAbs = mant F (mag F c) * 2 ^ (expo F (mag F c) + q).toNat := by
    unfold cntF signed; split
    · rw [Int.natAbs_neg, Int.natAbs_natCast]
    · exact Int.natAbs_natCast _
  rw [this]
  unfold val
  rw [Nat.mul_assoc, ← Nat.pow_add]
  congr 2
  have := least_neg hF
  unfold LL at *
  omega
theorem times_NN (hF : Std F) {q : Nat} (hq : q ≤ LL F) (h1 : mag F a < top F) (h2 : mag F c < top F) (hc : 0 ≤ expo F (mag F c) + q) (hc0 : mag F c ≠ 0) (hc1 : (cntF F q c).natAbs < 2 ^ (q + 60)) (hr : mag F (mul F a c) < top F) :
    fitV (NN F a * cntF F q c) F.p q = NN F (mul F a c) := by
  obtain ⟨S, e, n⟩ := mul_near hF h1 h2
  have hS : S < top F := by
    rw [e, mag_of (min_lt2 hF.ok S)] at hr
    omega
  have cv := cnt_val hF hq hc
  have c0 : (cntF F q c).natAbs ≠ 0 := fun z => by
    rw [z, Nat.zero_mul] at cv
    exact hc0 (val_eq_zero.mp cv.symm)
  have sc : decide (cntF F q c < 0) = sgn F c := by
    unfold cntF signed at c0 ⊢
    cases hs : sgn F c with
    | true => rw [hs, if_pos rfl] at c0; rw [if_pos rfl]; exact decide_eq_true (by omega)
    | false => rw [hs, if_neg (by decide)] at c0; rw [if_neg (by decide)]; exact decide_eq_false (by omega)
  rw [e, NN_min hF hS]
  have n2 : near F S (val F (mag F a) * (cntF F q c).natAbs) q := by
    rw [near_scale (LL F - q), Nat.mul_assoc, cv, show q + (LL F - q) = LL F by omega]
    exact n
  rcases NN_eq (F := F) a with ⟨a1, a2, a3⟩ | ⟨a1, a2, a3⟩
  ·
    have s0 : S = 0 := by
      rw [a1, val_zero, Nat.zero_mul] at n2
      have := near_self (F := F) 0 q
      rw [val_zero, Nat.zero_mul] at this
      exact near_uniq n2 this
    have hx : (NN F a * cntF F q c).natAbs = (cntF F q c).natAbs := by
      rw [a2, Int.natAbs_mul]; split <;> simp
    have nn : near F S (NN F a * cntF F q c).natAbs (q + 64) := by
      rw [s0, hx]
      refine near_zero hF.ok ?_
      have : 2 ^ (q + 64) = 2 ^ (q + 60) * 2 ^ 4 := by rw [← Nat.pow_add]
      omega
    rw [(fit_near hF _ q nn).1]
    congr 1
    rw [← sc, a2]
    cases sgn F a with
    | true =>
      rw [if_pos rfl]
      by_cases z : cntF F q c < 0
      · rw [decide_eq_true z, decide_eq_false (by omega)]; rfl
      · rw [decide_eq_false z, decide_eq_true (by omega)]; rfl
    | false =>
      rw [if_neg (by decide), Int.one_mul]
      cases decide (cntF F q c < 0) <;> rfl
  · have va := VV_abs (F := F) a
    have hx : (NN F a * cntF F q c).natAbs = val F (mag F a) * (cntF F q c).natAbs * 2 ^ 64 := by
      rw [a2, Int.natAbs_mul, Int.natAbs_mul, va]
      show val F (mag F a) * 2 ^ 64 * _ = _
      rw [Nat.mul_assoc, Nat.mul_comm (2 ^ 64), ← Nat.mul_assoc]
    have nn : near F S (NN F a * cntF F q c).natAbs (q + 64) := by
      rw [hx]
      exact (near_scale 64).mp n2
    rw [(fit_near hF _ q nn).1]
    congr 1
    rw [← sc, a2]
    have sa : sgn F a = decide (VV F a < 0) := by
      unfold VV signed at a3 ⊢
      cases hs : sgn F a with
      | true => rw [hs, if_pos rfl] at a3; rw [if_pos rfl]; exact (decide_eq_true (by omega)).symm
      | false => rw [hs, if_neg (by decide)] at a3; rw [if_neg (by decide)]; exact (decide_eq_false (by omega)).symm
    rw [sa]
    have k0 : (0 : Int) < 2 ^ 64 := by decide
    have c00 : cntF F q c ≠ 0 := by omega
    rcases Int.lt_or_lt_of_ne a3 with x1 | x1 <;> rcases Int.lt_or_lt_of_ne c00 with x2 | x2
    · have y : VV F a * 2 ^ 64 < 0 := Int.mul_neg_of_neg_of_pos x1 k0
      rw [decide_eq_true x1, decide_eq_true x2, decide_eq_false (p := VV F a * 2 ^ 64 * cntF F q c < 0) (by have := Int.mul_pos_of_neg_of_neg y x2; omega)]; rfl
    · have y : VV F a * 2 ^ 64 < 0 := Int.mul_neg_of_neg_of_pos x1 k0
      rw [decide_eq_true x1, decide_eq_false (p := cntF F q c < 0) (by omega), decide_eq_true (Int.mul_neg_of_neg_of_pos y x2)]; rfl
    · have y : 0 < VV F a * 2 ^ 64 := Int.mul_pos x1 k0
      rw [decide_eq_false (p := VV F a < 0) (by omega), decide_eq_true x2, decide_eq_true (Int.mul_neg_of_pos_of_neg y x2)]; rfl
    · have y : 0 < VV F a * 2 ^ 64 := Int.mul_pos x1 k0
      rw [decide_eq_false (p := VV F a < 0) (by omega), decide_eq_false (p := cntF F q c < 0) (by omega), decide_eq_false (by have := Int.mul_pos y x2; omega)]; rfl
theorem minus_NN (hF : Std F) (hb : b < 2 * HB F) (h : mag F b ≤ top F) : NN F (neg F b) = - NN F b := by
  obtain ⟨s, m⟩ := of_neg hF.ok hb (show ¬ top F < mag F b by omega)
  unfold NN spreadOf signed
  rw [s, m]
  cases sgn F b <;> split <;> simp
end Sig
set_option linter.all false
namespace Sig
open Sp18
open Sp18Neutral (fmt)
variable {F : Format} {a b c : Nat}
def quo (F : Format) (s : Bool) (r n g : Nat) : Nat := round F s (r * 2 ^ g / n) (-(g : Int)) (r * 2 ^ g % n != 0)
theorem quo_step (hF : Fmt F) {s : Bool} {r n g : Nat} (hn : 0 < n) (h : 2 ^ F.p ≤ r * 2 ^ g / n) : quo F s r n (g + 1) = quo F s r n g := by
  unfold quo
  have key := div_step hF (s := s) (A := r * 2 ^ g) (n := n) (e := -(g : Int)) hn h
  have e1 : r * 2 ^ (g + 1) = 2 * (r * 2 ^ g) := by rw [Nat.pow_succ, ← Nat.mul_assoc, Nat.mul_comm]
  rw [e1]
  have e2 : -((g + 1 : Nat) : Int) = -(g : Int) - 1 := by omega
  rw [e2]
  exact key
theorem quo_places (hF : Fmt F) {s : Bool} {r n g : Nat} (hn : 0 < n) (h : 2 ^ F.p ≤ r * 2 ^ g / n) : ∀ j, quo F s r n (g + j) = quo F s r n g
  | 0 => rfl
  | j + 1 => by
    have ih := quo_places hF (s := s) hn h j
    rw [← ih, ← Nat.add_assoc]
    refine quo_step hF hn (Nat.le_trans h (Nat.div_le_div_right (Nat.mul_le_mul_left _ (Nat.pow_le_pow_right (by decide) (by omega)))))
theorem bne_mul {x k : Nat} (hk : 0 < k) : (x * k != 0) = (x != 0) := by
  by_cases z : x = 0
  · rw [z, Nat.zero_mul]
  · have : x * k ≠ 0 := Nat.mul_ne_zero z (by omega)
    have a1 : (x * k != 0) = true := bne_iff_ne.mpr this
    have a2 : (x != 0) = true := bne_iff_ne.mpr z
    rw [a1, a2]
theorem quo_scale {s : Bool} {r n g k : Nat} (hk : 0 < k) : quo F s (r * k) (n * k) g = quo F s r n g := by
  unfold quo
  have e : r * k * 2 ^ g = r * 2 ^ g * k := by rw [Nat.mul_assoc, Nat.mul_comm k, ← Nat.mul_assoc]
  rw [e, Nat.mul_div_mul_right _ _ hk, Nat.mul_mod_mul_right, bne_mul hk]
theorem mant_ge {y : Nat} (h : 0 < (expo F y - F.least).toNat) : PW F ≤ mant F y := by
  unfold expo at h
  unfold mant
  split
  · next c => rw [if_pos c] at h; omega
  · omega
theorem div_quo (hF : Std F) {r n : Nat} (h0 : 0 < r) (hn : 0 < n) (hr : Nat.log2 r < F.p) (hn2 : Nat.log2 n < F.p) : div F (ofInt F (r : Int)) (ofInt F (n : Int)) = quo F false r n (2 * F.p + 40 + F.p) := by
  obtain ⟨a1, a2, a3⟩ := ofInt_val hF h0 hr
  obtain ⟨b1, b2, b3⟩ := ofInt_val hF hn hn2
  have ma := mag_small a1
  have mb := mag_small b1
  have hL : 0 < 2 ^ LL F := Nat.two_pow_pos _
  have za : mag F (ofInt F (r : Int)) ≠ 0 := fun z => by
    rw [ma] at z; rw [z, val_zero] at a2
    have : 0 < r * 2 ^ LL F := Nat.mul_pos h0 hL
    omega
  have zb : mag F (ofInt F (n : Int)) ≠ 0 := fun z => by
    rw [mb] at z; rw [z, val_zero] at b2
    have : 0 < n * 2 ^ LL F := Nat.mul_pos hn hL
    omega
  have sa : sgn F (ofInt F (r : Int)) = false := by have := sgn_mag F (ofInt F (r : Int)); rwa [ma] at this
  have sb : sgn F (ofInt F (n : Int)) = false := by have := sgn_mag F (ofInt F (n : Int)); rwa [mb] at this
  have mz : ¬ mant F (mag F (ofInt F (n : Int))) = 0 := fun z => zb (mant_zero.mp z)
  have mz2 : ¬ mant F (mag F (ofInt F (r : Int))) = 0 := fun z => za (mant_zero.mp z)
  unfold div
  rw [of_fin (show mag F (ofInt F (r : Int)) < top F by rw [ma]; exact a3), of_fin (show mag F (ofInt F (n : Int)) < top F by rw [mb]; exact b3)]
  dsimp only
  rw [if_neg mz, if_neg mz2, sa, sb, ma, mb]
  rw [ma] at za
  rw [mb] at zb
  obtain ⟨x, hx⟩ : ∃ x, x = ofInt F (r : Int) := ⟨_, rfl⟩
  obtain ⟨y, hy⟩ : ∃ y, y = ofInt F (n : Int) := ⟨_, rfl⟩
  rw [← hx] at a1 a2 za ⊢
  rw [← hy] at b1 b2 zb ⊢
  have ex := expo_ge F x
  have ey := expo_ge F y
  have ln := least_neg hF
  have mx := mant_bd hF x
  have my := mant_bd hF y
  have mx0 : 0 < mant F x := Nat.pos_of_ne_zero fun z => za (mant_zero.mp z)
  have my0 : 0 < mant F y := Nat.pos_of_ne_zero fun z => zb (mant_zero.mp z)
  have pb := p_bd hF
  unfold val at a2 b2
  obtain ⟨α, hα⟩ : ∃ α, α = (expo F x - F.least).toNat := ⟨_, rfl⟩
  obtain ⟨β, hβ⟩ : ∃ β, β = (expo F y - F.least).toNat := ⟨_, rfl⟩
  rw [← hα] at a2
  rw [← hβ] at b2
  obtain ⟨L, hL2⟩ : ∃ L, L = LL F := ⟨_, rfl⟩
  rw [← hL2] at a2 b2
  have hLi : (L : Int) = -F.least := by rw [hL2]; unfold LL; omega
  obtain ⟨G, hG⟩ : ∃ G : Nat, G = F.p + 2 + Nat.log2 (mant F y) := ⟨_, rfl⟩
  rw [← hG]
  have up : ∀ (m t k : Nat), 0 < m → t < 2 ^ F.p → m * 2 ^ k = t * 2 ^ L → k < L + F.p := fun m t k hm ht e => by
    rcases Nat.lt_or_ge k (L + F.p) with c | c
    · exact c
    · exfalso
      have q1 : 2 ^ (F.p + L) ≤ m * 2 ^ k := Nat.le_trans (Nat.pow_le_pow_right (by decide) (by omega)) (Nat.le_mul_of_pos_left _ hm)
      have q2 : t * 2 ^ L < 2 ^ F.p * 2 ^ L := Nat.mul_lt_mul_of_pos_right ht (Nat.two_pow_pos _)
      rw [← Nat.pow_add] at q2
      omega
  have r53 : r < 2 ^ F.p := (Nat.log2_lt (by omega)).mp hr
  have n53 : n < 2 ^ F.p := (Nat.log2_lt (by omega)).mp hn2
  have hα2 := up _ _ _ mx0 r53 a2
  have hβ2 := up _ _ _ my0 n53 b2
  have lowp : 2 ^ F.p ≤ r * 2 ^ (2 * F.p) / n := by
    rw [Nat.le_div_iff_mul_le hn]
    refine Nat.le_trans (Nat.mul_le_mul_left _ (Nat.le_of_lt n53)) ?_
    rw [← Nat.pow_add, show F.p + F.p = 2 * F.p by omega]
    exact Nat.le_mul_of_pos_left _ h0
  have lowα : L ≤ α + F.p := by
    rcases Nat.lt_or_ge (α + F.p) L with c | c
    · exfalso
      have q1 : mant F x * 2 ^ α < 2 ^ F.p * 2 ^ α := Nat.mul_lt_mul_of_pos_right (by have := mant_lt F x; have := two_p hF.ok; omega) (Nat.two_pow_pos _)
      have q2 : 2 ^ (F.p + α) ≤ r * 2 ^ L := Nat.le_trans (Nat.pow_le_pow_right (by decide) (by omega)) (Nat.le_mul_of_pos_left _ h0)
      rw [← Nat.pow_add] at q1
      omega
    · exact c
  have lowβ : L ≤ β + F.p := by
    rcases Nat.lt_or_ge (β + F.p) L with c | c
    · exfalso
      have q1 : mant F y * 2 ^ β < 2 ^ F.p * 2 ^ β := Nat.mul_lt_mul_of_pos_right (by have := mant_lt F y; have := two_p hF.ok; omega) (Nat.two_pow_pos _)
      have q2 : 2 ^ (F.p + β) ≤ n * 2 ^ L := Nat.le_trans (Nat.pow_le_pow_right (by decide) (by omega)) (Nat.le_mul_of_pos_left _ hn)
      rw [← Nat.pow_add] at q1
      omega
    · exact c
  have main : ∀ g : Nat, (g : Int) = (G : Int) + β - α → mant F x * 2 ^ G / mant F y = r * 2 ^ g / n ∧ ((mant F x * 2 ^ G % mant F y != 0) = (r * 2 ^ g % n != 0)) := fun g hg => by
    have e1 : mant F x * 2 ^ G * (2 ^ (α + β)) = r * 2 ^ g * (2 ^ (L + α)) := by
      rw [Nat.pow_add 2 α β]
      calc mant F x * 2 ^ G * (2 ^ α * 2 ^ β) = mant F x * 2 ^ α * (2 ^ G * 2 ^ β) := by
            generalize 2 ^ G = u; generalize 2 ^ α = v; generalize 2 ^ β = w
            rw [Nat.mul_assoc, Nat.mul_assoc, ← Nat.mul_assoc u v w, Nat.mul_comm u v, Nat.mul_assoc v u w]
        _ = r * 2 ^ L * 2 ^ (G + β) := by rw [a2, ← Nat.pow_add]
        _ = r * 2 ^ L * 2 ^ (g + α) := by congr 2; omega
        _ = r * 2 ^ g * 2 ^ (L + α) := by
            rw [Nat.pow_add, Nat.pow_add 2 L α]
            generalize 2 ^ g = u; generalize 2 ^ α = v; generalize 2 ^ L = w
            rw [Nat.mul_assoc, Nat.mul_assoc, ← Nat.mul_assoc w u v, Nat.mul_comm w u, Nat.mul_assoc u w v]
    have e2 : mant F y * 2 ^ (α + β) = n * 2 ^ (L + α) := by
      rw [Nat.add_comm α β, Nat.pow_add, ← Nat.mul_assoc, b2, Nat.mul_assoc, ← Nat.pow_add]
    have p1 : 0 < 2 ^ (α + β) := Nat.two_pow_pos _
    have p2 : 0 < 2 ^ (L + α) := Nat.two_pow_pos _
    refine ⟨?_, ?_⟩
    · rw [← Nat.mul_div_mul_right _ _ p1, e1, e2, Nat.mul_div_mul_right _ _ p2]
    · have m1 : mant F x * 2 ^ G % mant F y * 2 ^ (α + β) = r * 2 ^ g % n * 2 ^ (L + α) := by
        rw [← Nat.mul_mod_mul_right, ← Nat.mul_mod_mul_right, e1, e2]
      rw [← bne_mul p1, m1, bne_mul p2]
  have my1 : PW F ≤ mant F y := by
    rcases Nat.eq_zero_or_pos β with z | z
    · rw [z, Nat.pow_zero, Nat.mul_one] at b2
      rw [b2]
      refine Nat.le_trans ?_ (Nat.le_mul_of_pos_left _ hn)
      unfold PW
      refine Nat.pow_le_pow_right (by decide) ?_
      have : F.p - 1 ≤ LL F := by rcases hF with rfl | rfl <;> decide
      omega
    · exact mant_ge (by rw [← hβ]; exact z)
  have lgy : F.p - 1 ≤ Nat.log2 (mant F y) := by
    rw [Nat.le_log2 (by omega)]
    exact my1
  obtain ⟨g, hg⟩ : ∃ g : Nat, (g : Int) = (G : Int) + β - α := by
    refine ⟨((G : Int) + β - α).toNat, ?_⟩
    have h3 : (α : Int) ≤ β + 2 * F.p := by omega
    omega
  obtain ⟨m1, m2⟩ := main g hg
  have eq1 : round F (false != false) (mant F x * 2 ^ G / mant F y) (expo F x - expo F y - (G : Int)) (mant F x * 2 ^ G % mant F y != 0) = quo F false r n g := by
    unfold quo
    rw [m1, m2]
    have : expo F x - expo F y - (G : Int) = -(g : Int) := by omega
    rw [this]
    rfl
  rw [eq1]
  have lowg : 2 ^ F.p ≤ r * 2 ^ g / n := by
    rw [← m1, Nat.le_div_iff_mul_le my0]
    have q1 : mant F y < 2 ^ (Nat.log2 (mant F y) + 1) := Nat.lt_log2_self
    refine Nat.le_trans (Nat.mul_le_mul_left _ (Nat.le_of_lt q1)) ?_
    rw [← Nat.pow_add]
    exact Nat.le_trans (Nat.pow_le_pow_right (by decide) (by omega)) (Nat.le_mul_of_pos_left _ mx0)
  have t1 := quo_places hF.ok (s := false) hn lowg (2 * F.p + 40 + F.p + (2 * F.p) - g + g)
  have t2 := quo_places hF.ok (s := false) hn lowp (F.p + 40)
  have t3 := quo_places hF.ok (s := false) hn lowp (g + (2 * F.p + 40 + F.p + (2 * F.p) - g + g) - 2 * F.p)
  have e5 : 2 * F.p + (F.p + 40) = 2 * F.p + 40 + F.p := by omega
  rw [e5] at t2
  have e6 : 2 * F.p + (g + (2 * F.p + 40 + F.p + (2 * F.p) - g + g) - 2 * F.p) = g + (2 * F.p + 40 + F.p + (2 * F.p) - g + g) := by omega
  rw [e6] at t3
  rw [← t1, t3, t2]
end Sig
set_option linter.all false
set_option maxRecDepth 100000
namespace Sig
open Sp18
open Sp18Neutral (fmt)
variable {F : Format} {a b c : Nat}
theorem share_scale {r n k : Nat} (h0 : 0 < r) (hn : 0 < n) (hk : 0 < k) (h : n * k ≤ 8192) (hr : r ≤ n) : share (r * k) (n * k) = share r n := by
  have lg : ∀ x, x ≤ 8192 → Nat.log2 x < DD.p := fun x hx => Nat.lt_of_le_of_lt (log2_bd (k := 14) (show x < 2 ^ 14 by omega)) (by decide)
  have hnk : n ≤ n * k := Nat.le_mul_of_pos_right n hk
  have hrk : r * k ≤ n * k := Nat.mul_le_mul_right k hr
  have e1 := div_quo sD (r := r * k) (n := n * k) (Nat.mul_pos h0 hk) (Nat.mul_pos hn hk) (lg _ (by omega)) (lg _ h)
  have e2 := div_quo sD (r := r) (n := n) h0 hn (lg _ (by omega)) (lg _ (by omega))
  rw [quo_scale hk] at e1
  show mul DD (div DD (ofInt DD ((r * k : Nat) : Int)) (ofInt DD ((n * k : Nat) : Int))) QUARTER = mul DD (div DD (ofInt DD (r : Int)) (ofInt DD (n : Int))) QUARTER
  rw [e1, e2]
theorem within_scale {r n k : Nat} (h0 : 0 < r) (hr : r < n) (hk : 0 < k) (h : n * k ≤ 8192) : within (n * k) (r * k) = within n r := by
  unfold within
  have e1 : (2 * (r * k) = n * k) = (2 * r = n) := by
    apply propext
    rw [← Nat.mul_assoc]
    exact ⟨fun z => Nat.eq_of_mul_eq_mul_right hk z, fun z => by rw [z]⟩
  have e2 : (2 * (r * k) < n * k) = (2 * r < n) := by
    apply propext
    rw [← Nat.mul_assoc]
    exact ⟨fun z => Nat.lt_of_mul_lt_mul_right z, fun z => Nat.mul_lt_mul_of_pos_right z hk⟩
  have e3 : n * k - r * k = (n - r) * k := (Nat.sub_mul n r k).symm
  simp only [e1, e2, e3, share_scale h0 (show 0 < n by omega) hk h (Nat.le_of_lt hr), share_scale (show 0 < n - r by omega) (show 0 < n by omega) hk h (show n - r ≤ n by omega)]
theorem quarters_scale {n j k : Nat} (hk : 0 < k) : 4 * (j * k) / (n * k) = 4 * j / n ∧ 4 * (j * k) % (n * k) = 4 * j % n * k := by
  rw [← Nat.mul_assoc, Nat.mul_div_mul_right _ _ hk, Nat.mul_mod_mul_right]
  exact ⟨rfl, rfl⟩
theorem angle_scale {n j k : Nat} (hn : 0 < n) (hk : 0 < k) (h : n * k ≤ 8192) : angle (n * k) (j * k) = angle n j := by
  obtain ⟨q1, q2⟩ := quarters_scale (n := n) (j := j) hk
  rw [angle_eq, angle_eq, q1, q2]
  by_cases c : 4 * j % n = 0
  · rw [if_pos (by rw [c, Nat.zero_mul]), if_pos c]
  · rw [if_neg (Nat.mul_ne_zero c (by omega)), if_neg c, within_scale (by omega) (Nat.mod_lt _ hn) hk h]
theorem quarters_mod {n j : Nat} (hn : 0 < n) : 4 * (j % n) / n % 4 = 4 * j / n % 4 ∧ 4 * (j % n) % n = 4 * j % n := by
  have e : 4 * j = 4 * (j % n) + n * (4 * (j / n)) := by
    have := Nat.div_add_mod j n
    rw [Nat.mul_left_comm]
    omega
  refine ⟨?_, ?_⟩
  · rw [e, Nat.add_mul_div_left _ _ hn]; omega
  · rw [e, Nat.add_mul_mod_self_left]
theorem angle_mod {n j : Nat} (hn : 0 < n) : angle n (j % n) = angle n j := by
  obtain ⟨q1, q2⟩ := quarters_mod (n := n) (j := j) hn
  rw [angle_eq, angle_eq, q1, q2]
theorem turned_mod {n j : Nat} (hn : 0 < n) (x : C) : turned F n (j % n) x = turned F n j x := by
  obtain ⟨q1, q2⟩ := quarters_mod (n := n) (j := j) hn
  unfold turned
  dsimp only
  rw [q1, q2, angle_mod hn]
def mulM (F : Format) (x y : Nat) : Option Nat := if top F < x ∨ top F < y then none else if x = top F ∨ y = top F then (if x = 0 ∨ y = 0 then none else some (top F))
  else if x = 0 ∨ y = 0 then some 0 else some (min (szOf F (mant F x * mant F y) (expo F x + expo F y)) (top F))
def sgd (F : Format) (s : Bool) : Option Nat → Nat
  | none => NONE F
  | some m => signBit F s + m
theorem mul_form (hF : Fmt F) (a b : Nat) : mul F a b = sgd F (sgn F a != sgn F b) (mulM F (mag F a) (mag F b)) := by
  have ht := top_lt hF
  unfold mulM
  by_cases c1 : top F < mag F a ∨ top F < mag F b
  · rw [if_pos c1, mul_nan c1]; rfl
  rw [if_neg c1]
  by_cases c2 : mag F a = top F ∨ mag F b = top F
  · rw [if_pos c2]
    have := mul_inf hF (a := a) (b := b) (by omega) (by omega) c2
    rw [this]
    split
    · rfl
    · rfl
  · rw [if_neg c2, mul_fin (by omega) (by omega)]
    split
    · rfl
    · rw [round_sz]; rfl
theorem mulM_comm (x y : Nat) : mulM F x y = mulM F y x := by
  unfold mulM
  simp only [or_comm (a := top F < x), or_comm (a := x = top F), or_comm (a := x = 0), Nat.mul_comm (mant F x), Int.add_comm (expo F x)]
theorem mulM_le (hF : Std F) {x y m : Nat} (h : mulM F x y = some m) : m ≤ top F := by
  unfold mulM at h
  split at h
  · cases h
  · split at h
    · split at h
      · cases h
      · cases h; exact Nat.le_refl _
    · split at h
      · cases h; exact Nat.zero_le _
      · cases h; omega
theorem mul_comm' (hF : Fmt F) (a b : Nat) : mul F a b = mul F b a := by
  rw [mul_form hF, mul_form hF, mulM_comm]
  congr 1
  cases sgn F a <;> cases sgn F b <;> rfl
theorem neg_sgd (hF : Std F) {s : Bool} {o : Option Nat} (h : ∀ m, o = some m → m ≤ top F) : neg F (sgd F s o) = sgd F (!s) o := by
  have ht := top_lt hF.ok
  cases o with
  | none =>
    show neg F (NONE F) = NONE F
    have := none_lt hF.ok
    rw [neg_eq hF.ok (by omega), if_pos (by rw [mag_none hF.ok]; exact this.2)]
  | some m =>
    have hm := h m rfl
    show neg F (signBit F s + m) = signBit F (!s) + m
    rw [neg_eq hF.ok (sign_or_lt s (by omega)), mag_of (by omega), sgn_of (by omega), if_neg (by omega)]
theorem mul_neg_l (hF : Std F) (ha : a < 2 * HB F) (h : mag F a ≤ top F) (b : Nat) : mul F (neg F a) b = neg F (mul F a b) := by
  obtain ⟨s, m⟩ := of_neg hF.ok ha (show ¬ top F < mag F a by omega)
  rw [mul_form hF.ok, mul_form hF.ok, s, m, neg_sgd hF (fun m h => mulM_le hF h)]
  congr 1
  cases sgn F a <;> cases sgn F b <;> rfl
theorem neg_neg' (hF : Std F) {s : Bool} {o : Option Nat} (h : ∀ m, o = some m → m ≤ top F) : neg F (neg F (sgd F s o)) = sgd F s o := by
  rw [neg_sgd hF h, neg_sgd hF h, Bool.not_not]
theorem cmul_turn (hF : Std F) {c s : Nat} (hs : s < 2 * HB F) (hs2 : mag F s ≤ top F) (x : C) : cmul F (c, neg F s) x = (add F (mul F x.1 c) (mul F x.2 s), sub F (mul F x.2 c) (mul F x.1 s)) := by
  unfold cmul sub
  dsimp only
  rw [mul_neg_l hF hs hs2, mul_neg_l hF hs hs2, mul_comm' hF.ok s x.2, mul_comm' hF.ok s x.1, mul_comm' hF.ok c x.1, mul_comm' hF.ok c x.2]
  rw [mul_form hF.ok x.2 s, neg_neg' hF (fun m h => mulM_le hF h)]
theorem conv_form (F G : Format) (hF : Fmt F) (hG : Std G) (a : Nat) (h : mag F a ≤ top F) : ∃ m, m ≤ top G ∧ ∀ b, mag F b = mag F a → convert F G b = signBit G (sgn F b) + m := by
  by_cases c1 : mag F a = 0
  · refine ⟨0, Nat.zero_le _, fun b hb => ?_⟩
    rw [conv_eq F G b hF, hb, if_neg (by omega), if_pos c1]; rfl
  by_cases c2 : mag F a = top F
  · refine ⟨top G, Nat.le_refl _, fun b hb => ?_⟩
    rw [conv_eq F G b hF, hb, if_neg (by omega), if_neg c1, if_pos c2]
  · refine ⟨min (szOf G (mant F (mag F a)) (expo F (mag F a))) (top G), by omega, fun b hb => ?_⟩
    rw [conv_eq F G b hF, hb, if_neg (by omega), if_neg c1, if_neg c2, round_sz]
theorem conv_neg {f : Int} (hf : F01 f) (h : Ok a) : convert double (fmt f) (neg double a) = neg (fmt f) (convert double (fmt f) a) := by
  obtain ⟨m, hm, e⟩ := conv_form double (fmt f) sD.ok hf.std a h.2
  obtain ⟨s1, m1⟩ := of_neg sD.ok h.1 (show ¬ top DD < mag DD a by have := h.2; omega)
  have ht := top_lt hf.ok
  rw [e a rfl, e (neg double a) m1, neg_eq hf.ok (sign_or_lt _ (by omega)), mag_of (by omega), sgn_of (by omega), if_neg (by omega), show sgn double (neg double a) = !sgn double a from s1]
def Fac (c : Nat) : Prop := c < 2 * HB DD ∧ 0x3F10000000000000 ≤ mag DD c ∧ mag DD c ≤ ONE
theorem Fac.ok (h : Fac c) : Ok c := ⟨h.1, Nat.le_trans h.2.2 (by decide)⟩
theorem Fac.neg (h : Fac c) : Fac (neg DD c) := by
  have := h.ok.2
  obtain ⟨s, m⟩ := of_neg sD.ok h.1 (show ¬ top DD < mag DD c by omega)
  refine ⟨neg_lt sD.ok h.1, ?_⟩
  rw [m]
  exact h.2
theorem angle_fac {n j : Nat} (h0 : 0 < n) (h2 : n ≤ 8192) (hr : 4 * j % n ≠ 0) : Fac (angle n j).1 ∧ Fac (angle n j).2 := by
  rw [angle_eq, if_neg hr]
  have hlt := Nat.mod_lt (4 * j) h0
  obtain ⟨⟨a1, a2, _⟩, ⟨b1, b2, _⟩⟩ := within_bd (n := n) (r := 4 * j % n) (by omega) hlt h2
  obtain ⟨w1, w2⟩ := within_ok (n := n) (r := 4 * j % n) (by omega) hlt h2
  have f1 : Fac (within n (4 * j % n)).1 := ⟨w1.1, a1, a2⟩
  have f2 : Fac (within n (4 * j % n)).2 := ⟨w2.1, b1, b2⟩
  split
  · exact ⟨f1, f2⟩
  · split
    · exact ⟨f2.neg, f1⟩
    · split
      · exact ⟨f1.neg, f2.neg⟩
      · exact ⟨f2, f1.neg⟩
structure FacF (F : Format) (w : Nat) : Prop where
  lt : w < 2 * HB F
  fin : mag F w < top F
  nz : mag F w ≠ 0
  one : val F (mag F w) ≤ 2 ^ LL F
  exp : 0 ≤ expo F (mag F w) + 80
theorem expo_lo (hF : Std F) {x : Nat} (h : (LL F - 79) * PW F ≤ x) : 0 ≤ expo F x + 80 := by
  have hp := pw_pos F
  have hL : 80 ≤ LL F ∧ (LL F : Int) = -F.least := by rcases hF with rfl | rfl <;> decide
  have : LL F - 79 ≤ x / PW F := by rw [Nat.le_div_iff_mul_le hp]; exact h
  unfold expo
  rw [if_neg (by omega)]
  omega
theorem fac_conv {f : Int} (hf : F01 f) (h : Fac c) : FacF (fmt f) (convert double (fmt f) c) := by
  rcases hf with rfl | rfl
  ·
    have hS : Std (fmt 0) := .inl rfl
    have hok := h.ok
    have lo := val_le (F := DD) h.2.1
    have hi := val_le (F := DD) h.2.2
    have c1 : mag DD c ≠ 0 := by have := h.2.1; omega
    have c2 : mag DD c ≠ top DD := fun z => by have := h.2.2; rw [z] at this; exact absurd this (by decide)
    have e : convert double (fmt 0) c = signBit (fmt 0) (sgn DD c) + min (szOf (fmt 0) (mant DD (mag DD c)) (expo DD (mag DD c))) (top (fmt 0)) := by
      rw [conv_eq double (fmt 0) c sD.ok, if_neg (show ¬ top double < mag double c by have := hok.2; exact Nat.not_lt.mpr this), if_neg c1, if_neg c2, round_sz]
    have mp : 0 < mant DD (mag DD c) := Nat.pos_of_ne_zero fun z => c1 (mant_zero.mp z)
    have key := near_round hS.ok mp (expo DD (mag DD c))
    have ge := expo_ge DD (mag DD c)
    have eb := expo_bd sD (mag_lt DD c)
    have lD : DD.least = -1074 := by decide
    have lS : (fmt 0).least = -149 := by decide
    rw [lS] at key
    unfold val at lo hi
    rw [lD] at lo hi ge
    obtain ⟨m, hm⟩ : ∃ m, m = mant DD (mag DD c) := ⟨_, rfl⟩
    obtain ⟨x, hx⟩ : ∃ x, x = expo DD (mag DD c) := ⟨_, rfl⟩
    rw [← hm, ← hx] at lo hi key e
    rw [← hx] at ge eb
    rw [← hm] at mp
    have vO : mant DD ONE * 2 ^ (expo DD ONE - -1074).toNat = 2 ^ 1074 := by decide +kernel
    have vL : mant DD 0x3F10000000000000 * 2 ^ (expo DD 0x3F10000000000000 - -1074).toNat = 2 ^ 1060 := by decide +kernel
    rw [vO] at hi
    rw [vL] at lo
    have up : szOf (fmt 0) m x ≤ 0x3F800000 := near_le key (by
      have e1 : val (fmt 0) 0x3F800000 = 2 ^ 149 := by decide +kernel
      rw [e1]
      refine Nat.le_of_mul_le_mul_right (c := 2 ^ 925) ?_ (Nat.two_pow_pos _)
      rw [Nat.mul_assoc, ← Nat.pow_add, Nat.mul_assoc, ← Nat.pow_add, ← Nat.pow_add]
      have q := Nat.mul_le_mul_right (2 ^ (-149 - x).toNat) hi
      rw [Nat.mul_assoc, ← Nat.pow_add, ← Nat.pow_add] at q
      have z1 : (x - -149).toNat + 925 = (x - -1074).toNat + (-149 - x).toNat := by omega
      have z2 : 149 + ((-149 - x).toNat + 925) = 1074 + (-149 - x).toNat := by omega
      rw [z1, z2]
      exact q)
    have dn : 0x38800000 ≤ szOf (fmt 0) m x := near_ge key (by
      have e1 : val (fmt 0) 0x38800000 = 2 ^ 135 := by decide +kernel
      rw [e1]
      refine Nat.le_of_mul_le_mul_right (c := 2 ^ 925) ?_ (Nat.two_pow_pos _)
      rw [Nat.mul_assoc, ← Nat.pow_add, Nat.mul_assoc, ← Nat.pow_add, ← Nat.pow_add]
      have q := Nat.mul_le_mul_right (2 ^ (-149 - x).toNat) lo
      rw [Nat.mul_assoc, ← Nat.pow_add, ← Nat.pow_add] at q
      have z1 : (x - -149).toNat + 925 = (x - -1074).toNat + (-149 - x).toNat := by omega
      have z2 : 135 + ((-149 - x).toNat + 925) = 1060 + (-149 - x).toNat := by omega
      rw [z1, z2]
      exact q)
    have ht : (0x3F800000 : Nat) < top (fmt 0) := by decide
    have htl := top_lt hS.ok
    have em : mag (fmt 0) (convert double (fmt 0) c) = szOf (fmt 0) m x := by
      rw [e, mag_of (min_lt2 hS.ok _)]; omega
    refine ⟨convert_lt hS.ok c, ?_, ?_, ?_, ?_⟩
    · rw [em]; omega
    · rw [em]; omega
    · rw [em]
      exact Nat.le_trans (val_le up) (by decide +kernel)
    · rw [em]
      exact expo_lo hS (Nat.le_trans (by decide) dn)
  · have hok := h.ok
    have e : convert double (fmt 1) c = c := convert_self sD hok.1 hok.2
    rw [e]
    refine ⟨hok.1, Nat.lt_of_le_of_lt h.2.2 (by decide), ?_, ?_, ?_⟩
    · have : mag (fmt 1) c = mag DD c := rfl
      rw [this]
      have := h.2.1
      omega
    · exact Nat.le_trans (val_le (F := DD) h.2.2) (show val DD ONE ≤ 2 ^ LL DD by rw [one_val]; exact Nat.le_refl _)
    · exact expo_lo sD (Nat.le_trans (by decide) h.2.1)
def TE (F : Format) : Nat := if F.p = 24 then 249 else 2074
theorem rep (hF : Std F) {N : Nat} (h0 : 0 < N) (hN : N ≤ 2 ^ 23) : ∃ c, c < top F ∧ val F c = N * 2 ^ TE F := by
  have hp := pw_pos F
  have lg : Nat.log2 N ≤ 23 := by
    have := (Nat.log2_lt (n := N) (k := 24) (by omega)).mpr (by omega)
    omega
  have pb := p_bd hF
  have hE : F.p - 1 ≤ TE F ∧ (TE F + 25 - (F.p - 1)) * PW F ≤ top F := by rcases hF with rfl | rfl <;> decide +kernel
  have m2 : N * 2 ^ (F.p - 1 - Nat.log2 N) < 2 * PW F := by
    rw [← two_p hF.ok]
    refine Nat.lt_of_lt_of_le (Nat.mul_lt_mul_of_pos_right Nat.lt_log2_self (Nat.two_pow_pos _)) ?_
    rw [← Nat.pow_add]
    exact Nat.pow_le_pow_right (by decide) (by omega)
  have mU : PW F ≤ N * 2 ^ (F.p - 1 - Nat.log2 N) := by
    refine Nat.le_trans ?_ (Nat.mul_le_mul_right _ (Nat.log2_self_le (by omega)))
    unfold PW
    rw [← Nat.pow_add]
    exact Nat.pow_le_pow_right (by decide) (by omega)
  refine ⟨(TE F + Nat.log2 N - (F.p - 1)) * PW F + N * 2 ^ (F.p - 1 - Nat.log2 N), ?_, ?_⟩
  · refine Nat.lt_of_lt_of_le ?_ hE.2
    have e : (TE F + 25 - (F.p - 1)) * PW F = (TE F + 23 - (F.p - 1)) * PW F + 2 * PW F := by
      rw [← Nat.add_mul]; congr 1; omega
    have : (TE F + Nat.log2 N - (F.p - 1)) * PW F ≤ (TE F + 23 - (F.p - 1)) * PW F := Nat.mul_le_mul_right _ (by omega)
    omega
  · rw [val_pack (Nat.le_of_lt m2) (.inr mU), Nat.mul_assoc, ← Nat.pow_add]
    congr 2
    omega
end Sig
set_option linter.all false
namespace Sig
open Sp18
open Sp18Neutral (fmt)
variable {F : Format}
theorem odd_ge : ∀ (fu n d : Nat), 3 ≤ d → 1 < n → 2 ≤ oddFrom fu n d
  | 0, n, d, _, hn => hn
  | fu + 1, n, d, hd, hn => by
    unfold oddFrom
    split
    · omega
    · split
      · omega
      · exact odd_ge fu n (d + 2) (by omega) hn
theorem odd_dvd : ∀ (fu n d : Nat), oddFrom fu n d ∣ n
  | 0, n, d => Nat.dvd_refl n
  | fu + 1, n, d => by
    unfold oddFrom
    split
    · exact Nat.dvd_refl n
    · split
      · next h => exact Nat.dvd_of_mod_eq_zero h
      · exact odd_dvd fu n (d + 2)
theorem factor_ge {n : Nat} (h : 1 < n) : 2 ≤ factor n := by
  unfold factor
  split
  · omega
  · split
    · omega
    · exact odd_ge n n 3 (by omega) h
theorem factor_dvd (n : Nat) : factor n ∣ n := by
  unfold factor
  split
  · next h => exact Nat.dvd_of_mod_eq_zero h
  · split
    · next h => exact Nat.dvd_of_mod_eq_zero h
    · exact odd_dvd n n 3
def every (x : List C) (p m r : Nat) : List C := (List.range m).map fun i => cell x (p * i + r)
theorem every_len (x : List C) (p m r : Nat) : (every x p m r).length = m := by unfold every; rw [List.length_map, List.length_range]
theorem cell_map {m : Nat} {g : Nat → C} {i : Nat} (h : i < m) : cell ((List.range m).map g) i = g i := by
  unfold cell
  rw [List.getD_eq_getElem?_getD, List.getElem?_map, List.getElem?_range h]
  rfl
theorem transformed_len : ∀ (fu n : Nat) (x : List C), x.length = n → (transformed F fu n x).length = n
  | 0, n, x, h => h
  | fu + 1, n, x, h => by
    unfold transformed
    split
    · exact h
    · rw [List.length_map, List.length_range]
theorem transformed_fuel : ∀ (f g n : Nat) (x : List C), n ≤ f → n ≤ g → transformed F f n x = transformed F g n x
  | 0, 0, n, x, _, _ => rfl
  | 0, g + 1, n, x, h, _ => by
    unfold transformed
    rw [if_pos (by omega)]
  | f + 1, 0, n, x, _, h => by
    unfold transformed
    rw [if_pos (by omega)]
  | f + 1, g + 1, n, x, h1, h2 => by
    unfold transformed
    by_cases c : n ≤ 1
    · rw [if_pos c, if_pos c]
    · rw [if_neg c, if_neg c]
      have hp := factor_ge (show 1 < n by omega)
      have hlt : n / factor n < n := Nat.div_lt_self (by omega) hp
      dsimp only
      have e : (fun (r : Nat) => transformed F f (n / factor n) ((List.range (n / factor n)).map fun (i : Nat) => cell x (factor n * i + r))) =
          (fun (r : Nat) => transformed F g (n / factor n) ((List.range (n / factor n)).map fun (i : Nat) => cell x (factor n * i + r))) := by
        funext r
        exact transformed_fuel f g _ _ (by omega) (by omega)
      rw [e]
theorem forth_one (x : List C) (h : x.length = 1) : forth F x = x := by
  unfold forth
  rw [h]
  unfold transformed
  rw [if_pos (Nat.le_refl 1)]
theorem forth_step {x : List C} {n : Nat} (h : x.length = n) (hn : 1 < n) :
    forth F x = (List.range n).map (joined F n (factor n) ((List.range (factor n)).map fun r => forth F (every x (factor n) (n / factor n) r))) := by
  unfold forth
  rw [h]
  obtain ⟨m, rfl⟩ : ∃ m, n = m + 1 := ⟨n - 1, by omega⟩
  have hp := factor_ge hn
  have hlt : (m + 1) / factor (m + 1) < m + 1 := Nat.div_lt_self (by omega) hp
  conv => lhs; unfold transformed
  rw [if_neg (by omega)]
  dsimp only
  have e : (fun (r : Nat) => transformed F m ((m + 1) / factor (m + 1)) ((List.range ((m + 1) / factor (m + 1))).map fun (i : Nat) => cell x (factor (m + 1) * i + r))) =
      (fun (r : Nat) => transformed F (every x (factor (m + 1)) ((m + 1) / factor (m + 1)) r).length (every x (factor (m + 1)) ((m + 1) / factor (m + 1)) r).length (every x (factor (m + 1)) ((m + 1) / factor (m + 1)) r)) := by
    funext r
    rw [every_len]
    exact transformed_fuel _ _ _ _ (by omega) (Nat.le_refl _)
  rw [e]
theorem forth_len (x : List C) : (forth F x).length = x.length := transformed_len _ _ _ rfl
def dvs : Nat → Nat → List Nat
  | 0, _ => []
  | f + 1, n => if n ≤ 1 then [] else factor n :: dvs f (n / factor n)
def prod (l : List Nat) : Nat := l.foldr (· * ·) 1
theorem dvs_fuel : ∀ (f g n : Nat), n ≤ f → n ≤ g → dvs f n = dvs g n
  | 0, 0, n, _, _ => rfl
  | 0, g + 1, n, h, _ => by unfold dvs; rw [if_pos (by omega)]
  | f + 1, 0, n, _, h => by unfold dvs; rw [if_pos (by omega)]
  | f + 1, g + 1, n, h1, h2 => by
    unfold dvs
    by_cases c : n ≤ 1
    · rw [if_pos c, if_pos c]
    · rw [if_neg c, if_neg c]
      have hlt : n / factor n < n := Nat.div_lt_self (by omega) (factor_ge (by omega))
      rw [dvs_fuel f g _ (by omega) (by omega)]
abbrev ds (n : Nat) : List Nat := dvs n n
theorem ds_step {n : Nat} (h : 1 < n) : ds n = factor n :: ds (n / factor n) := by
  have hlt : n / factor n < n := Nat.div_lt_self (by omega) (factor_ge h)
  obtain ⟨m, rfl⟩ : ∃ m, n = m + 1 := ⟨n - 1, by omega⟩
  show dvs (m + 1) (m + 1) = _
  conv => lhs; unfold dvs
  rw [if_neg (by omega), dvs_fuel m ((m + 1) / factor (m + 1)) _ (by omega) (Nat.le_refl _)]
theorem ds_one {n : Nat} (h : n ≤ 1) : ds n = [] := by
  match n, h with
  | 0, _ => rfl
  | 1, _ => rfl
theorem prod_ds : ∀ (k n : Nat), n ≤ k → 0 < n → prod (ds n) = n
  | 0, n, h, h0 => by omega
  | k + 1, n, h, h0 => by
    by_cases c : n ≤ 1
    · rw [ds_one c]; show 1 = n; omega
    · rw [ds_step (by omega)]
      show factor n * prod (ds (n / factor n)) = n
      have hlt : n / factor n < n := Nat.div_lt_self (by omega) (factor_ge (by omega))
      have hd := Nat.div_mul_cancel (factor_dvd n)
      have hpos : 0 < n / factor n := Nat.div_pos (Nat.le_of_dvd h0 (factor_dvd n)) (by have := factor_ge (show 1 < n by omega); omega)
      rw [prod_ds k _ (by omega) hpos, Nat.mul_comm]
      exact hd
theorem ds_drop : ∀ (i n : Nat), 0 < n → i ≤ (ds n).length → 0 < prod ((ds n).drop i) ∧ (ds n).drop i = ds (prod ((ds n).drop i)) ∧ prod ((ds n).drop i) ∣ n
  | 0, n, h, _ => by
    rw [List.drop_zero, prod_ds n n (Nat.le_refl _) h]
    exact ⟨h, rfl, Nat.dvd_refl n⟩
  | i + 1, n, h, hi => by
    by_cases c : n ≤ 1
    · rw [ds_one c] at hi; simp at hi
    · have hs := ds_step (show 1 < n by omega)
      have hpos : 0 < n / factor n := Nat.div_pos (Nat.le_of_dvd h (factor_dvd n)) (by have := factor_ge (show 1 < n by omega); omega)
      have ih := ds_drop i (n / factor n) hpos (by rw [hs, List.length_cons] at hi; omega)
      rw [hs, List.drop_succ_cons]
      refine ⟨ih.1, ih.2.1, Nat.dvd_trans ih.2.2 (Nat.div_dvd_of_dvd (factor_dvd n))⟩
theorem ds_at {n i p : Nat} (h : 0 < n) (e : (ds n)[i]? = some p) : 1 < prod ((ds n).drop i) ∧ p = factor (prod ((ds n).drop i)) ∧ prod ((ds n).drop i) = p * prod ((ds n).drop (i + 1)) := by
  have hi : i < (ds n).length := (List.getElem?_eq_some_iff.mp e).1
  obtain ⟨d1, d2, d3⟩ := ds_drop i n h (by omega)
  have hd : (ds n).drop i = p :: (ds n).drop (i + 1) := by
    have : (ds n)[i] = p := (List.getElem?_eq_some_iff.mp e).2
    rw [← this]
    exact List.drop_eq_getElem_cons hi
  have hc : 1 < prod ((ds n).drop i) := by
    rcases Nat.lt_or_ge 1 (prod ((ds n).drop i)) with z | z
    · exact z
    · rw [ds_one z] at d2
      rw [d2] at hd
      cases hd
  refine ⟨hc, ?_, ?_⟩
  · rw [ds_step hc] at d2
    rw [hd] at d2
    have := List.cons.inj d2
    rw [hd]
    exact this.1
  · rw [hd]; rfl
theorem level {x : List C} {n c p l : Nat} (hx : x.length = n) (hn : n = c * (p * l)) (hl : 0 < l) (hp : p = factor (p * l)) (h1 : 1 < p * l) {i : Nat} (hi : i < c) :
    forth F (every x c (p * l) i) = (List.range (p * l)).map (joined F (p * l) p ((List.range p).map fun r => forth F (every x (c * p) l (i + r * c)))) := by
  have hp0 : 0 < p := by
    rcases Nat.eq_zero_or_pos p with z | z
    · rw [z, Nat.zero_mul] at h1; omega
    · exact z
  rw [forth_step (every_len x c (p * l) i) h1, ← hp]
  congr 2
  refine List.map_congr_left fun r hr => ?_
  have hr2 : r < p := List.mem_range.mp hr
  congr 1
  rw [Nat.mul_div_cancel_left _ hp0]
  unfold every
  refine List.map_congr_left fun t ht => ?_
  have ht2 : t < l := List.mem_range.mp ht
  have hb : p * t + r < p * l := by
    have : p * (t + 1) ≤ p * l := Nat.mul_le_mul_left p ht2
    rw [Nat.mul_add] at this
    omega
  rw [cell_map hb]
  congr 1
  rw [Nat.mul_add, ← Nat.mul_assoc]
  have : c * r = r * c := Nat.mul_comm _ _
  omega
end Sig
set_option linter.all false
namespace Sig
open Sp18
open Sp18Neutral (fmt nats)
variable {F : Format}
theorem size_iff {n : Nat} (h : Sp18Neutral.size n = true) : 1 ≤ n ∧ n ≤ 8192 := by
  unfold Sp18Neutral.size at h
  rw [Bool.and_eq_true] at h
  exact ⟨of_decide_eq_true h.1, of_decide_eq_true h.2⟩
theorem turn_spec {f way : Int} {x : List Int} : PySp18.turn f way x = if 0 ≤ way ∧ way < 2 then 0 :: flats (if way = 0 then forth (fmt f) ((twos x).map fun y => (plain (fmt f) y.1.toNat, plain (fmt f) y.2.toNat)) else back (fmt f) ((twos x).map fun y => (plain (fmt f) y.1.toNat, plain (fmt f) y.2.toNat))) else [-2] := by
  have e : PySp18.turn f way x = Sp18Neutral.told (if x.length / 2 = x.length / 2 ∧ among way 2 = true then writes (flat (if way = 0 then forth (fmt f) (pairs (Sp18.told (fmt f) (nats x))) else back (fmt f) (pairs (Sp18.told (fmt f) (nats x))))) else only (-2)) := rfl
  rw [e]
  by_cases c : 0 ≤ way ∧ way < 2
  · rw [if_pos ⟨rfl, among_iff.mpr c⟩, if_pos c, pairs_told]
    show (0 : Int) :: (Sp18Neutral.ints (flat _) ++ []) = _
    rw [List.append_nil]
    rfl
  · rw [if_neg (fun z => c (among_iff.mp z.2)), if_neg c]
    rfl
theorem turn_asked {f op : Int} {x : List Int} (h : PySp18.turn_asked f op x = true) : F01 f ∧ 0 ≤ op ∧ (∀ z ∈ x, 0 ≤ z ∧ z < ((2 * HB (fmt f) : Nat) : Int)) ∧ x.length % 2 = 0 ∧ 1 ≤ x.length / 2 ∧ x.length / 2 ≤ 8192 := by
  have e : PySp18.turn_asked f op x = (Sp18Neutral.isFmt f && (Sp18Neutral.small op && (Sp18Neutral.row f x && (Sp18Neutral.even x && Sp18Neutral.size (x.length / 2))))) := rfl
  rw [e, Bool.and_eq_true, Bool.and_eq_true, Bool.and_eq_true, Bool.and_eq_true] at h
  obtain ⟨h1, h2, h3, h4, h5⟩ := h
  have hF := isFmt_iff h1
  exact ⟨hF, small_iff h2, row_iff hF h3, even_iff h4, size_iff h5⟩
end Sig
set_option linter.all false
namespace Sig
open Sp18
open Sp18Neutral (fmt nats)
variable {F : Format}
end Sig
set_option linter.all false
set_option maxRecDepth 100000
set_option Elab.async false
namespace L2
open PySem PySem.Spec PyProof.Rows
open Sig
open Sp18Neutral (fmt)
structure Def (P : Program) (w : World) (K : PySem.W.Frag) (mg : Str → Option Value) (base : Heap) (x : Str) (k : Nat) (ps : List Str) (sp : Sp) : Prop where
  ex : ∃ (f : Addr) (fd : FuncData), FnOk P w K mg base CX0 k f fd ps sp ∧ mg x = some (.ref f) ∧ PySem.W.keepIn K (.ref f) = true ∧ Binds K fd ps []
structure Tab (K : PySem.W.Frag) (mg : Str → Option Value) (x : Str) (g : Sp18.Format → Int) : Prop where
  ex : ∃ p, mg x = some (.ref p) ∧ ∀ H, SqT K H p [.int (g Sp18.single), .int (g Sp18.double)]
def tTab (g : Sp18.Format → Int) (te : TE) : TE := fun σ H Q => te σ H fun y H1 => ∃ f : Int, y = .int f ∧ F01 f ∧ Q (.int (g (fmt f))) H1
section
variable {X : Cx} {x : Str} {p pos : Pos} {e : Expr} {es : List Expr} {te : TE} {t : TA} {k : Nat} {ps : List Str} {sp : Sp}
theorem pe_def (D : Def X.prog X.w X.K X.mg X.base x k ps sp) (hg : Gl X x) (hr : Room k X.A) (hx : Passes CX0 X E0) (ha : PA X (e :: es) t) (hdb : (x == ("__debug__" : Str)) = false := by decide)
    (he : starEach (e :: es) X.env = (false, eval e X.env) :: starEach es X.env := by rfl) (hpl : (backTo pos (starEach es X.env)).any (·.1) = false := by rfl) :
    PE X (.Call (.Name x p) (e :: es) [] pos) (tCall sp [] E0 t) := by
  obtain ⟨f, fd, F, hm, hk, hb⟩ := D.ex
  exact pe_call F hr hg hm hk hb .nil hx ha hdb he hpl
theorem pe_tab {g : Sp18.Format → Int} (D : Tab X.K X.mg x g) (hg : Gl X x) (hb : PE X e te) (hs : PlainIx e) (hdb : (x == ("__debug__" : Str)) = false := by decide) :
    PE X (.Subscript (.Name x p) e pos) (tTab g te) := by
  obtain ⟨q, hm, hS⟩ := D.ex
  intro pins s σ H Q I h
  refine Subscript_ (thn (pe_glob (v := .ref q) hg hm rfl hdb pins s σ H (fun x H1 => x = .ref q ∧ H1 = H) I ⟨rfl, rfl⟩) fun v s1 ⟨x1, H1, I1, r1, e1, e2⟩ => ?_)
  subst e1 e2
  refine thn (hb pins s1 σ H1 _ I1 h) fun u s2 ⟨y, H2, I2, r2, f, e3, hf, q2⟩ => ?_
  subst e3
  have ha : atI [V.int (g Sp18.single), V.int (g Sp18.double)] f = some (V.int (g (fmt f))) := by
    rcases hf with rfl | rfl <;> rfl
  exact ix_tup _ e pins s2 σ H2 (.ref q) (.int f) v u Q I2 r1 r2 ⟨q, _, f, _, rfl, rfl, hS H2, ha, q2⟩ (hs _ _)
def CDivB (i j : Int) : Prop := 0 < j ∧ j.natAbs.log2 < 9000
theorem op_fdivB : OpR X (binaryOp .FloorDiv) (rI CDivB fun i j => .int (i / j)) := opI fun i j _ _ _ _ _ hc q => by
  have h1 : (0 : Int) < j := hc.1
  exact floordiv_int (by omega) (by rw [Int.fdiv_eq_ediv_of_nonneg i (by omega)]; exact q) (.inl (PyProof.noPylong_of_log2 hc.2))
theorem call_divmodB : CallR X (.builtin "divmod") (fun xs H Q => ∃ i j, xs = [.int i, .int j] ∧ CDivB i j ∧ ∀ p, H p = none → Q (.ref p) (upd H p (.tup [.int (i / j), .int (i % j)]))) := by
  intro pins s σ H xs us Q I r h
  obtain ⟨i, j, rfl, ⟨h1, h2⟩, q⟩ := h
  obtain ⟨u, w', rfl, ⟨t, rfl⟩, ⟨t', rfl⟩⟩ := vals2 r
  refine divmod_int (by omega) ?_ (.inl (PyProof.noPylong_of_log2 h2))
  rw [Int.fdiv_eq_ediv_of_nonneg i (by omega), Int.fmod_eq_emod_of_nonneg i (by omega)]
  have hn : H s.heap.objs.size = none := I.hok.fresh (Nat.le_refl _)
  refine ⟨.ref s.heap.objs.size, _, ?_, rfl, q _ hn⟩
  refine I.laid (fun b o e => Heap.get?_push_of_some _ e) (Nat.le_refl _) ⟨by simp only [List.length_cons, List.length_nil]; rw [sizeLine_eq]; decide, [.int (i / j) s.toks, .int (i % j) (s.toks + 1)], .cons ⟨_, rfl⟩ (.cons ⟨_, rfl⟩ .nil), ?_⟩
  exact ⟨_, Heap.get?_push_size s.heap rfl, rfl, 0, rfl⟩
theorem mt_bits : MtR X "int.bit_length" (fun x xs H Q => ∃ i, x = .int i ∧ xs = [] ∧ Q (.int ((Builtin.Int.intBits i : Nat) : Int)) H) := by
  intro pins s σ H x xs v us Q I rx rs h
  obtain ⟨i, rfl, rfl, q⟩ := h
  obtain ⟨t, rfl⟩ := rx
  have e := rs.zero
  subst e
  exact call_int_bit_length ⟨.int _, H, I.tok _, ⟨_, rfl⟩, q⟩
def rExtendT : V → List V → Hp → VK → Prop := fun x vs H Q => ∃ l b xs zs, x = .ref l ∧ vs = [.ref b] ∧ H l = some (.lst xs) ∧ H b = some (.tup zs) ∧ xs.length + zs.length ≤ sizeLine ∧ Q .non (upd H l (.lst (xs ++ zs)))
end
theorem Same.new {H : Hp} {p : Addr} {o : HO} (h : H p = none) : Same H (upd H p o) := fun b u e => by
  rw [upd_ne (ne_of_none e h)]
  exact e
end L2
set_option linter.all false
set_option maxRecDepth 100000
set_option Elab.async false
namespace L2
open PySem PySem.Spec PyProof.Rows
def PlO : HO → Prop
  | .lst _ => True
  | .tup _ => True
  | .frz _ u => match u with
    | .lst _ => True
    | .tup _ => True
    | _ => False
  | .ins _ _ _ => True
  | .own _ => True
  | _ => False
def PlN : HO → Prop
  | .lst _ => True
  | .tup _ => True
  | _ => False
def Pl (H : Hp) : Prop := ∀ b o, H b = some o → PlO o
theorem Pl.put {H : Hp} {p : Addr} {o : HO} (h : Pl H) (ho : PlO o) : Pl (upd H p o) := fun b u e => by
  by_cases c : b = p
  · subst c
    rw [upd_same] at e
    cases e
    exact ho
  · rw [upd_ne c] at e
    exact h b u e
theorem Pl.tup {H : Hp} {p : Addr} {xs : List V} (h : Pl H) : Pl (upd H p (.tup xs)) := h.put trivial
theorem Pl.lst {H : Hp} {p : Addr} {xs : List V} (h : Pl H) : Pl (upd H p (.lst xs)) := h.put trivial
theorem objOk_pl {P : Program} {w : World} {H H' : Hp} {h : Heap} {a : Addr} {o : HO} (p : PlO o) (x : ObjOk P w H' h a o) (hi : ∀ C dx fs, o = .ins C dx fs → H dx = some (.own a)) : ObjOk P w H h a o := by
  cases o with
  | lst xs => exact x
  | tup xs => exact x
  | ins C dx fs => exact ⟨hi C dx fs rfl, x.2⟩
  | own y => exact x
  | frz o u =>
    cases u with
    | lst xs => exact x
    | tup xs => exact x
    | _ => exact p.elim
  | _ => exact p.elim
structure PlF (H H2 : Hp) : Prop where
  pl : Pl H2
  new : ∀ b o, H b = none → H2 b = some o → PlN o
theorem Pl.self {H : Hp} (h : Pl H) : PlF H H := ⟨h, fun b o e q => by rw [e] at q; cases q⟩
theorem Pl.tupF {H : Hp} {p : Addr} {xs : List V} (h : Pl H) : PlF H (upd H p (.tup xs)) := ⟨h.tup, fun b o e q => by
  by_cases c : b = p
  · subst c; rw [upd_same] at q; cases q; trivial
  · rw [upd_ne c, e] at q; cases q⟩
section
variable {P : Program} {w : World} {K : PySem.W.Frag} {mg : Str → Option Value} {base : Heap} {k : Nat} {f : Addr} {fd : FuncData} {ps : List Str} {sp sp' : Sp}
theorem FnOk.forget (F : FnOk P w K mg base CX0 k f fd ps sp) (h : ∀ vs H Q E, sp' vs H Q E → ∃ Q0, sp vs H Q0 E ∧ ∀ v H', Q0 v H' → ∃ H2, Same H H2 ∧ Same H2 H' ∧ PlF H H2 ∧ Q v H2) : FnOk P w K mg base CX0 k f fd ps sp' := by
  refine ⟨fun vs H Q E q => ?_, fun A outer s H args us vs Q E hr he hb hv hs => ?_⟩
  · obtain ⟨Q0, q0, _⟩ := h vs H Q E q
    exact F.len _ _ _ _ q0
  obtain ⟨Q0, q0, hQ⟩ := h vs H Q E hs
  refine codeAny_mono (F.run A outer s H args us vs Q0 E hr he hb hv q0) fun r s' hq => ?_
  cases r with
  | error e => exact hq
  | ok x =>
    cases x with
    | ret u =>
      obtain ⟨v, H', h1, h2, un, hok, rv, q⟩ := hq
      obtain ⟨H2, s1, s2, pl, q2⟩ := hQ v H' q
      refine ⟨v, H2, h1, h2, ⟨un.keep, un.slot, fun b o e n hx => ?_, un.there, fun b xs e => s1 _ _ e, fun b o u e => s1 _ _ e, fun b ps e => ⟨#[], by rw [Array.append_empty]; exact s1 _ _ e⟩⟩, fun a o e => ?_, rv, q2⟩
      · have n' := un.free b o e n hx
        cases c : H2 b with
        | none => rfl
        | some z => rw [s2 _ _ c] at n'; cases n'
      · refine objOk_pl (pl.pl a o e) (hok a o (s2 a o e)) fun C dx fs eo => ?_
        subst eo
        cases c : H a with
        | none => exact (pl.new a _ c e).elim
        | some o' =>
          have e2 := s1 a o' c
          rw [e] at e2
          cases e2
          exact s1 _ _ (he.hok a _ c).1
    | _ => exact hq
end
def tOrP (t u : TT) : TT := fun σ H Q => ∃ b1 b2, (∀ R : Bool → Hp → Prop, R b1 H → t σ H R) ∧ (∀ R : Bool → Hp → Prop, R b2 H → u σ H R) ∧ Q (b1 || b2) H
def tAndP (t u : TT) : TT := fun σ H Q => ∃ b1 b2, (∀ R : Bool → Hp → Prop, R b1 H → t σ H R) ∧ (∀ R : Bool → Hp → Prop, R b2 H → u σ H R) ∧ Q (b1 && b2) H
def tIfP (t : TT) (ta tb : TE) : TE := fun σ H Q => ∃ (c : Bool) (v : V), (∀ R : Bool → Hp → Prop, R c H → t σ H R) ∧ (if c = true then (∀ R : VK, R v H → ta σ H R) else (∀ R : VK, R v H → tb σ H R)) ∧ Q v H
section
variable {X : Cx} {a b : Expr} {rest : List Expr} {pos : Pos} {tA tB : TT} {ta tb : TE}
theorem pw_orP (ha : PT X a tA) (hb : PW X (.BoolOp .Or (b :: rest) pos) tB) : PW X (.BoolOp .Or (a :: b :: rest) pos) (tOrP tA tB) := fun whole pins s σ H Q I h => by
  obtain ⟨b1, b2, h1, h2, q⟩ := h
  refine pw_or ha hb whole pins s σ H Q I (h1 _ ?_)
  cases b1 with
  | true => rw [if_pos rfl]; exact q
  | false => rw [if_neg (by decide)]; exact h2 _ q
theorem pw_andP (ha : PT X a tA) (hb : PW X (.BoolOp .And (b :: rest) pos) tB) : PW X (.BoolOp .And (a :: b :: rest) pos) (tAndP tA tB) := fun whole pins s σ H Q I h => by
  obtain ⟨b1, b2, h1, h2, q⟩ := h
  refine pw_and ha hb whole pins s σ H Q I (h1 _ ?_)
  cases b1 with
  | true => rw [if_pos rfl]; exact h2 _ q
  | false => rw [if_neg (by decide)]; exact q
theorem pe_ifP {c : Expr} (hc : PT X c tA) (ha : PE X a ta) (hb : PE X b tb) : PE X (.IfExp c a b pos) (tIfP tA ta tb) := fun pins s σ H Q I h => by
  obtain ⟨c, v, h1, h2, q⟩ := h
  refine pe_ifExp hc ha hb pins s σ H Q I (h1 _ ?_)
  cases c with
  | true => rw [if_pos rfl] at h2 ⊢; exact h2 _ q
  | false => rw [if_neg (by decide)] at h2 ⊢; exact h2 _ q
end
theorem leibB {b c : Bool} {H : Hp} : (∀ R : Bool → Hp → Prop, R b H → R c H) ↔ b = c := ⟨fun h => h (fun x _ => b = x) rfl, fun h R r => h ▸ r⟩
theorem leibV {b c : V} {H : Hp} : (∀ R : VK, R b H → R c H) ↔ b = c := ⟨fun h => h (fun x _ => b = x) rfl, fun h R r => h ▸ r⟩
theorem leibBC {b : Bool} {H : Hp} {C : Prop} {D : (Bool → Hp → Prop) → Prop} : (∀ R : Bool → Hp → Prop, R b H → C ∧ D R) ↔ C ∧ ∀ R : Bool → Hp → Prop, R b H → D R := ⟨fun h => ⟨(h (fun _ _ => True) trivial).1, fun R r => (h R r).2⟩, fun h R r => ⟨h.1, h.2 R r⟩⟩
theorem leibVC {b : V} {H : Hp} {C : Prop} {D : VK → Prop} : (∀ R : VK, R b H → C ∧ D R) ↔ C ∧ ∀ R : VK, R b H → D R := ⟨fun h => ⟨(h (fun _ _ => True) trivial).1, fun R r => (h R r).2⟩, fun h R r => ⟨h.1, h.2 R r⟩⟩
theorem iteV {c : Prop} [Decidable c] {v x y : V} : (if c then v = x else v = y) ↔ v = if c then x else y := by split <;> rfl
theorem iteI {c : Prop} [Decidable c] {x y : Int} : (if c then V.int x else V.int y) = V.int (if c then x else y) := by split <;> rfl
end L2
set_option linter.all false
set_option maxRecDepth 100000
set_option Elab.async false
namespace L2
open PySem PySem.Spec PyProof.Rows
open Sig
open Sp18Neutral (fmt)
abbrev Nm (f a : Int) : Prop := 0 ≤ a ∧ a < ((2 * HB (fmt f) : Nat) : Int)
def spB1 (v : Sp18.Format → Nat → Bool) : Sp := fun vs H Q _ => ∃ f a : Int, vs = [.int f, .int a] ∧ F01 f ∧ Nm f a ∧ Pl H ∧ Q (.bl (v (fmt f) a.toNat)) H
def spI1 (v : Sp18.Format → Nat → Int) : Sp := fun vs H Q _ => ∃ f a : Int, vs = [.int f, .int a] ∧ F01 f ∧ Nm f a ∧ Pl H ∧ Q (.int (v (fmt f) a.toNat)) H
def spI2 (v : Sp18.Format → Nat → Nat → Int) : Sp := fun vs H Q _ => ∃ f a b : Int, vs = [.int f, .int a, .int b] ∧ F01 f ∧ Nm f a ∧ Nm f b ∧ Pl H ∧ Q (.int (v (fmt f) a.toNat b.toNat)) H
def spI2S (v : Sp18.Format → Nat → Nat → Int) : Sp := fun vs H Q _ => ∃ f a b : Int, vs = [.int f, .int a, .int b] ∧ F01 f ∧ Nm f a ∧ Nm f b ∧ Pl H ∧ ∀ H', Same H H' → Q (.int (v (fmt f) a.toNat b.toNat)) H'
section
variable {P : Program} {w : World} {K : PySem.W.Frag} {mg : Str → Option Value} {base : Heap} {k : Nat} {f : Addr} {fd : FuncData} {ps : List Str}
theorem forgetI2 {v : Sp18.Format → Nat → Nat → Int} (F : FnOk P w K mg base CX0 k f fd ps (spI2S v)) : FnOk P w K mg base CX0 k f fd ps (spI2 v) :=
  F.forget fun vs H Q E ⟨f, a, b, e, hf, ha, hb, hP, q⟩ => ⟨fun x H' => x = .int (v (fmt f) a.toNat b.toNat) ∧ Same H H', ⟨f, a, b, e, hf, ha, hb, hP, fun H' s => ⟨rfl, s⟩⟩, fun x H' ⟨e1, s⟩ => ⟨H, Same.refl H, s, hP.self, e1 ▸ q⟩⟩
end
def sp_bp : Sp := spB1 fun F a => decide (Sp18.top F < mag F a)
def sp_ca : Sp := spI1 fun F a => ((Sp18.plain F a : Nat) : Int)
def sp_bt : Sp := fun vs H Q _ => ∃ f a : Int, vs = [.int f, .int a] ∧ F01 f ∧ 0 ≤ a ∧ a < ((HB (fmt f) : Nat) : Int) ∧ Pl H ∧
  ∀ p, H p = none → Q (.ref p) (upd H p (.tup [.int (mant (fmt f) a.toNat : Nat), .int (expo (fmt f) a.toNat)]))
def sp_bj : Sp := fun vs H Q _ => ∃ (f m e : Int) (s : Bool), vs = [.int f, .int (Sp18.signBit (fmt f) s : Nat), .int m, .int e] ∧ F01 f ∧ 0 < m ∧ Nat.log2 m.toNat ≤ 9000 ∧ -9000 ≤ e ∧ e ≤ 9000 ∧ Pl H ∧
  Q (.int (Sp18.round (fmt f) s m.toNat e false : Nat)) H
def sp_an : Sp := fun vs H Q _ => ∃ m r : Int, vs = [.int m, .int r] ∧ Pl H ∧ Q (.int (2 * m + if 0 < r then 1 else 0)) H
def sp_cb : Sp := spI2 fun F a b => ((Sp18.add F a b : Nat) : Int)
def sp_z : Sp := fun vs H Q _ => ∃ f a b : Int, vs = [.int f, .int a, .int b] ∧ F01 f ∧ Nm f a ∧ Nm f b ∧ (Sp18.top (fmt f) ≤ mag (fmt f) a.toNat ∨ Sp18.top (fmt f) ≤ mag (fmt f) b.toNat) ∧ Pl H ∧
  Q (.int (Sp18.add (fmt f) a.toNat b.toNat : Nat)) H
def sp_bd : Sp := spI2 fun F a b => ((Sp18.sub F a b : Nat) : Int)
def sp_az : Sp := spI2 fun F a b => ((Sp18.mul F a b : Nat) : Int)
def sp_bm : Sp := spI2 fun F a b => ((Sp18.div F a b : Nat) : Int)
theorem toNat_lt {n : Nat} {N : Nat} (h : ((n : Nat) : Int) < (N : Int)) : n < N := by omega
end L2
namespace L2
open PySem PySem.Spec PyProof.Rows
open Sig
open Sp18Neutral (fmt)
theorem nm_of {f : Int} {n : Nat} (h : n < 2 * HB (fmt f)) : Nm f (n : Int) := ⟨Int.natCast_nonneg _, by omega⟩
theorem take_snocV {l : List V} {i : Nat} {x : V} (h : l[i]? = some x) : l.take (i + 1) = l.take i ++ [x] := by
  rw [List.take_add_one, h]
  rfl
theorem lc_one {K : PySem.W.Frag} {la : Addr} {xs zs : List V} {g : TG} {te : TE} {vs : List Nat} {σ : St} {H : Hp} {Q : VK}
    (hP : Pl H) (hx : SqL K H la xs) (hz : zs.length = xs.length) (hsz : xs.length ≤ sizeLine)
    (step : ∀ (i : Nat) (x z : V) (H' : Hp) (Nx : VK), xs[i]? = some x → zs[i]? = some z → Same H H' → Pl H' → Nx z H' →
      g x (wipe σ vs) H' fun σ2 H2 => wipe σ2 vs = wipe σ vs ∧ te σ2 H2 Nx)
    (fin : ∀ D H', Same H H' → Pl H' → H' D = some (.lst zs) → Q (.ref D) H') :
    (fun (σ : St) (H : Hp) (R : It → Hp → Prop) => R (Itl K la) H) σ H fun J H1 => ∀ D, H1 D = none → ∃ W : Nat → Nat → Hp → Prop, (∃ m, W 0 m (upd H1 D (.lst []))) ∧ ∀ i m H, W i m H →
      (J.stop i H ∧ Q (.ref D) H) ∨ (J.go i H ∧ ∃ Nx : Hp → Prop, (∀ H', Nx H' → ∃ m', m' < m ∧ W (i + 1) m' H') ∧ ∀ x H', J.yld i H x H' → g x (wipe σ vs) H' fun σ2 H2 => wipe σ2 vs = wipe σ vs ∧ tYes σ2 H2 fun b H3 =>
        if b = true then te σ2 H3 fun y H4 => ∃ acc, H4 D = some (.lst acc) ∧ acc.length < sizeLine ∧ Nx (upd H4 D (.lst (acc ++ [y]))) else Nx H3) := by
  intro D hD
  refine lc_list (K := K) (a := la) (xs := xs) (tt := tYes) (Qd := Q (.ref D)) (fun i H' => Same H H' ∧ Pl H' ∧ H' D = some (.lst (zs.take i))) ⟨Same.new hD, hP.lst, by rw [upd_same]; rfl⟩ (fun i H' _ p => p.1.seq hx) (fun i x H' ex p => ?_) (fun H' p => fin D H' p.1 p.2.1 (by rw [p.2.2, ← hz, List.take_length]))
  obtain ⟨s1, hP1, hDi⟩ := p
  have hlt : i < xs.length := (List.getElem?_eq_some_iff.mp ex).1
  obtain ⟨z, ez⟩ : ∃ z, zs[i]? = some z := ⟨zs[i], List.getElem?_eq_getElem (by omega)⟩
  refine step i x z H' _ ex ez s1 hP1 ⟨zs.take i, hDi, by rw [List.length_take]; omega, fun b o e => ?_, hP1.lst, by rw [upd_same, take_snocV ez]⟩
  rw [upd_ne (ne_of_none e hD)]
  exact s1 _ _ e
theorem tLc_one {K : PySem.W.Frag} {la : Addr} {xs : List V} (zs : List V) {g : TG} {te tl : TE} {vs : List Nat} {σ : St} {H : Hp} {Q : VK} (htl : ∀ R : VK, R (.ref la) H → tl σ H R)
    (hP : Pl H) (hx : SqL K H la xs) (hz : zs.length = xs.length) (hsz : xs.length ≤ sizeLine)
    (step : ∀ (i : Nat) (x z : V) (H' : Hp) (Nx : VK), xs[i]? = some x → zs[i]? = some z → Same H H' → Pl H' → Nx z H' →
      g x (wipe σ vs) H' fun σ2 H2 => wipe σ2 vs = wipe σ vs ∧ te σ2 H2 Nx)
    (fin : ∀ D H', Same H H' → Pl H' → H' D = some (.lst zs) → Q (.ref D) H') : tLc (iList K tl) g tYes te vs σ H Q :=
  htl _ ⟨la, rfl, ⟨xs, hx⟩, lc_one hP hx hz hsz step fin⟩
theorem map_at {α β : Type} {l : List α} {g : α → β} {i : Nat} {y : β} (h : (l.map g)[i]? = some y) : ∃ x, l[i]? = some x ∧ y = g x := by
  rw [List.getElem?_map] at h
  cases e : l[i]? with
  | none => rw [e] at h; cases h
  | some x => rw [e] at h; exact ⟨x, rfl, (Option.some.inj h).symm⟩
end L2
set_option linter.all false
set_option maxRecDepth 100000
set_option Elab.async false
namespace L2
open PySem PySem.Spec PyProof.Rows
open Sig
open Sp18Neutral (fmt)
theorem two_le_line : 2 ≤ sizeLine := by show 2 ≤ sizeLine; decide
theorem line_of_le {n : Nat} (h : n ≤ 100000) : n ≤ sizeLine := Nat.le_trans h (by rw [sizeLine_eq]; decide)
theorem line_of_lt {n : Nat} (h : n < 100000) : n < sizeLine := Nat.lt_of_lt_of_le h (by rw [sizeLine_eq]; decide)
theorem tab_mk {K : PySem.W.Frag} {h : Heap} {mg : Str → Option Value} {x : Str} {p : Addr} {g : Sp18.Format → Int} {od : Option Addr} {sl : Array (Option Value)} {a b : Int} {t u n : Nat} (X : K.In h) (G : h.Ns mainGlobals mg)
    (e : PySem.W.nsIn K mainGlobals x = some (some (.ref p))) (l : K.lookup p = some ⟨.type "tuple", od, .seq #[.int a t, .int b u] n, sl⟩) (ea : g Sp18.single = a) (eb : g Sp18.double = b) : Tab K mg x g := by
  subst ea eb
  exact ⟨p, PySem.W.mg_of X G e, fun H => .inr ⟨_, _, _, l, rfl, rfl, two_le_line, .cons ⟨_, rfl⟩ (.cons ⟨_, rfl⟩ .nil)⟩⟩
theorem vals_refs : ∀ fs : List Addr, Vals (fs.map V.ref) (fs.map Value.ref)
  | [] => .nil
  | f :: r => .cons rfl (vals_refs r)
section
variable {P : Program} {w : World} {K : PySem.W.Frag} {mg : Str → Option Value} {base : Heap} {k k' : Nat} {f : Addr} {fd : FuncData} {ps : List Str} {sp : Sp} {x : Str}
theorem def_mk (F : FnOk P w K mg base CX0 k f fd ps sp) (hm : mg x = some (.ref f)) (hk : PySem.W.keepIn K (.ref f) = true) (b : Binds K fd ps []) : Def P w K mg base x k ps sp := ⟨f, fd, F, hm, hk, b⟩
end
def gTup2 (i j : Nat) : TG := fun v σ H Q => ∃ a x y, v = .ref a ∧ H a = some (.tup [x, y]) ∧ Q ((σ.set i (some x)).set j (some y)) H
theorem pg_pair {X : Cx} {e1 e2 : Expr} {k i j : Nat} {pos : Pos} (hc : X.calm = true) (h1 : PG X e1 (gName i)) (h2 : PG X e2 (gName j))
    (hs : (assignEach [e1, e2] X.env).map (·.2) = assign e1 X.env :: (assignEach [e2] X.env).map (·.2) := by rfl) (hs2 : (assignEach [e2] X.env).map (·.2) = assign e2 X.env :: (assignEach [] X.env).map (·.2) := by rfl)
    (hn : (assignEach [e1, e2] X.env).length = 2 := by rfl) (hst : (assignEach [e1, e2] X.env).findIdx? (·.1) = none := by rfl) : PG X (.Tuple [e1, e2] k pos) (gTup2 i j) := by
  intro pins s σ H v u Q I r hw
  obtain ⟨a, x, y, e, hq, hw⟩ := hw
  exact pg_tup hc (pgs_cons h1 (pgs_cons h2 pgs_nil hs2) hs) hn hst pins s σ H v u Q I r ⟨a, [x, y], e, SqT.of hq, rfl, x, [y], rfl, y, [], rfl, rfl, hw⟩
theorem mag_lt2 (F : Sp18.Format) (a : Nat) : mag F a < 2 * HB F := by have := mag_lt F a; omega
theorem pl_of {H : Hp} (h : OnlyF H) : Pl H := fun b o e => by
  rcases h b with z | ⟨ob, u, z, ⟨xs, rfl⟩ | ⟨xs, rfl⟩⟩
  · rw [z] at e; cases e
  · rw [z] at e; cases e; trivial
  · rw [z] at e; cases e; trivial
theorem ftab_sq {K : PySem.W.Frag} {p : Addr} {od : Option Addr} {sl : Array (Option Value)} {fs : List Addr} {its : Array Value} {n : Nat}
    (l : K.lookup p = some ⟨.type "tuple", od, .seq its n, sl⟩) (ei : its = (fs.map Value.ref).toArray) (hl : fs.length ≤ 100000) : ∀ H, SqT K H p (fs.map V.ref) := by
  subst ei
  exact fun H => .inr ⟨_, _, _, l, rfl, rfl, by simpa using line_of_le hl, by simpa using vals_refs fs⟩
theorem ix_listK {X : Cx} {K : PySem.W.Frag} (e : X.K = K) : IxR X (rIxL K) := by subst e; exact ix_list
theorem ix_tupK {X : Cx} {K : PySem.W.Frag} (e : X.K = K) : IxR X (rIxT K) := by subst e; exact ix_tup
theorem call_lenK {X : Cx} {K : PySem.W.Frag} (e : X.K = K) : CallR X (.builtin "len") (fun xs H Q => ∃ x n, xs = [x] ∧ LenV K x H n ∧ Q (.int n) H) := by subst e; exact call_len
end L2
set_option linter.all false
set_option maxRecDepth 100000
set_option Elab.async false
namespace L2
open PySem PySem.Spec PyProof.Rows
open Sig
open Sp18Neutral (fmt)
def sp_ax : Sp := spI1 fun F a => ((Sp18.neg F a : Nat) : Int)
section
variable {P : Program} {w : World} {K : PySem.W.Frag} {mg : Str → Option Value} {base : Heap} {k : Nat} {f : Addr} {fd : FuncData} {ps : List Str}
end
def CMulG (i j : Int) : Prop := Builtin.Int.intBits i ≤ 2 ^ 20 ∧ Builtin.Int.intBits j ≤ 2 ^ 20
theorem op_mulG {X : Cx} : OpR X (binaryOp .Mult) (rI CMulG fun i j => .int (i * j)) := opI fun _ _ _ _ _ _ _ hc q => mul_int q (.of_bits hc.1 hc.2)
end L2
set_option linter.all false
set_option maxRecDepth 100000
set_option Elab.async false
namespace L2
open PySem PySem.Spec PyProof.Rows
open Sig
open Sp18Neutral (fmt)
end L2
set_option linter.all false
set_option maxRecDepth 100000
set_option Elab.async false
namespace L2
open PySem PySem.Spec PyProof.Rows
open Sig
open Sp18Neutral (fmt)
section
open PySem.AutoSeq1
theorem ext_tup (l : Addr) (xs : Array Value) (n : Nat) (b : Addr) (ys : Array Value) (m : Nat) (dd : Option Addr) (ss : Array (Option Value)) (h0 : ¬(!xs.isEmpty && Builtin.List.listTooLong (xs.size + ys.size)) = true) (h1 : xs.size ≤ sizeLine) (h2 : xs.size + ys.size ≤ sizeLine + 1) :
    Meets (Builtin.«list.extend» ⟨[.ref l, .ref b], []⟩) (fun _ R s => s.heap.get? l = some ⟨.type "list", none, .seq xs n, #[]⟩ ∧ s.heap.get? b = some ⟨.type "tuple", dd, .seq ys m, ss⟩ ∧
      R (.ok (.ret Value.none)) { s with heap := s.heap.update l (Obj.mapSeq fun x => x ++ ys), toks := s.toks }) :=
  .of_wp fun prog w A R s h => by
    obtain ⟨hp, g, d, tk, os⟩ := s
    obtain ⟨ql, qb, h⟩ := h
    have g1 := idx_int
    have g2 := AutoSeq1.sub_tuple_tuple
    have g3 := AutoSeq1.sub_list_list
    have g4 := AutoSeq1.sub_tuple_list
    have g5 := AutoSeq1.sub_list_tuple
    have hk : (xs ++ ys).size ≤ sizeLine + 1 := by
      rw [Array.size_append]
      exact h2
    wp_walk using (wpAny_updateSeq ql rfl (hz := h1) (_hz' := hk)), wpAny_loadPart' ql, wpAny_loadPart' qb
    exact ⟨_, rfl, h⟩
end
theorem mt_extendT {X : Cx} : MtM X "list.extend" rExtendT := by
  intro pins s σ H x vs v us Q I rx rv h
  obtain ⟨l, b, xs, zs, rfl, rfl, hH, hB, hz, q⟩ := h
  cases rx
  obtain ⟨u, rfl, ru⟩ := rv.one
  cases ru
  obtain ⟨z, its, n, r, hl, e⟩ := I.lstM hH
  obtain ⟨its2, r2, ⟨o, e2, hc, n2, hd⟩, z2⟩ := I.tuple (SqT.of hB)
  obtain ⟨oc, od, odt, osl⟩ := o
  dsimp only at hc hd
  subst hc hd
  have k2 := r2.length
  have k1 := r.length
  have hsz : its.toArray.size + its2.toArray.size ≤ sizeLine := by
    rw [List.size_toArray, List.size_toArray]
    omega
  have hlong : ¬ (!its.toArray.isEmpty && Builtin.List.listTooLong (its.toArray.size + its2.toArray.size)) = true := by
    rw [notLongL hsz, Bool.and_false]
    decide
  refine call_meets F.slot_list_extend ⟨_, e, rfl⟩ F.entry_list_extend (F.args_list_extend_2 _ _) (ext_tup l its.toArray n b its2.toArray n2 od osl hlong (by omega) (by omega)) ⟨e, e2, ?_⟩
  refine ⟨.non, _, I.lset (its' := its ++ its2) hH e (by simp) (r.append r2) ?_, rfl, q⟩
  rw [List.length_append]
  exact hz
theorem same_upd {H H' : Hp} {p : Addr} {o : HO} (s : Same H H') (e : H' p = some o) : Same (upd H p o) H' := fun b u q => by
  by_cases c : b = p
  · subst c
    rw [upd_same] at q
    rw [e]
    exact q
  · rw [upd_ne c] at q
    exact s _ _ q
section
variable {P : Program} {w : World} {K : PySem.W.Frag} {mg : Str → Option Value} {base : Heap} {k : Nat} {f : Addr} {fd : FuncData} {ps : List Str}
end
theorem none_of_upd {H : Hp} {p q : Addr} {o : HO} (h : upd H p o q = none) : H q = none := by
  by_cases c : q = p
  · subst c
    rw [upd_same] at h
    cases h
  · rw [upd_ne c] at h
    exact h
end L2
set_option linter.all false
set_option maxRecDepth 100000
set_option Elab.async false
namespace L2
open PySem PySem.Spec PyProof.Rows
open Sig
open Sp18Neutral (fmt)
def pickV (xs : List V) (lo hi st : Option Int) : List V :=
  (sliceRange (sliceBounds lo hi st xs.length).1 (sliceBounds lo hi st xs.length).2.1 (sliceBounds lo hi st xs.length).2.2).filterMap (xs[·]?)
theorem vals_pick {xs : List V} {us : List Value} (r : Vals xs us) : ∀ ns : List Nat, Vals (ns.filterMap (xs[·]?)) (ns.filterMap (us[·]?))
  | [] => .nil
  | n :: ns => by
    have ih := vals_pick r ns
    rw [List.filterMap_cons, List.filterMap_cons]
    cases e : xs[n]? with
    | none => rw [r.none_of e]; exact ih
    | some x =>
      obtain ⟨u, hu, ru⟩ := r.get e
      rw [hu]
      exact .cons ru ih
section
variable {X : Cx} {e st : Expr} {te : TE} {lo hi : Option Expr} {tl th ts : TO} {pos p2 : Pos}
def tSl3 (K : PySem.W.Frag) (te : TE) (tl th ts : TO) : TE := fun σ H Q => te σ H fun x H1 => tl σ H1 fun l H2 => th σ H2 fun u H3 => ts σ H3 fun c H4 =>
  ∃ a xs, x = .ref a ∧ SqL K H4 a xs ∧ c ≠ some 0 ∧ ∀ p, H4 p = none → Q (.ref p) (upd H4 p (.lst (pickV xs l u c)))
theorem pe_slice3 (he : PE X e te) (hl : PO X lo tl) (hu : PO X hi th) (hs : PO X (some st) ts) : PE X (.Subscript e (.Slice lo hi (some st) p2) pos) (tSl3 X.K te tl th ts) := by
  intro pins s σ H Q I h
  refine Subscript_ (thn (he pins s σ H _ I h) fun v s1 ⟨x, H1, I1, r1, q1⟩ => ?_)
  refine wpAny_Slice (thn (hl pins s1 σ H1 _ I1 q1) fun vl s2 ⟨l, H2, I2, pl, q2⟩ => thn (hu pins s2 σ H2 _ I2 q2) fun vu s3 ⟨u, H3, I3, pu, q3⟩ => thn (hs pins s3 σ H3 _ I3 q3) fun vs s4 ⟨c, H4, I4, pc, q4⟩ => ?_)
  obtain ⟨a, xs, rfl, hx, h0, q⟩ := q4
  cases r1
  have I5 : Inv X pins σ H4 { s4 with heap := s4.heap.push { cls := .type "slice", data := .fields #[vl, vu, vs] } } := I4.kept (t' := s4.toks) fun b ob q => Heap.get?_push_of_some _ q
  obtain ⟨its, r, ht, hz⟩ := I5.list hx
  have hlen := r.length
  show wpAny (model X.prog X.w) X.A (subscriptTail e (.Slice lo hi (some st) p2) (.ref a) (.ref s4.heap.objs.size)) (EP X pins σ Q) X.xe { s4 with heap := s4.heap.push { cls := .type "slice", data := .fields #[vl, vu, vs] } }
  refine tail_any (ops := [.ref a, .ref s4.heap.objs.size]) ht.isList.typeIs slot_list_getitem.lookup ?_ (by with_unfolding_all rfl)
  refine wpAny_getItem_list_slice ht.isList (Heap.IsSliceOf.new ..) pl pu pc h0 ?_ (by rw [List.size_toArray] <;> omega)
  have hsz := slicePick_size_le its.toArray l u c
  have e1 : slicePick its.toArray l u c = ((sliceRange (sliceBounds l u c xs.length).1 (sliceBounds l u c xs.length).2.1 (sliceBounds l u c xs.length).2.2).filterMap (its[·]?)).toArray := by
    unfold slicePick
    rw [List.size_toArray, ← hlen]
    simp only [List.getElem?_toArray]
  have hv := vals_pick r (sliceRange (sliceBounds l u c xs.length).1 (sliceBounds l u c xs.length).2.1 (sliceBounds l u c xs.length).2.2)
  have hl2 := hv.length
  rw [e1] at hsz ⊢
  rw [List.size_toArray, List.size_toArray] at hsz
  refine ⟨.ref _, _, I5.laid (t' := s4.toks) (o := .lst (pickV xs l u c)) (fun b ob q => Heap.get?_push_of_some _ q) (Nat.le_refl _) ?_, rfl, q _ (I5.hok.fresh (Nat.le_refl _))⟩
  refine ⟨?_, _, 0, hv, Heap.get?_push_size _ rfl⟩
  show (List.filterMap _ _).length ≤ _
  omega
theorem pe_slice3K {K : PySem.W.Frag} (e1 : X.K = K) (he : PE X e te) (hl : PO X lo tl) (hu : PO X hi th) (hs : PO X (some st) ts) : PE X (.Subscript e (.Slice lo hi (some st) p2) pos) (tSl3 K te tl th ts) := by
  subst e1; exact pe_slice3 he hl hu hs
end
theorem range_up {i n c : Nat} (hc : 0 < c) (hi : i ≤ n) : sliceRange (i : Int) (n : Int) (c : Int) = (List.range ((n - i + c - 1) / c)).map fun k => i + c * k := by
  unfold sliceRange
  rw [if_pos (by omega)]
  have e : (if (i : Int) < (n : Int) then ((n : Int) - i + c - 1) / c else 0).toNat = (n - i + c - 1) / c := by
    by_cases h : i < n
    · rw [if_pos (by omega), show ((n : Int) - i + c - 1) = ((n - i + c - 1 : Nat) : Int) by omega]
      exact congrArg Int.toNat (Int.natCast_ediv _ _).symm
    · rw [if_neg (by omega)]
      have : n - i = 0 := by omega
      rw [this]
      symm
      exact Nat.div_eq_of_lt (by omega)
  simp only [e]
  refine List.map_congr_left fun k _ => ?_
  rw [← Int.natCast_mul, ← Int.natCast_add]
  rfl
theorem pick_up {xs : List V} {i c : Nat} (hc : 0 < c) (hi : i ≤ xs.length) : pickV xs (some (i : Int)) none (some (c : Int)) = (List.range ((xs.length - i + c - 1) / c)).filterMap fun k => xs[i + c * k]? := by
  unfold pickV sliceBounds
  have e1 : (if (i : Int) < 0 then (i : Int) + (xs.length : Int) else i) = i := if_neg (by omega)
  have e2 : max 0 (min (i : Int) (xs.length : Int)) = i := by omega
  simp only [Option.getD_some, if_pos (show (c : Int) > 0 by omega), e1, e2]
  rw [range_up hc hi, List.filterMap_map]
  rfl
theorem pick_all {xs : List V} {i c m : Nat} (hc : 0 < c) (hi : i ≤ xs.length) (hm : m = (xs.length - i + c - 1) / c) : (pickV xs (some (i : Int)) none (some (c : Int))).length = m ∧ ∀ k, k < m → (pickV xs (some (i : Int)) none (some (c : Int)))[k]? = xs[i + c * k]? := by
  rw [pick_up hc hi, ← hm]
  have h : ∀ k, k < m → ∃ x, xs[i + c * k]? = some x := fun k hk => by
    refine ⟨_, List.getElem?_eq_getElem ?_⟩
    have : c * (k + 1) ≤ c * m := Nat.mul_le_mul_left c hk
    have h2 : c * m ≤ xs.length - i + c - 1 := by rw [hm]; exact Nat.mul_div_le _ _
    rw [Nat.mul_add] at this
    omega
  have e : ∀ m', m' ≤ m → ((List.range m').filterMap fun k => xs[i + c * k]?) = (List.range m').map fun k => (xs[i + c * k]?).getD .non := fun m' => by
    induction m' with
    | zero => intro; rfl
    | succ j ih =>
      intro hj
      rw [List.range_succ, List.filterMap_append, ih (by omega), List.map_append]
      obtain ⟨x, hx⟩ := h j (by omega)
      simp [hx]
  rw [e m (Nat.le_refl _)]
  refine ⟨by simp, fun k hk => ?_⟩
  obtain ⟨x, hx⟩ := h k hk
  rw [List.getElem?_map, List.getElem?_range hk, hx]
  simp [hx]
theorem twos_pick {a : List Int} (hev : a.length % 2 = 0) : pickV (a.map V.int) (some 0) none (some 2) = (twos a).map (fun y => V.int y.1) ∧ pickV (a.map V.int) (some 1) none (some 2) = (twos a).map (fun y => V.int y.2) := by
  have hl := twos_len (a.length / 2) a (by omega)
  have hA : (a.map V.int).length = a.length := by simp
  have key : ∀ (i : Nat) (g : Int × Int → Int), i ≤ a.length → (a.length - i + 2 - 1) / 2 = a.length / 2 → (∀ k x, (twos a)[k]? = some x → a[2 * k]? = some x.1 ∧ a[2 * k + 1]? = some x.2 → a[i + 2 * k]? = some (g x)) →
      pickV (a.map V.int) (some (i : Int)) none (some ((2 : Nat) : Int)) = (twos a).map (fun y => V.int (g y)) := by
    intro i g hi hm hg
    obtain ⟨h1, h2⟩ := pick_all (xs := a.map V.int) (i := i) (c := 2) (m := a.length / 2) (by decide) (by rw [hA]; exact hi) (by rw [hA]; exact hm.symm)
    apply List.ext_getElem?
    intro k
    by_cases hk : k < a.length / 2
    · rw [h2 k hk]
      obtain ⟨x, e1, e2⟩ := twos_nth (a := a) (m := a.length / 2) (by omega) hk
      rw [List.getElem?_map, hg k x e1 e2, List.getElem?_map, e1]
      rfl
    · rw [List.getElem?_eq_none (by omega), List.getElem?_eq_none (by rw [List.length_map]; omega)]
  refine ⟨key 0 (fun y => y.1) (Nat.zero_le _) (by omega) fun k x _ e => by rw [Nat.zero_add]; exact e.1, ?_⟩
  by_cases c : a.length = 0
  · have : a = [] := List.length_eq_zero_iff.mp c
    subst this
    rfl
  · exact key 1 (fun y => y.2) (by omega) (by omega) fun k x _ e => by rw [Nat.add_comm]; exact e.2
theorem tFor_enum {K : PySem.W.Frag} {la : Addr} {xs : List V} {ta : TA} {g : TG} {tb : TS} {D : Ends} {σ : St} {H : Hp} (hta : ∀ R : List V → Hp → Prop, R [.ref la] H → ta σ H R)
    (Pv : Nat → St → Hp → Prop) (h0 : Pv 0 σ H) (hq : ∀ i σ H, Pv i σ H → SqL K H la xs)
    (hs : ∀ i x T σ H, xs[i]? = some x → Pv i σ H → H T = none → g (.ref T) σ (upd H T (.tup [.int (i : Nat), x])) fun σ2 H2 => tb { D with nx := Pv (i + 1), ct := Pv (i + 1), bk := D.nx } σ2 H2)
    (hd : ∀ σ H, Pv xs.length σ H → D.nx σ H) : tFor (iEnum K ta) g tb D σ H := by
  refine hta _ ⟨la, xs, rfl, hq _ _ _ h0, ?_⟩
  refine ⟨fun i m σ H => m = xs.length - i ∧ i ≤ xs.length ∧ Pv i σ H, ⟨xs.length, by simp, Nat.zero_le _, h0⟩, ?_⟩
  rintro i m σ H ⟨rfl, hi, p⟩
  have hx' := hq i σ H p
  by_cases hlt : i < xs.length
  · obtain ⟨x, ex⟩ : ∃ x, xs[i]? = some x := ⟨xs[i], List.getElem?_eq_getElem hlt⟩
    refine .inr ⟨⟨xs, x, hx', ex⟩, Pv (i + 1), fun σ' H' p' => ⟨xs.length - (i + 1), by omega, rfl, hlt, p'⟩, ?_⟩
    rintro v H2 ⟨T, x1, rfl, hT, rfl, q1⟩
    have e1 : x1 = x := Option.some.inj ((q1 xs hx').symm.trans ex)
    subst e1
    exact hs i _ T σ H ex p hT
  · have e : i = xs.length := by omega
    subst e
    exact .inl ⟨⟨xs, hx', Nat.le_refl _⟩, hd σ H p⟩
def sp_as : Sp := fun vs H Q _ => ∃ g f a : Int, vs = [.int g, .int f, .int a] ∧ F01 g ∧ F01 f ∧ Nm f a ∧ Pl H ∧ Q (.int (Sp18.convert (fmt f) (fmt g) a.toNat : Nat)) H
def sp_in_formatS : Sp := fun vs H Q _ => ∃ g f a : Int, vs = [.int g, .int f, .int a] ∧ F01 g ∧ F01 f ∧ Nm f a ∧ Pl H ∧ ∀ H', Same H H' → Q (.int (Sp18.convert (fmt f) (fmt g) a.toNat : Nat)) H'
section
variable {P : Program} {w : World} {K : PySem.W.Frag} {mg : Str → Option Value} {base : Heap} {k : Nat} {f : Addr} {fd : FuncData} {ps : List Str}
theorem forgetCF (F : FnOk P w K mg base CX0 k f fd ps sp_in_formatS) : FnOk P w K mg base CX0 k f fd ps sp_as :=
  F.forget fun vs H Q E ⟨g, f, a, e, hg, hf, ha, hP, q⟩ => ⟨fun x H' => x = _ ∧ Same H H', ⟨g, f, a, e, hg, hf, ha, hP, fun H' s => ⟨rfl, s⟩⟩, fun x H' ⟨e1, s⟩ => ⟨H, Same.refl H, s, hP.self, e1 ▸ q⟩⟩
end
def sp_bb : Sp := fun vs H Q _ => ∃ a : Int, vs = [.int a] ∧ Nm 1 a ∧ Pl H ∧ Q (.int (Sp18.convert Sp18.double Sp18.single a.toNat : Nat)) H
def sp_al : Sp := fun vs H Q _ => ∃ f k : Int, vs = [.int f, .int k] ∧ F01 f ∧ -2147483648 ≤ k ∧ k ≤ 2147483647 ∧ Pl H ∧ Q (.int (Sp18.ofInt (fmt f) k : Nat)) H
end L2
set_option linter.all false
set_option maxRecDepth 100000
set_option Elab.async false
namespace L2
open PySem PySem.Spec PyProof.Rows
open Sig
open Sp18Neutral (fmt)
end L2
set_option linter.all false
set_option maxRecDepth 100000
set_option Elab.async false
namespace L2
open PySem PySem.Spec PyProof.Rows
open Sig
open Sp18Neutral (fmt)
structure New (P : Program) (w : World) (K : PySem.W.Frag) (mg : Str → Option Value) (base : Heap) (x : Str) (k : Nat) (C : Addr) (sp : Sp) : Prop where
  ex : ∃ (f : Addr) (fd : FuncData) (ps : List Str), Mk K C f ∧ FnOk P w K mg base CX0 k f fd ps sp ∧ mg x = some (.ref C) ∧ Binds K fd ps []
structure MOk (P : Program) (w : World) (K : PySem.W.Frag) (mg : Str → Option Value) (base : Heap) (kk : Nat) (C : Addr) (m : Str) (I : List V → Hp → VK → Prop) : Prop where
  ex : ∃ (f : Addr) (fd : FuncData) (ps : List Str) (sp : Sp), Cls K C ∧ Meth K C m f ∧ FnOk P w K mg base CX0 kk f fd ps sp ∧ Binds K fd ps [] ∧ ∀ vs H Q, I vs H Q → sp vs H Q E0
def ArM (P : Program) (w : World) (K : PySem.W.Frag) (mg : Str → Option Value) (base : Heap) (kk : Nat) (m : Str) (I : List V → Hp → VK → Prop) (H : Hp) (p : Addr) : Prop :=
  ∃ C dx fs, H p = some (.ins C dx fs) ∧ fs.lookup m = none ∧ MOk P w K mg base kk C m (fun vs H' Q => H' p = some (.ins C dx fs) ∧ ∃ us, vs = .ref p :: us ∧ I us H' Q)
theorem ArM.same {P : Program} {w : World} {K : PySem.W.Frag} {mg : Str → Option Value} {base : Heap} {kk : Nat} {m : Str} {I : List V → Hp → VK → Prop} {H H1 : Hp} {p : Addr} (h : ArM P w K mg base kk m I H p) (s : Same H H1) : ArM P w K mg base kk m I H1 p := by
  obtain ⟨C, dx, fs, e, l, M⟩ := h
  exact ⟨C, dx, fs, s _ _ e, l, M⟩
def tMethD (P : Program) (w : World) (K : PySem.W.Frag) (mg : Str → Option Value) (base : Heap) (kk : Nat) (m : Str) (ta : TE) (t : TA) : TE := fun σ H Q => ta σ H fun x H1 => ∃ a I, x = .ref a ∧ ArM P w K mg base kk m I H1 a ∧ t σ H1 fun us H2 => Same H1 H2 ∧ I us H2 Q
section
variable {X : Cx} {P : Program} {w : World} {K : PySem.W.Frag} {mg : Str → Option Value} {base : Heap} {kk k : Nat} {x m : Str} {p pos apos : Pos} {e o : Expr} {es : List Expr} {ta tv : TE} {t : TA} {C : Addr} {sp : Sp}
theorem pe_new (D : New X.prog X.w X.K X.mg X.base x k C sp) (hg : Gl X x) (hr : Room (k + 1) X.A) (hx : Passes CX0 X E0) (ha : PA X (e :: es) t) (hdb : (x == ("__debug__" : Str)) = false := by decide)
    (he : starEach (e :: es) X.env = (false, eval e X.env) :: starEach es X.env := by rfl) (hpl : (backTo pos (starEach es X.env)).any (·.1) = false := by rfl) :
    PE X (.Call (.Name x p) (e :: es) [] pos) (tMake C sp [] E0 t) := by
  obtain ⟨f, fd, ps, M, F, hm, hb⟩ := D.ex
  exact pe_make M F hr hg hm hb .nil hx ha hdb he hpl
theorem pe_methD {pl : Sem Bool} (e1 : X.prog = P) (e2 : X.w = w) (e3 : X.K = K) (e4 : X.mg = mg) (e5 : X.base = base) (hr : Room kk X.A) (ho : PE X o ta) (hx : Passes CX0 X E0) (ha : PA X (e :: es) t)
    (hst : starEach (e :: es) X.env = (false, eval e X.env) :: starEach es X.env := by rfl) (hpl : (backTo pos (starEach es X.env)).any (·.1) = false := by rfl)
    (ht : eval (.Call (.Attribute o m apos) (e :: es) [] pos) X.env = (do
      let ov ← eval o X.env
      standAt apos.atName
      let (f, first) ← holding [ov] (getMethod ov m pl)
      callWith pos f first (backTo pos (starEach (e :: es) X.env)) (backToKw pos (keywordEach [] X.env))) := by rfl) :
    PE X (.Call (.Attribute o m apos) (e :: es) [] pos) (tMethD P w K mg base kk m ta t) := by
  subst e1 e2 e3 e4 e5
  intro pins s σ H Q I h
  refine PySem.W.methodCall_KW (pl := pl) (thn (ho pins s σ H _ I h) fun u s1 ⟨x, H1, I1, rx, a, J, ex, ⟨C, dx, fs, ea, l, ⟨f, fd, ps, sp, c, hm, F, hb, hJ⟩⟩, q⟩ => ?_) ht
  subst ex
  obtain rfl : u = Value.ref a := rx
  refine getmeth_ok I1 ea c hm l ?_
  refine PySem.W.callWith_K (first := [.ref a]) (h₀ := X.base) I.ok.mod.kin hm.kp (thn (ha pos pins s1 σ H1 _ I1 q) fun us s2 ⟨vs, H2, I2, r, sm, q2⟩ => ⟨I2.kIn, ?_⟩) hst hpl
  exact run_fn (us := .ref a :: us) (vs := .ref a :: vs) (dvs := []) F hr hb .nil hx I2 (.cons rfl r) (by rw [List.append_nil]; exact hJ _ _ _ ⟨sm _ _ ea, vs, rfl, q2⟩)
theorem pe_fldK {f : Str} (e3 : X.K = K) (he : PE X e ta) (hb : attributeBase e f X.env (eval e X.env) = eval e X.env) : PE X (.Attribute e f pos) (tFld K ta f) := by subst e3; exact pe_fld he hb
theorem ps_fldK {f : Str} {value : Expr} {pos' : Pos} (e3 : X.K = K) (ha : PE X o ta) (hv : PE X value tv) (hs : swapsWith value (some (.Attribute o f pos')) pos.line X.env = pure false) : PS X (.Assign [.Attribute o f pos'] value pos) (sFld K ta tv f) := by subst e3; exact ps_fld ha hv hs
end
section
variable {P : Program} {w : World} {K : PySem.W.Frag} {mg : Str → Option Value} {base : Heap} {k kk : Nat} {f C : Addr} {fd : FuncData} {ps : List Str} {sp : Sp} {x m : Str} {I : List V → Hp → VK → Prop}
theorem new_mk (M : Mk K C f) (F : FnOk P w K mg base CX0 k f fd ps sp) (hm : mg x = some (.ref C)) (b : Binds K fd ps []) : New P w K mg base x k C sp := ⟨f, fd, ps, M, F, hm, b⟩
end
theorem Pl.ins {H : Hp} {p C dx : Addr} {fs : List (Str × V)} (h : Pl H) : Pl (upd H p (.ins C dx fs)) := h.put trivial
theorem Pl.own {H : Hp} {p x : Addr} (h : Pl H) : Pl (upd H p (.own x)) := h.put trivial
structure MHeld (P : Program) (w : World) (K : PySem.W.Frag) (mg : Str → Option Value) (base : Heap) (k : Nat) (C : Addr) (m : Str) (sp : Sp) : Prop where
  ex : ∃ (f : Addr) (fd : FuncData) (ps : List Str), Cls K C ∧ Meth K C m f ∧ FnOk P w K mg base CX0 k f fd ps sp ∧ Binds K fd ps []
theorem ar_of {P : Program} {w : World} {K : PySem.W.Frag} {mg : Str → Option Value} {base : Heap} {k kk : Nat} {C p dx : Addr} {m : Str} {sp : Sp} {I : List V → Hp → VK → Prop} {H : Hp} {fs : List (Str × V)} (M : MHeld P w K mg base k C m sp) (h : k ≤ kk) (e : H p = some (.ins C dx fs)) (l : fs.lookup m = none)
    (hI : ∀ us H' Q, H' p = some (.ins C dx fs) → I us H' Q → sp (.ref p :: us) H' Q E0) : ArM P w K mg base kk m I H p := by
  obtain ⟨f, fd, ps, c, hm, F, b⟩ := M.ex
  refine ⟨C, dx, fs, e, l, f, fd, ps, sp, c, hm, F.mono h, b, ?_⟩
  rintro vs H1 Q ⟨e1, us, rfl, q⟩
  exact hI us H1 Q e1 q
def plF (f : Int) : List (Str × V) := putF "f" (.int f) []
theorem plF_f (f : Int) : (plF f).lookup ("f" : Str) = some (.int f) := by unfold plF; rw [lookup_putF, if_pos rfl]
theorem plF_no (f : Int) {m : Str} (h : ¬ m = "f") : (plF f).lookup m = none := by unfold plF; rw [lookup_putF, if_neg h]; rfl
def sp_h (C : Addr) : Sp := fun vs H Q _ => ∃ (p dx : Addr) (f : Int), vs = [.ref p, .int f] ∧ H p = some (.ins C dx []) ∧ Q .non (upd H p (.ins C dx (plF f)))
def spP1 (C : Addr) (v : Sp18.Format → Nat → Nat) : Sp := fun vs H Q _ => ∃ (p dx : Addr) (f a : Int), vs = [.ref p, .int a] ∧ H p = some (.ins C dx (plF f)) ∧ F01 f ∧ Nm f a ∧ Pl H ∧ Q (.int (v (fmt f) a.toNat : Nat)) H
def spP2 (C : Addr) (v : Sp18.Format → Nat → Nat → Nat) : Sp := fun vs H Q _ => ∃ (p dx : Addr) (f a b : Int), vs = [.ref p, .int a, .int b] ∧ H p = some (.ins C dx (plF f)) ∧ F01 f ∧ Nm f a ∧ Nm f b ∧ Pl H ∧ Q (.int (v (fmt f) a.toNat b.toNat : Nat)) H
def sp_x (C : Addr) : Sp := spP1 C fun _ a => a
def sp_w (C : Addr) : Sp := spP1 C fun _ a => a
def sp_ad (C : Addr) : Sp := spP1 C Sp18.plain
def sp_ac (C : Addr) : Sp := spP1 C Sp18.neg
def sp_aj (C : Addr) : Sp := spP2 C Sp18.add
def sp_ai (C : Addr) : Sp := spP2 C Sp18.sub
def sp_aa (C : Addr) : Sp := spP2 C Sp18.mul
end L2
set_option linter.all false
set_option maxRecDepth 100000
set_option Elab.async false
namespace L2
open PySem PySem.Spec PyProof.Rows
open Sig
open Sp18Neutral (fmt)
abbrev Rel := Int → Nat → Nat → Prop
def Iplus (F : Sp18.Format) (R : Rel) (L : Nat) : List V → Hp → VK → Prop := fun us H Q => ∃ (z1 z2 : Int) (b1 b2 n1 n2 : Nat), us = [.int z1, .int z2] ∧ Pl H ∧ R z1 b1 n1 ∧ R z2 b2 n2 ∧ n1 + n2 ≤ L ∧ ∀ z, R z (Sp18.add F b1 b2) (n1 + n2) → Q (.int z) H
def Iless (F : Sp18.Format) (R : Rel) (L : Nat) : List V → Hp → VK → Prop := fun us H Q => ∃ (z1 z2 : Int) (b1 b2 n1 n2 : Nat), us = [.int z1, .int z2] ∧ Pl H ∧ R z1 b1 n1 ∧ R z2 b2 n2 ∧ n1 + n2 ≤ L ∧ ∀ z, R z (Sp18.sub F b1 b2) (n1 + n2) → Q (.int z) H
def Itimes (F : Sp18.Format) (R : Rel) (C : Int → Nat → Prop) : List V → Hp → VK → Prop := fun us H Q => ∃ (z1 z2 : Int) (b1 b2 n : Nat), us = [.int z1, .int z2] ∧ Pl H ∧ R z1 b1 n ∧ C z2 b2 ∧ ∀ z, R z (Sp18.mul F b1 b2) n → Q (.int z) H
def Iminus (F : Sp18.Format) (R : Rel) : List V → Hp → VK → Prop := fun us H Q => ∃ (z1 : Int) (b n : Nat), us = [.int z1] ∧ Pl H ∧ R z1 b n ∧ ∀ z, R z (Sp18.neg F b) n → Q (.int z) H
def Igiven (F : Sp18.Format) (R : Rel) : List V → Hp → VK → Prop := fun us H Q => ∃ (z1 : Int) (b n : Nat), us = [.int z1] ∧ Pl H ∧ R z1 b n ∧ Q (.int (Sp18.plain F b : Nat)) H
def Ifactor (C : Int → Nat → Prop) (T : Nat → Prop) : List V → Hp → VK → Prop := fun us H Q => ∃ (b : Nat), us = [.int (b : Nat)] ∧ Pl H ∧ T b ∧ ∀ z, C z b → Q (.int z) H
def RP (F : Sp18.Format) : Rel := fun z b _ => ∃ a : Nat, z = (a : Int) ∧ a < 2 * HB F ∧ b < 2 * HB F ∧ Sp18.of F a = Sp18.of F b
theorem RP.self {F : Sp18.Format} {b n : Nat} (h : b < 2 * HB F) : RP F (b : Int) b n := ⟨b, rfl, h, h, rfl⟩
section
variable {P : Program} {w : World} {K : PySem.W.Frag} {mg : Str → Option Value} {base : Heap} {C p dx : Addr} {f : Int} {H : Hp} {k kk : Nat}
theorem ar_plus (hf : F01 f) (M : MHeld P w K mg base k C "plus" (sp_aj C)) (h : k ≤ kk) (e : H p = some (.ins C dx (plF f))) (L : Nat) : ArM P w K mg base kk "plus" (Iplus (fmt f) (RP (fmt f)) L) H p :=
  ar_of M h e (plF_no f (by decide)) fun us H' Q e1 ⟨z1, z2, b1, b2, n1, n2, e2, hP, ⟨a1, r1, h1, h1', o1⟩, ⟨a2, r2, h2, h2', o2⟩, _, q⟩ => by
    subst r1 r2
    refine ⟨p, dx, f, (a1 : Int), (a2 : Int), by rw [e2], e1, hf, nm_of h1, nm_of h2, hP, q _ ?_⟩
    rw [Int.toNat_natCast, Int.toNat_natCast, add_of o1 o2]
    exact RP.self (add_lt hf.ok _ _)
theorem ar_times (hf : F01 f) (M : MHeld P w K mg base k C "times" (sp_aa C)) (h : k ≤ kk) (e : H p = some (.ins C dx (plF f))) : ArM P w K mg base kk "times" (Itimes (fmt f) (RP (fmt f)) (fun z b => RP (fmt f) z b 0)) H p :=
  ar_of M h e (plF_no f (by decide)) fun us H' Q e1 ⟨z1, z2, b1, b2, n, e2, hP, ⟨a1, r1, h1, h1', o1⟩, ⟨a2, r2, h2, h2', o2⟩, q⟩ => by
    subst r1 r2
    refine ⟨p, dx, f, (a1 : Int), (a2 : Int), by rw [e2], e1, hf, nm_of h1, nm_of h2, hP, q _ ?_⟩
    rw [Int.toNat_natCast, Int.toNat_natCast, mul_of o1 o2]
    exact RP.self (mul_lt hf.ok _ _)
end
end L2
set_option linter.all false
set_option maxRecDepth 100000
set_option Elab.async false
namespace L2
open PySem PySem.Spec PyProof.Rows
open Sig
open Sp18Neutral (fmt)
def SameX (D : Addr) (H1 H2 : Hp) : Prop := ∀ b o, b ≠ D → H1 b = some o → H2 b = some o
theorem SameX.of {D : Addr} {H1 H2 : Hp} (s : Same H1 H2) : SameX D H1 H2 := fun b o _ e => s b o e
theorem SameX.put {D : Addr} {H : Hp} {o : HO} : SameX D H (upd H D o) := fun b u hb e => by rw [upd_ne hb]; exact e
theorem lc_gen {J : It} {n : Nat} {g : TG} {te : TE} {vs : List Nat} {σ : St} {H : Hp} {Q : VK} (Φ : Addr → Nat → V → Hp → Prop) (mono : ∀ D i z H1 H2, SameX D H1 H2 → Φ D i z H1 → Φ D i z H2) (hP : Pl H) (hsz : n ≤ sizeLine)
    (hgo : ∀ i H', i < n → Same H H' → J.go i H') (hstop : ∀ H', Same H H' → J.stop n H')
    (step : ∀ D i H' x H'' (Nx : VK), i < n → Same H H' → Pl H' → (∃ acc, H' D = some (.lst acc)) → J.yld i H' x H'' → (∀ z H4, Same H' H4 → Pl H4 → Φ D i z H4 → Nx z H4) → g x (wipe σ vs) H'' fun σ2 H2 => wipe σ2 vs = wipe σ vs ∧ te σ2 H2 Nx)
    (fin : ∀ D H' (zs : List V), Same H H' → Pl H' → zs.length = n → (∀ (i : Nat) (z : V), zs[i]? = some z → Φ D i z H') → H D = none → H' D = some (.lst zs) → Q (.ref D) H') :
    ∀ D, H D = none → ∃ W : Nat → Nat → Hp → Prop, (∃ m, W 0 m (upd H D (.lst []))) ∧ ∀ i m H, W i m H →
      (J.stop i H ∧ Q (.ref D) H) ∨ (J.go i H ∧ ∃ Nx : Hp → Prop, (∀ H', Nx H' → ∃ m', m' < m ∧ W (i + 1) m' H') ∧ ∀ x H', J.yld i H x H' → g x (wipe σ vs) H' fun σ2 H2 => wipe σ2 vs = wipe σ vs ∧ tYes σ2 H2 fun b H3 =>
        if b = true then te σ2 H3 fun y H4 => ∃ acc, H4 D = some (.lst acc) ∧ acc.length < sizeLine ∧ Nx (upd H4 D (.lst (acc ++ [y]))) else Nx H3) := by
  intro D hD
  refine ⟨fun i m H' => m = n - i ∧ i ≤ n ∧ Same H H' ∧ Pl H' ∧ ∃ zs : List V, zs.length = i ∧ (∀ (j : Nat) (z : V), zs[j]? = some z → Φ D j z H') ∧ H' D = some (.lst zs), ⟨n, by simp, Nat.zero_le _, Same.new hD, hP.lst, [], rfl, fun j z e => by simp at e, upd_same⟩, ?_⟩
  rintro i m H' ⟨rfl, hi, s1, hP1, zs, hzl, hzs, hDi⟩
  by_cases hlt : i < n
  · right
    refine ⟨hgo i H' hlt s1, fun H2 => Same H H2 ∧ Pl H2 ∧ ∃ zs : List V, zs.length = i + 1 ∧ (∀ (j : Nat) (z : V), zs[j]? = some z → Φ D j z H2) ∧ H2 D = some (.lst zs), fun H2 h2 => ⟨n - (i + 1), by omega, rfl, hlt, h2.1, h2.2.1, h2.2.2⟩, ?_⟩
    intro x H2 hy
    refine step D i H' x H2 (fun y H4 => ∃ acc, H4 D = some (.lst acc) ∧ acc.length < sizeLine ∧ (Same H (upd H4 D (.lst (acc ++ [y]))) ∧ Pl (upd H4 D (.lst (acc ++ [y]))) ∧ ∃ zs : List V, zs.length = i + 1 ∧ (∀ (j : Nat) (z : V), zs[j]? = some z → Φ D j z (upd H4 D (.lst (acc ++ [y])))) ∧ (upd H4 D (.lst (acc ++ [y]))) D = some (.lst zs))) hlt s1 hP1 ⟨zs, hDi⟩ hy ?_
    intro z H4 s4 hP4 hz
    refine ⟨zs, s4 _ _ hDi, by omega, fun b o e => ?_, hP4.lst, zs ++ [z], by rw [List.length_append, hzl]; rfl, fun j v e => ?_, upd_same⟩
    · rw [upd_ne (ne_of_none e hD)]
      exact s4 _ _ (s1 _ _ e)
    · by_cases c : j < zs.length
      · rw [List.getElem?_append_left c] at e
        exact mono _ _ _ _ _ SameX.put (mono _ _ _ _ _ (SameX.of s4) (hzs j v e))
      · rw [List.getElem?_append_right (by omega)] at e
        have hj : j - zs.length = 0 := by
          cases q : j - zs.length with
          | zero => rfl
          | succ k => rw [q] at e; simp at e
        rw [hj] at e
        have e2 : z = v := Option.some.inj e
        subst e2
        rw [show j = i by omega]
        exact mono _ _ _ _ _ SameX.put hz
  · left
    have e : i = n := by omega
    subst e
    exact ⟨hstop H' s1, fin D H' zs s1 hP1 hzl hzs hD hDi⟩
theorem tLc_listG {K : PySem.W.Frag} {xs : List V} {g : TG} {te tl : TE} {vs : List Nat} {σ : St} {H : Hp} {Q : VK} (Φ : Addr → Nat → V → Hp → Prop) (mono : ∀ D i z H1 H2, SameX D H1 H2 → Φ D i z H1 → Φ D i z H2)
    (htl : ∀ R : VK, (∀ la H1, Same H H1 → Pl H1 → SqL K H1 la xs → R (.ref la) H1) → tl σ H R) (hsz : xs.length ≤ sizeLine)
    (step : ∀ D i x H' (Nx : VK), xs[i]? = some x → Same H H' → Pl H' → (∃ acc, H' D = some (.lst acc)) → (∀ z H4, Same H' H4 → Pl H4 → Φ D i z H4 → Nx z H4) → g x (wipe σ vs) H' fun σ2 H2 => wipe σ2 vs = wipe σ vs ∧ te σ2 H2 Nx)
    (fin : ∀ D H' (zs : List V), Same H H' → Pl H' → zs.length = xs.length → (∀ (i : Nat) (z : V), zs[i]? = some z → Φ D i z H') → H D = none → H' D = some (.lst zs) → Q (.ref D) H') : tLc (iList K tl) g tYes te vs σ H Q := by
  refine htl _ fun la H1 s0 hP hx => ⟨la, rfl, ⟨xs, hx⟩, ?_⟩
  refine lc_gen (n := xs.length) Φ mono hP hsz (fun i H' hi s1 => ⟨xs, xs[i], s1.seq hx, List.getElem?_eq_getElem hi⟩) (fun H' s1 => ⟨xs, s1.seq hx, Nat.le_refl _⟩) ?_ (fun D H' zs s1 hP1 hz hΦ hD e => fin D H' zs (s0.trans s1) hP1 hz hΦ (by
    cases c : H D with
    | none => rfl
    | some o => rw [s0 _ _ c] at hD; cases hD) e)
  rintro D i H' v H2 Nx hi s1 hP1 hacc ⟨rfl, q1⟩ kN
  exact step D i v _ Nx (q1 xs (s1.seq hx)) (s0.trans s1) hP1 hacc kN
theorem tLc_rngG {n : Nat} {g : TG} {te : TE} {ta : TA} {vs : List Nat} {σ : St} {H : Hp} {Q : VK} (Φ : Addr → Nat → V → Hp → Prop) (mono : ∀ D i z H1 H2, SameX D H1 H2 → Φ D i z H1 → Φ D i z H2)
    (hta : ∀ R : List V → Hp → Prop, R [.int (n : Nat)] H → ta σ H R) (hP : Pl H) (hsz : n ≤ 100000)
    (step : ∀ D i H' (Nx : VK), i < n → Same H H' → Pl H' → (∃ acc, H' D = some (.lst acc)) → (∀ z H4, Same H' H4 → Pl H4 → Φ D i z H4 → Nx z H4) → g (.int (i : Nat)) (wipe σ vs) H' fun σ2 H2 => wipe σ2 vs = wipe σ vs ∧ te σ2 H2 Nx)
    (fin : ∀ D H' (zs : List V), Same H H' → Pl H' → zs.length = n → (∀ (i : Nat) (z : V), zs[i]? = some z → Φ D i z H') → H D = none → H' D = some (.lst zs) → Q (.ref D) H') : tLc (iRng1 ta) g tYes te vs σ H Q := by
  refine hta _ ⟨(n : Int), rfl, by omega, by omega, ?_⟩
  rw [Int.toNat_natCast]
  refine lc_gen (n := n) Φ mono hP (line_of_le hsz) (fun i H' hi s1 => hi) (fun H' s1 => Nat.le_refl _) ?_ fin
  rintro D i H' v H2 Nx hi s1 hP1 hacc ⟨rfl, rfl⟩ kN
  rw [Int.zero_add]
  exact step D i _ Nx hi s1 hP1 hacc kN
section
variable {P : Program} {w : World} {K : PySem.W.Frag} {mg : Str → Option Value} {base : Heap} {C p dx : Addr} {f : Int} {H : Hp} {k kk : Nat}
end
end L2
set_option linter.all false
set_option maxRecDepth 100000
set_option Elab.async false
namespace L2
open PySem PySem.Spec PyProof.Rows
open Sig
open Sp18Neutral (fmt)
def spV {ι : Type} (args : ι → List V) (X : ι → Hp → Prop) (r : ι → V) : Sp := fun vs H Q _ => ∃ i, vs = args i ∧ X i H ∧ Pl H ∧ Q (r i) H
def spVS {ι : Type} (args : ι → List V) (X : ι → Hp → Prop) (r : ι → V) : Sp := fun vs H Q _ => ∃ i, vs = args i ∧ X i H ∧ Pl H ∧ ∀ H', Same H H' → Q (r i) H'
def spT {ι : Type} (args : ι → List V) (X : ι → Hp → Prop) (r : ι → List V) : Sp := fun vs H Q _ => ∃ i, vs = args i ∧ X i H ∧ Pl H ∧ ∀ p, H p = none → Q (.ref p) (upd H p (.tup (r i)))
def spTS {ι : Type} (args : ι → List V) (X : ι → Hp → Prop) (r : ι → List V) : Sp := fun vs H Q _ => ∃ i, vs = args i ∧ X i H ∧ Pl H ∧ ∀ H' p, Same H H' → H p = none → H' p = some (.tup (r i)) → Q (.ref p) H'
section
variable {P : Program} {w : World} {K : PySem.W.Frag} {mg : Str → Option Value} {base : Heap} {k : Nat} {f : Addr} {fd : FuncData} {ps : List Str} {ι : Type} {args : ι → List V} {X : ι → Hp → Prop}
theorem forgetV {r : ι → V} (F : FnOk P w K mg base CX0 k f fd ps (spVS args X r)) : FnOk P w K mg base CX0 k f fd ps (spV args X r) :=
  F.forget fun vs H Q E ⟨i, e, hX, hP, q⟩ => ⟨fun x H' => x = r i ∧ Same H H', ⟨i, e, hX, hP, fun H' s => ⟨rfl, s⟩⟩, fun x H' ⟨e1, s⟩ => ⟨H, Same.refl H, s, hP.self, e1 ▸ q⟩⟩
theorem forgetT {r : ι → List V} (F : FnOk P w K mg base CX0 k f fd ps (spTS args X r)) : FnOk P w K mg base CX0 k f fd ps (spT args X r) :=
  F.forget fun vs H Q E ⟨i, e, hX, hP, q⟩ => ⟨fun x H' => ∃ p, x = .ref p ∧ Same H H' ∧ H p = none ∧ H' p = some (.tup (r i)), ⟨i, e, hX, hP, fun H' p s n t => ⟨p, rfl, s, n, t⟩⟩, fun x H' ⟨p, e1, s, n, t⟩ => ⟨_, Same.new n, same_upd s t, hP.tupF, e1 ▸ q p n⟩⟩
end
def gTupK (K : PySem.W.Frag) (i j : Nat) : TG := fun v σ H Q => ∃ a x y, v = .ref a ∧ SqT K H a [x, y] ∧ Q ((σ.set i (some x)).set j (some y)) H
theorem pg_pairK {X : Cx} {K : PySem.W.Frag} {e1 e2 : Expr} {k i j : Nat} {pos : Pos} (eK : X.K = K) (hc : X.calm = true) (h1 : PG X e1 (gName i)) (h2 : PG X e2 (gName j))
    (hs : (assignEach [e1, e2] X.env).map (·.2) = assign e1 X.env :: (assignEach [e2] X.env).map (·.2) := by rfl) (hs2 : (assignEach [e2] X.env).map (·.2) = assign e2 X.env :: (assignEach [] X.env).map (·.2) := by rfl)
    (hn : (assignEach [e1, e2] X.env).length = 2 := by rfl) (hst : (assignEach [e1, e2] X.env).findIdx? (·.1) = none := by rfl) : PG X (.Tuple [e1, e2] k pos) (gTupK K i j) := by
  subst eK
  intro pins s σ H v u Q I r hw
  obtain ⟨a, x, y, e, hq, hw⟩ := hw
  exact pg_tup hc (pgs_cons h1 (pgs_cons h2 pgs_nil hs2) hs) hn hst pins s σ H v u Q I r ⟨a, [x, y], e, hq, rfl, x, [y], rfl, y, [], rfl, rfl, hw⟩
theorem pg_tupK {X : Cx} {K : PySem.W.Frag} {es : List Expr} {k : Nat} {t : TGs} {n : Nat} {pos : Pos} (eK : X.K = K) (hc : X.calm = true) (h : PGs X es t)
    (hn : (assignEach es X.env).length = n := by rfl) (hst : (assignEach es X.env).findIdx? (·.1) = none := by rfl) : PG X (.Tuple es k pos) (gTup K n t) := by subst eK; exact pg_tup hc h hn hst
theorem pi_tupK {X : Cx} {K : PySem.W.Frag} {tg l : Expr} {tl : TE} (eK : X.K = K) (hl : PE X l tl) : PI X tg l (iTup K tl) := by subst eK; exact pi_tup hl
theorem pi_listK {X : Cx} {K : PySem.W.Frag} {tg l : Expr} {tl : TE} (eK : X.K = K) (hl : PE X l tl) : PI X tg l (iList K tl) := by subst eK; exact pi_list hl
def sp_bs : Sp := spV (ι := Nat) (fun a => [.int (a : Nat)]) (fun a _ => Ok a) (fun a => .int (Sp18.neg DD a : Nat))
def sp_bu : Sp := spV (ι := Nat × Nat) (fun i => [.int (i.1 : Nat), .int (i.2 : Nat)]) (fun i _ => 0 < i.1 ∧ i.1 ≤ 8192 ∧ 0 < i.2 ∧ i.2 ≤ 8192) (fun i => .int (Sp18.share i.1 i.2 : Nat))
def sp_bn (K : PySem.W.Frag) : Sp := spV (ι := Addr × List Nat × Nat) (fun i => [.ref i.1, .int (i.2.2 : Nat)]) (fun i H => SqT K H i.1 (i.2.1.map fun n => V.int (n : Nat)) ∧ i.2.1.length = 6 ∧ (∀ c ∈ i.2.1, c < 2 * HB DD) ∧ i.2.2 < 2 * HB DD) (fun i => .int (Sp18.horner i.2.2 i.2.1 : Nat))
def sp_ak : Sp := spV (ι := Nat) (fun a => [.int (a : Nat)]) (fun a _ => a < 2 * HB DD) (fun a => .int (Sp18.sine a : Nat))
def sp_p : Sp := spV (ι := Nat) (fun a => [.int (a : Nat)]) (fun a _ => a < 2 * HB DD) (fun a => .int (Sp18.cosine a : Nat))
def sp_d : Sp := spT (ι := Nat × Nat) (fun i => [.int (i.1 : Nat), .int (i.2 : Nat)]) (fun i _ => 0 < i.2 ∧ i.2 < i.1 ∧ i.1 ≤ 8192) (fun i => [.int ((Sp18.within i.1 i.2).1 : Nat), .int ((Sp18.within i.1 i.2).2 : Nat)])
def sp_a : Sp := spT (ι := Nat × Nat) (fun i => [.int (i.1 : Nat), .int (i.2 : Nat)]) (fun i _ => 0 < i.1 ∧ i.1 ≤ 8192) (fun i => [.int (4 * i.2 / i.1 % 4 : Nat), .int (4 * i.2 % i.1 : Nat)])
def sp_e (K : PySem.W.Frag) : Sp := fun vs H Q _ => ∃ n j : Nat, vs = [.int (n : Nat), .int (j : Nat)] ∧ 0 < n ∧ n ≤ 8192 ∧ Pl H ∧
  ∀ H' p, Same H H' → Pl H' → SqT K H' p [.int ((Sp18.angle n j).1 : Nat), .int ((Sp18.angle n j).2 : Nat)] → Q (.ref p) H'
def sp_ar : Sp := spV (ι := Int × Nat) (fun i => [.int i.1, .int (i.2 : Nat)]) (fun i _ => F01 i.1 ∧ i.2 < 2 * HB DD ∧ (i.1 = 1 → mag DD i.2 ≤ Sp18.top DD)) (fun i => .int (Sp18.convert Sp18.double (fmt i.1) i.2 : Nat))
def TupsAt (H : Hp) (as : List Addr) (l : List (Int × Int)) : Prop := as.length = l.length ∧ ∀ (i : Nat) (a : Addr) (x : Int × Int), as[i]? = some a → l[i]? = some x → H a = some (.tup [.int x.1, .int x.2])
theorem TupsAt.snoc {H : Hp} {as : List Addr} {l : List (Int × Int)} {a : Addr} {x : Int × Int} (h : TupsAt H as l) (e : H a = some (.tup [.int x.1, .int x.2])) : TupsAt H (as ++ [a]) (l ++ [x]) := by
  refine ⟨by rw [List.length_append, List.length_append, h.1]; rfl, fun i b y e1 e2 => ?_⟩
  by_cases c : i < as.length
  · rw [List.getElem?_append_left c] at e1
    rw [List.getElem?_append_left (by rw [← h.1]; exact c)] at e2
    exact h.2 i b y e1 e2
  · rw [List.getElem?_append_right (by omega)] at e1
    rw [List.getElem?_append_right (by rw [← h.1]; omega)] at e2
    have hj : i - as.length = 0 := by
      cases q : i - as.length with
      | zero => rfl
      | succ k => rw [q] at e1; simp at e1
    rw [hj] at e1
    rw [← h.1, hj] at e2
    cases e1
    cases e2
    exact e
theorem TupsAt.keep {H H' : Hp} {as : List Addr} {l : List (Int × Int)} (h : TupsAt H as l) (k : ∀ b xs, H b = some (.tup xs) → H' b = some (.tup xs)) : TupsAt H' as l := ⟨h.1, fun i a x e1 e2 => k _ _ (h.2 i a x e1 e2)⟩
theorem tups_ne {H : Hp} {p b : Addr} {xs ys : List V} (h : H p = some (.lst xs)) (e : H b = some (.tup ys)) : b ≠ p := fun z => by rw [z, h] at e; cases e
def PairsAt (K : PySem.W.Frag) (H : Hp) (p : Addr) (l : List (Int × Int)) : Prop := ∃ as : List Addr, SqL K H p (as.map V.ref) ∧ as.length = l.length ∧ ∀ (i : Nat) (a : Addr) (x : Int × Int), as[i]? = some a → l[i]? = some x → H a = some (.tup [.int x.1, .int x.2])
theorem PairsAt.same {K : PySem.W.Frag} {H H' : Hp} {p : Addr} {l : List (Int × Int)} (h : PairsAt K H p l) (s : Same H H') : PairsAt K H' p l := by
  obtain ⟨as, h1, h2, h3⟩ := h
  exact ⟨as, s.seq h1, h2, fun i a x e1 e2 => s _ _ (h3 i a x e1 e2)⟩
def intC (l : List Sp18.C) : List (Int × Int) := l.map fun x => ((x.1 : Int), (x.2 : Int))
def sp_b (K : PySem.W.Frag) : Sp := fun vs H Q _ => ∃ (p : Addr) (l : List (Int × Int)), vs = [.ref p] ∧ PairsAt K H p l ∧ l.length ≤ 30000 ∧ Pl H ∧
  ∀ H' q, Same H H' → Pl H' → H q = none → H' q = some (.lst ((l.flatMap fun x => [x.1, x.2]).map V.int)) → Q (.ref q) H'
theorem Same.seqT {K : PySem.W.Frag} {H H' : Hp} {a : Addr} {xs : List V} (e : Same H H') (h : SqT K H a xs) : SqT K H' a xs := by
  rcases h with (h | ⟨o, h⟩) | h
  · exact .inl (.inl (e _ _ h))
  · exact .inl (.inr ⟨o, e _ _ h⟩)
  · exact .inr h
theorem tFor_rng1 {n : Nat} {ta : TA} {g : TG} {tb : TS} {D : Ends} {σ : St} {H : Hp} (hta : ∀ R : List V → Hp → Prop, R [.int (n : Nat)] H → ta σ H R) (hn : n ≤ 100000) (Pv : Nat → St → Hp → Prop) (h0 : Pv 0 σ H)
    (hs : ∀ i σ H, i < n → Pv i σ H → g (.int (i : Nat)) σ H fun σ2 H2 => tb { D with nx := Pv (i + 1), ct := Pv (i + 1), bk := D.nx } σ2 H2) (hd : ∀ σ H, Pv n σ H → D.nx σ H) : tFor (iRng1 ta) g tb D σ H := by
  refine hta _ ⟨(n : Int), rfl, by omega, by omega, ?_⟩
  rw [Int.toNat_natCast]
  refine for_range Pv h0 (fun i σ H hi p => ?_) hd
  rw [Int.zero_add]
  exact hs i σ H hi p
theorem tFor_list {K : PySem.W.Frag} {la : Addr} {xs : List V} {tl : TE} {g : TG} {tb : TS} {D : Ends} {σ : St} {H : Hp} (htl : ∀ R : VK, R (.ref la) H → tl σ H R) (Pv : Nat → St → Hp → Prop) (h0 : Pv 0 σ H) (hq : ∀ i σ H, Pv i σ H → SqL K H la xs)
    (hs : ∀ i x σ H, xs[i]? = some x → Pv i σ H → g x σ H fun σ2 H2 => tb { D with nx := Pv (i + 1), ct := Pv (i + 1), bk := D.nx } σ2 H2) (hd : ∀ σ H, Pv xs.length σ H → D.nx σ H) : tFor (iList K tl) g tb D σ H :=
  htl _ ⟨la, rfl, ⟨xs, hq _ _ _ h0⟩, for_list Pv h0 (fun i σ H _ p => hq i σ H p) hs hd⟩
theorem six_of {l : List Nat} (h : l.length = 6) : ∃ a b c d e f, l = [a, b, c, d, e, f] := by
  match l, h with
  | [a, b, c, d, e, f], _ => exact ⟨a, b, c, d, e, f, rfl⟩
theorem sine_hlt (z : Nat) : Sp18.horner z Sp18.SINE < 2 * HB DD := add_lt sD.ok _ _
theorem cosine_hlt (z : Nat) : Sp18.horner z Sp18.COSINE < 2 * HB DD := add_lt sD.ok _ _
theorem sine_cs : ∀ c ∈ Sp18.SINE, c < 2 * HB DD := by decide
theorem cosine_cs : ∀ c ∈ Sp18.COSINE, c < 2 * HB DD := by decide
theorem mul_ltD (a b : Nat) : Sp18.mul DD a b < 2 * HB DD := mul_lt sD.ok a b
theorem add_ltD (a b : Nat) : Sp18.add DD a b < 2 * HB DD := add_lt sD.ok a b
theorem sub_ltD (a b : Nat) : Sp18.sub DD a b < 2 * HB DD := add_lt sD.ok a _
theorem log2_small {n : Nat} (h : n ≤ 8192) : (n : Int).natAbs.log2 < 9000 := by
  rw [Int.natAbs_natCast]
  have := log2_bd (k := 14) (show n < 2 ^ 14 by omega)
  omega
theorem fmt_one : fmt 1 = DD := rfl
theorem F01_one : F01 1 := .inr rfl
theorem flat_len (l : List (Int × Int)) : (l.flatMap fun x => [x.1, x.2]).length = 2 * l.length := by
  induction l with
  | nil => rfl
  | cons x z ih => rw [List.flatMap_cons, List.length_append, ih]; simp; omega
theorem flats_flat (l : List Sp18.C) : flats l = (intC l).flatMap fun x => [x.1, x.2] := by
  unfold flats Sp18.flat intC
  induction l with
  | nil => rfl
  | cons x l ih =>
    rw [List.flatMap_cons, List.map_append, ih]
    rfl
end L2
set_option linter.all false
set_option maxRecDepth 100000
set_option Elab.async false
namespace L2
open PySem PySem.Spec PyProof.Rows
open Sig
open Sp18Neutral (fmt)
theorem bits_eq {x : Int} : Builtin.Int.intBits x = bitsOf x := by
  unfold Builtin.Int.intBits bitsOf
  by_cases h : x = 0
  · subst h; rfl
  · rw [if_neg h, if_neg (by simpa using h)]
def sp_bi : Sp := spV (ι := Int × Nat × Nat) (fun i => [.int i.1, .int (i.2.1 : Nat), .int (i.2.2 : Nat)]) (fun i _ => F01 i.1 ∧ i.2.1 < 2 * HB (fmt i.1) ∧ 0 ≤ expo (fmt i.1) (mag (fmt i.1) i.2.1) + i.2.2 ∧ i.2.2 ≤ 5000) (fun i => .int (cntF (fmt i.1) i.2.2 i.2.1))
def sp_bo : Sp := spV (ι := Int × Nat × Nat) (fun i => [.int i.1, .int (i.2.1 : Nat), .int (i.2.2 : Nat)]) (fun i _ => 24 ≤ i.2.1 ∧ i.2.1 ≤ 53 ∧ i.2.2 ≤ 5000 ∧ bitsOf i.1 ≤ 9000) (fun i => .int (fitV i.1 i.2.1 i.2.2))
def sp_aq (K : PySem.W.Frag) : Sp := fun vs H Q _ => ∃ (f : Int) (la : Addr) (a : List Int) (m : Nat), vs = [.int f, .ref la, .int (m : Nat)] ∧ F01 f ∧ Pl H ∧ SqL K H la (a.map V.int) ∧ (∀ z ∈ a, Nm f z) ∧
  Q (.bl (decide (∀ z ∈ a, mag (fmt f) z.toNat < m))) H
def spF (f : Int) (q : Nat) : List (Str × V) := putF "factor_places" (.int (q : Nat)) (putF "width" (.int ((fmt f).p : Nat)) (putF "places" (.int (64 - (fmt f).least)) (putF "f" (.int f) [])))
theorem spF_f (f : Int) (q : Nat) : (spF f q).lookup ("f" : Str) = some (.int f) := by
  unfold spF; rw [lookup_putF, if_neg (by decide), lookup_putF, if_neg (by decide), lookup_putF, if_neg (by decide), lookup_putF, if_pos rfl]
theorem spF_p (f : Int) (q : Nat) : (spF f q).lookup ("places" : Str) = some (.int (64 - (fmt f).least)) := by
  unfold spF; rw [lookup_putF, if_neg (by decide), lookup_putF, if_neg (by decide), lookup_putF, if_pos rfl]
theorem spF_w (f : Int) (q : Nat) : (spF f q).lookup ("width" : Str) = some (.int ((fmt f).p : Nat)) := by
  unfold spF; rw [lookup_putF, if_neg (by decide), lookup_putF, if_pos rfl]
theorem spF_q (f : Int) (q : Nat) : (spF f q).lookup ("factor_places" : Str) = some (.int (q : Nat)) := by
  unfold spF; rw [lookup_putF, if_pos rfl]
theorem spF_no (f : Int) (q : Nat) {m : Str} (h1 : ¬ m = "f") (h2 : ¬ m = "places") (h3 : ¬ m = "width") (h4 : ¬ m = "factor_places") : (spF f q).lookup m = none := by
  unfold spF; rw [lookup_putF, if_neg h4, lookup_putF, if_neg h3, lookup_putF, if_neg h2, lookup_putF, if_neg h1]; rfl
def sp_f (C : Addr) : Sp := fun vs H Q _ => ∃ (p dx : Addr) (f : Int) (q : Nat), vs = [.ref p, .int f, .int (q : Nat)] ∧ F01 f ∧ H p = some (.ins C dx []) ∧ ∀ H', (∀ b o, b ≠ p → H b = some o → H' b = some o) → (∀ b, b ≠ p → H b = none → H' b = none) → H' p = some (.ins C dx (spF f q)) → Q .non H'
def InS (C : Addr) (H : Hp) (p : Addr) (f : Int) (q : Nat) : Prop := ∃ dx, H p = some (.ins C dx (spF f q))
def sp_v (C : Addr) : Sp := fun vs H Q _ => ∃ (p : Addr) (f : Int) (q b : Nat), vs = [.ref p, .int (b : Nat)] ∧ InS C H p f q ∧ F01 f ∧ b < 2 * HB (fmt f) ∧ mag (fmt f) b < Sp18.top (fmt f) ∧ Pl H ∧ Q (.int (NN (fmt f) b)) H
def sp_u (C : Addr) : Sp := fun vs H Q _ => ∃ (p : Addr) (f : Int) (q b : Nat), vs = [.ref p, .int (NN (fmt f) b)] ∧ InS C H p f q ∧ F01 f ∧ b < 2 * HB (fmt f) ∧ mag (fmt f) b < Sp18.top (fmt f) ∧ Pl H ∧ Q (.int (b : Nat)) H
def sp_k (C : Addr) : Sp := fun vs H Q _ => ∃ (p : Addr) (f : Int) (q b : Nat), vs = [.ref p, .int (b : Nat)] ∧ InS C H p f q ∧ F01 f ∧ b < 2 * HB (fmt f) ∧ 0 ≤ expo (fmt f) (mag (fmt f) b) + q ∧ q ≤ 200 ∧ Pl H ∧ Q (.int (cntF (fmt f) q b)) H
def sp_y (C : Addr) : Sp := fun vs H Q _ => ∃ (p : Addr) (f : Int) (q : Nat) (x y : Int), vs = [.ref p, .int x, .int y] ∧ InS C H p f q ∧ F01 f ∧ bitsOf (x + y) ≤ 9000 ∧ Pl H ∧ Q (.int (fitV (x + y) (fmt f).p 0)) H
def sp_af (C : Addr) : Sp := fun vs H Q _ => ∃ (p : Addr) (f : Int) (q : Nat) (x y : Int), vs = [.ref p, .int x, .int y] ∧ InS C H p f q ∧ F01 f ∧ bitsOf (x - y) ≤ 9000 ∧ Pl H ∧ Q (.int (fitV (x - y) (fmt f).p 0)) H
def sp_r (C : Addr) : Sp := fun vs H Q _ => ∃ (p : Addr) (f : Int) (q : Nat) (x y : Int), vs = [.ref p, .int x, .int y] ∧ InS C H p f q ∧ F01 f ∧ q ≤ 200 ∧ bitsOf x ≤ 4000 ∧ bitsOf y ≤ 4000 ∧ bitsOf (x * y) ≤ 9000 ∧ Pl H ∧ Q (.int (fitV (x * y) (fmt f).p q)) H
def sp_n (C : Addr) : Sp := fun vs H Q _ => ∃ (p : Addr) (f : Int) (q : Nat) (x : Int), vs = [.ref p, .int x] ∧ InS C H p f q ∧ Pl H ∧ Q (.int (-x)) H
theorem ediv_abs (x : Int) {h : Nat} (hh : 0 < h) : (x / (h : Int)).natAbs ≤ x.natAbs / h + 1 := by
  have h1 := Int.ediv_mul_le x (b := (h : Int)) (by omega)
  have h2 := Int.lt_ediv_add_one_mul_self x (b := (h : Int)) (by omega)
  rw [Int.add_mul, Int.one_mul] at h2
  obtain ⟨t, ht⟩ : ∃ t, t = x / (h : Int) := ⟨_, rfl⟩
  rw [← ht] at h1 h2 ⊢
  have e : t.natAbs * h ≤ x.natAbs + h := by
    rcases Int.natAbs_eq t with z | z
    · have : ((t.natAbs * h : Nat) : Int) = t * h := by rw [Int.natCast_mul, ← z]
      omega
    · have : ((t.natAbs * h : Nat) : Int) = -(t * h) := by rw [Int.natCast_mul, ← Int.neg_mul]; congr 1; omega
      omega
  have := (Nat.le_div_iff_mul_le hh).mpr e
  rw [Nat.add_div_right _ hh] at this
  exact this
theorem fit_read {x : Int} {w q : Nat} {Q : VK} {H : Hp} (hw1 : 24 ≤ w) (hw2 : w ≤ 53) (hq : q ≤ 5000) (hb : bitsOf x ≤ 9000) (k : Q (.int (fitV x w q)) H) (D : Int) (hD : D = (dropF x w q : Nat)) :
    0 ≤ D - 1 ∧ (0 : Int) ≤ 1 ∧ 0 ≤ D - 1 ∧ D - 1 ≤ 1000000 ∧ (x / 2 ^ (D - 1).toNat).natAbs < 2 ^ 64 ∧
      if (x / 2 ^ (D - 1).toNat % 2 != 0) = true ∧ ((x / 2 ^ (D - 1).toNat + 1) / 2 ^ Int.toNat 1 % 2 != 0) = true ∧ x / 2 ^ (D - 1).toNat * 2 ^ (D - 1).toNat = x then
        if (x / 2 ^ (D - 1).toNat + 1) / 2 ^ Int.toNat 1 - 1 = 0 then Q (V.int (if x < 0 then -1 else 1)) H
        else 0 ≤ D - (q : Int) ∧ D - (q : Int) ≤ 1000000 ∧ ((x / 2 ^ (D - 1).toNat + 1) / 2 ^ Int.toNat 1 - 1).natAbs < 2 ^ 64 ∧ Q (V.int (((x / 2 ^ (D - 1).toNat + 1) / 2 ^ Int.toNat 1 - 1) * 2 ^ (D - (q : Int)).toNat)) H
      else
        if (x / 2 ^ (D - 1).toNat + 1) / 2 ^ Int.toNat 1 = 0 then Q (V.int (if x < 0 then -1 else 1)) H
        else 0 ≤ D - (q : Int) ∧ D - (q : Int) ≤ 1000000 ∧ ((x / 2 ^ (D - 1).toNat + 1) / 2 ^ Int.toNat 1).natAbs < 2 ^ 64 ∧ Q (V.int ((x / 2 ^ (D - 1).toNat + 1) / 2 ^ Int.toNat 1 * 2 ^ (D - (q : Int)).toNat)) H := by
  have hdb : q + 64 ≤ dropF x w q ∧ dropF x w q ≤ 20000 ∧ bitsOf x ≤ dropF x w q + w := by unfold dropF; split <;> omega
  have e1 : (D - 1).toNat = dropF x w q - 1 := by omega
  have e2 : (D - (q : Int)).toNat = dropF x w q - q := by omega
  have e3 : (2 : Int) ^ Int.toNat 1 = 2 := rfl
  rw [e1, e2, e3]
  unfold fitV at k
  have kd : keptOf x (dropF x w q) = if (x / 2 ^ (dropF x w q - 1)) % 2 ≠ 0 ∧ ((x / 2 ^ (dropF x w q - 1) + 1) / 2) % 2 ≠ 0 ∧ x / 2 ^ (dropF x w q - 1) * 2 ^ (dropF x w q - 1) = x then (x / 2 ^ (dropF x w q - 1) + 1) / 2 - 1 else (x / 2 ^ (dropF x w q - 1) + 1) / 2 := rfl
  have hA : (x / 2 ^ (dropF x w q - 1)).natAbs ≤ 2 ^ 54 + 1 := by
    have hc : (2 : Int) ^ (dropF x w q - 1) = ((2 ^ (dropF x w q - 1) : Nat) : Int) := by rw [Int.natCast_pow]; rfl
    rw [hc]
    refine Nat.le_trans (ediv_abs x (Nat.two_pow_pos _)) (Nat.add_le_add_right ?_ 1)
    rw [Nat.le_iff_lt_add_one, Nat.div_lt_iff_lt_mul (Nat.two_pow_pos _)]
    have hx : x.natAbs < 2 ^ bitsOf x ∨ x = 0 := by
      unfold bitsOf
      by_cases z : x = 0
      · exact .inr z
      · rw [if_neg z]; exact .inl Nat.lt_log2_self
    rcases hx with hx | hx
    · refine Nat.lt_of_lt_of_le hx (Nat.le_trans (Nat.pow_le_pow_right (by decide) (show bitsOf x ≤ 54 + (dropF x w q - 1) by omega)) ?_)
      rw [Nat.pow_add]
      exact Nat.mul_le_mul_right _ (by omega)
    · rw [hx]
      exact Nat.mul_pos (by decide) (Nat.two_pow_pos _)
  generalize x / 2 ^ (dropF x w q - 1) = t at kd hA ⊢
  refine ⟨by omega, by decide, by omega, by omega, by omega, ?_⟩
  simp only [bne_iff_ne]
  by_cases c : t % 2 ≠ 0 ∧ (t + 1) / 2 % 2 ≠ 0 ∧ t * 2 ^ (dropF x w q - 1) = x
  · rw [if_pos c] at kd ⊢
    rw [kd] at k
    by_cases z : (t + 1) / 2 - 1 = 0
    · rw [if_pos z] at k ⊢; exact k
    · rw [if_neg z] at k ⊢; exact ⟨by omega, by omega, by omega, k⟩
  · rw [if_neg c] at kd ⊢
    rw [kd] at k
    by_cases z : (t + 1) / 2 = 0
    · rw [if_pos z] at k ⊢; exact k
    · rw [if_neg z] at k ⊢; exact ⟨by omega, by omega, by omega, k⟩
theorem val_bd {F : Sp18.Format} (hF : Std F) {m : Nat} (h : m < Sp18.top F) : val F m < 2 ^ 2098 := by
  have h1 : m / Sig.PW F ≤ 2 ^ F.w - 2 := by
    have := (Nat.div_lt_iff_lt_mul (pw_pos F)).mpr (show m < (2 ^ F.w - 1) * Sig.PW F from h)
    omega
  have h2 := mant_lt F m
  have h3 := two_p hF.ok
  unfold val
  refine Nat.lt_of_lt_of_le (Nat.mul_lt_mul_of_pos_right h2 (Nat.two_pow_pos _)) ?_
  rw [← h3, ← Nat.pow_add]
  refine Nat.pow_le_pow_right (by decide) ?_
  have hpb := p_bd hF
  have hw : 2 ^ F.w - 2 + F.p ≤ 2099 := by rcases hF with rfl | rfl <;> decide
  unfold expo
  split <;> omega
theorem val_log {F : Sp18.Format} (hF : Std F) {m : Nat} (h : m < Sp18.top F) : Nat.log2 (val F m * 2 ^ 64) ≤ 9000 := by
  refine Nat.le_trans (log2_bd (k := 2162) ?_) (by decide)
  rw [show (2162 : Nat) = 2098 + 64 from rfl, Nat.pow_add 2 2098 64]
  exact Nat.mul_lt_mul_of_pos_right (val_bd hF h) (Nat.two_pow_pos 64)
theorem len1 (a : Str) (x : V) : (putF a x []).length < 1000 := by have := length_putF a x []; simp at this; omega
theorem len2 (a b : Str) (x y : V) : (putF b y (putF a x [])).length < 1000 := by have := length_putF a x []; have := length_putF b y (putF a x []); simp at *; omega
theorem len3 (a b c : Str) (x y z : V) : (putF c z (putF b y (putF a x []))).length < 1000 := by have := length_putF a x []; have := length_putF b y (putF a x []); have := length_putF c z (putF b y (putF a x [])); simp at *; omega
theorem give_round {F : Sp18.Format} (hF : Std F) {b : Nat} (hb : b < 2 * HB F) (h : mag F b < Sp18.top F) (h0 : mag F b ≠ 0) : Sp18.round F (sgn F b) (val F (mag F b) * 2 ^ 64) (F.least - 64) false = b := by
  rw [round_sz]
  have hv : val F (mag F b) ≠ 0 := fun z => h0 (val_eq_zero.mp z)
  have key := near_round hF.ok (n := val F (mag F b) * 2 ^ 64) (Nat.mul_pos (by omega) (Nat.two_pow_pos _)) (F.least - 64)
  have a1 : (F.least - 64 - F.least).toNat = 0 := by omega
  have a2 : (F.least - (F.least - 64)).toNat = 64 := by omega
  rw [a1, a2, Nat.pow_zero, Nat.mul_one] at key
  rw [near_uniq key (near_self _ 64), Nat.min_eq_left (by omega)]
  exact (bits_split hb).symm
theorem NN_abs {F : Sp18.Format} (b : Nat) : (NN F b).natAbs = if mag F b = 0 then 1 else val F (mag F b) * 2 ^ 64 := by
  rcases NN_eq (F := F) b with ⟨h1, h2, _⟩ | ⟨h1, h2, _⟩
  · rw [if_pos h1, h2]; split <;> rfl
  · rw [if_neg h1, h2, Int.natAbs_mul, VV_abs]; rfl
theorem NN_neg {F : Sp18.Format} (b : Nat) : NN F b < 0 ↔ sgn F b = true := by
  unfold NN spreadOf Sp18.signed
  have k : (0 : Nat) < 2 ^ 64 := Nat.two_pow_pos _
  split
  · cases sgn F b <;> simp
  · next h =>
    have := Nat.mul_pos (show 0 < val F (mag F b) by omega) k
    cases hs : sgn F b
    · simp; omega
    · simp; omega
theorem cnt_NN {F : Sp18.Format} {b q : Nat} (h0 : mag F b ≠ 0) (hq : (q : Int) = 64 - F.least) : cntF F q b = NN F b := by
  have hv : val F (mag F b) ≠ 0 := fun z => h0 (val_eq_zero.mp z)
  unfold cntF NN spreadOf
  rw [if_neg hv]
  congr 1
  unfold val
  rw [Nat.mul_assoc, ← Nat.pow_add]
  congr 2
  have := expo_ge F (mag F b)
  omega
theorem bits_le {x : Int} {k : Nat} (h : x.natAbs < 2 ^ k) : bitsOf x ≤ k := by
  unfold bitsOf
  split
  · omega
  · have := (Nat.log2_lt (n := x.natAbs) (k := k) (by omega)).mpr h
    omega
end L2
set_option linter.all false
set_option maxRecDepth 100000
set_option Elab.async false
namespace L2
open PySem PySem.Spec PyProof.Rows
open Sig
open Sp18Neutral (fmt)
def LIM : Nat := 2 ^ 23
def Itaken2 (F : Sp18.Format) (R : Rel) (T : Nat → Nat → Prop) : List V → Hp → VK → Prop := fun us H Q => ∃ (b n : Nat), us = [.int (b : Nat)] ∧ Pl H ∧ T b n ∧ ∀ z, R z (Sp18.plain F b) n → Q (.int z) H
structure AR (P : Program) (w : World) (K : PySem.W.Frag) (mg : Str → Option Value) (base : Heap) (F : Sp18.Format) (R : Rel) (CR : Int → Nat → Prop) (T : Nat → Nat → Prop) (H : Hp) (p : Addr) : Prop where
  taken : ArM P w K mg base 10 "taken" (Itaken2 F R T) H p
  given : ArM P w K mg base 10 "given" (Igiven F R) H p
  factor : ArM P w K mg base 10 "factor" (Ifactor CR (FacF F)) H p
  plus : ArM P w K mg base 10 "plus" (Iplus F R LIM) H p
  less : ArM P w K mg base 10 "less" (Iless F R LIM) H p
  times : ArM P w K mg base 10 "times" (Itimes F R CR) H p
  minus : ArM P w K mg base 10 "minus" (Iminus F R) H p
  mono : ∀ z b n m, R z b n → n ≤ m → R z b m
  lt : ∀ z b n, R z b n → b < 2 * HB F
theorem AR.same {P : Program} {w : World} {K : PySem.W.Frag} {mg : Str → Option Value} {base : Heap} {F : Sp18.Format} {R : Rel} {CR : Int → Nat → Prop} {T : Nat → Nat → Prop} {H H1 : Hp} {p : Addr} (h : AR P w K mg base F R CR T H p) (s : Same H H1) : AR P w K mg base F R CR T H1 p :=
  ⟨h.taken.same s, h.given.same s, h.factor.same s, h.plus.same s, h.less.same s, h.times.same s, h.minus.same s, h.mono, h.lt⟩
def CP (F : Sp18.Format) : Int → Nat → Prop := fun z b => RP F z b 0
def TkP (F : Sp18.Format) : Nat → Nat → Prop := fun b _ => b < 2 * HB F
section
variable {P : Program} {w : World} {K : PySem.W.Frag} {mg : Str → Option Value} {base : Heap} {C p dx : Addr} {f : Int} {H : Hp}
theorem ar_plain (hf : F01 f) (e : H p = some (.ins C dx (plF f))) (M1 : MHeld P w K mg base 10 C "taken" (sp_x C)) (M2 : MHeld P w K mg base 10 C "given" (sp_ad C)) (M3 : MHeld P w K mg base 10 C "factor" (sp_w C))
    (M4 : MHeld P w K mg base 10 C "plus" (sp_aj C)) (M5 : MHeld P w K mg base 10 C "less" (sp_ai C)) (M6 : MHeld P w K mg base 10 C "times" (sp_aa C)) (M7 : MHeld P w K mg base 10 C "minus" (sp_ac C)) :
    AR P w K mg base (fmt f) (RP (fmt f)) (CP (fmt f)) (TkP (fmt f)) H p where
  taken := ar_of M1 (Nat.le_refl _) e (plF_no f (by decide)) fun us H' Q e1 ⟨b, n, e2, hP, hb, q⟩ => ⟨p, dx, f, (b : Int), by rw [e2], e1, hf, nm_of hb, hP, q _ ⟨b, rfl, hb, plain_lt hf.ok hb, (of_plain hf.ok hb).symm⟩⟩
  given := ar_of M2 (Nat.le_refl _) e (plF_no f (by decide)) fun us H' Q e1 ⟨z, b, n, e2, hP, ⟨a, r, h1, h2, o⟩, q⟩ => by
    subst r
    refine ⟨p, dx, f, (a : Int), by rw [e2], e1, hf, nm_of h1, hP, ?_⟩
    rw [Int.toNat_natCast, plain_of hf.ok h1 h2 o]; exact q
  factor := ar_of M3 (Nat.le_refl _) e (plF_no f (by decide)) fun us H' Q e1 ⟨b, e2, hP, hb, q⟩ => ⟨p, dx, f, (b : Int), by rw [e2], e1, hf, nm_of hb.lt, hP, q _ (RP.self hb.lt)⟩
  plus := ar_plus hf M4 (Nat.le_refl _) e _
  less := ar_of M5 (Nat.le_refl _) e (plF_no f (by decide)) fun us H' Q e1 ⟨z1, z2, b1, b2, n1, n2, e2, hP, ⟨a1, r1, h1, h1', o1⟩, ⟨a2, r2, h2, h2', o2⟩, _, q⟩ => by
    subst r1 r2
    refine ⟨p, dx, f, (a1 : Int), (a2 : Int), by rw [e2], e1, hf, nm_of h1, nm_of h2, hP, q _ ?_⟩
    rw [Int.toNat_natCast, Int.toNat_natCast, sub_of hf.ok h2 h2' o1 o2]
    exact RP.self (add_lt hf.ok _ _)
  times := ar_times hf M6 (Nat.le_refl _) e
  minus := ar_of M7 (Nat.le_refl _) e (plF_no f (by decide)) fun us H' Q e1 ⟨z, b, n, e2, hP, ⟨a, r, h1, h2, o⟩, q⟩ => by
    subst r
    refine ⟨p, dx, f, (a : Int), by rw [e2], e1, hf, nm_of h1, hP, q _ ?_⟩
    rw [Int.toNat_natCast, neg_of hf.ok h1 h2 o]
    exact RP.self (neg_lt hf.ok h2)
  mono := fun z b n m h _ => h
  lt := fun z b n ⟨a, _, _, h, _⟩ => h
end
def RS (F : Sp18.Format) : Rel := fun z b n => z = NN F b ∧ b < 2 * HB F ∧ mag F b < Sp18.top F ∧ val F (mag F b) ≤ n * 2 ^ Sig.TE F
def CS (F : Sp18.Format) : Int → Nat → Prop := fun z c => z = cntF F 80 c ∧ FacF F c
def TkS (F : Sp18.Format) : Nat → Nat → Prop := fun b n => b < 2 * HB F ∧ val F (mag F b) ≤ n * 2 ^ Sig.TE F ∧ n ≤ 1
theorem fin_of {F : Sp18.Format} (hF : Std F) {b n : Nat} (hn : n ≤ LIM) (h : val F (mag F b) ≤ n * 2 ^ Sig.TE F) : mag F b < Sp18.top F := by
  rcases Nat.eq_zero_or_pos n with z | z
  · rw [z, Nat.zero_mul] at h
    have := val_eq_zero.mp (show val F (mag F b) = 0 by omega)
    rw [this]
    exact top_pos hF
  · obtain ⟨c, c1, c2⟩ := rep hF z hn
    rcases Nat.lt_or_ge (mag F b) (Sp18.top F) with q | q
    · exact q
    · have := val_mono (F := F) (show c < mag F b by omega)
      omega
theorem sum_bd {F : Sp18.Format} (hF : Std F) {a b n m : Nat} (h1 : mag F a < Sp18.top F) (h2 : mag F b < Sp18.top F) (v1 : val F (mag F a) ≤ n * 2 ^ Sig.TE F) (v2 : val F (mag F b) ≤ m * 2 ^ Sig.TE F) (h : n + m ≤ LIM) :
    mag F (Sp18.add F a b) < Sp18.top F ∧ val F (mag F (Sp18.add F a b)) ≤ (n + m) * 2 ^ Sig.TE F := by
  rw [Nat.add_mul]
  rcases Nat.eq_zero_or_pos (n + m) with z | z
  · have z1 : n = 0 := by omega
    have z2 : m = 0 := by omega
    rw [z1, Nat.zero_mul] at v1
    rw [z2, Nat.zero_mul] at v2
    have := add_le2 hF h1 h2 (c := 0) (top_pos hF) (by rw [val_zero]; omega)
    rw [show mag F (Sp18.add F a b) = 0 by omega, val_zero]
    exact ⟨top_pos hF, Nat.zero_le _⟩
  · obtain ⟨c, c1, c2⟩ := rep hF z h
    rw [Nat.add_mul] at c2
    have := add_le2 hF h1 h2 c1 (by omega)
    exact ⟨by omega, by have := val_le (F := F) this; omega⟩
theorem NN_bits {F : Sp18.Format} (hF : Std F) {b : Nat} (h : mag F b < Sp18.top F) : (NN F b).natAbs < 2 ^ 2162 := by
  rw [NN_abs]
  split
  · exact Nat.one_lt_two_pow (by decide)
  · rw [show (2162 : Nat) = 2098 + 64 from rfl, Nat.pow_add 2 2098 64]
    exact Nat.mul_lt_mul_of_pos_right (val_bd hF h) (Nat.two_pow_pos 64)
theorem two_pow_lt {a b : Nat} (h : a < b) : 2 ^ a + 2 ^ a ≤ 2 ^ b := by
  rw [← Nat.two_mul, ← Nat.pow_succ']
  exact Nat.pow_le_pow_right (by decide) h
theorem RS.plus {F : Sp18.Format} (hF : Std F) {z1 z2 : Int} {b1 b2 n1 n2 : Nat} (h1 : RS F z1 b1 n1) (h2 : RS F z2 b2 n2) (h : n1 + n2 ≤ LIM) : bitsOf (z1 + z2) ≤ 9000 ∧ RS F (fitV (z1 + z2) F.p 0) (Sp18.add F b1 b2) (n1 + n2) := by
  obtain ⟨rfl, l1, t1, v1⟩ := h1
  obtain ⟨rfl, l2, t2, v2⟩ := h2
  obtain ⟨s1, s2⟩ := sum_bd hF t1 t2 v1 v2 h
  have a1 := NN_bits hF t1
  have a2 := NN_bits hF t2
  have a3 := two_pow_lt (show 2162 < 2163 by decide)
  refine ⟨Nat.le_trans (bits_le (k := 2163) (by omega)) (by decide), ?_, add_lt hF.ok _ _, s1, s2⟩
  exact plus_NN hF t1 t2 s1
theorem RS.less {F : Sp18.Format} (hF : Std F) {z1 z2 : Int} {b1 b2 n1 n2 : Nat} (h1 : RS F z1 b1 n1) (h2 : RS F z2 b2 n2) (h : n1 + n2 ≤ LIM) : bitsOf (z1 - z2) ≤ 9000 ∧ RS F (fitV (z1 - z2) F.p 0) (Sp18.sub F b1 b2) (n1 + n2) := by
  obtain ⟨rfl, l2, t2, v2⟩ := h2
  obtain ⟨b', e, lb, mb, sb, _⟩ := sub_VV (a := b1) hF l2
  have hn : NN F b' = - NN F b2 := by
    unfold NN spreadOf Sp18.signed
    rw [sb, mb]
    cases sgn F b2 <;> split <;> simp
  rw [Int.sub_eq_add_neg, ← hn, e]
  exact RS.plus hF h1 ⟨rfl, lb, by rw [mb]; exact t2, by rw [mb]; exact v2⟩ h
theorem RS.times {F : Sp18.Format} (hF : Std F) {z1 z2 : Int} {b c n : Nat} (h1 : RS F z1 b n) (h2 : CS F z2 c) : bitsOf z1 ≤ 4000 ∧ bitsOf z2 ≤ 4000 ∧ bitsOf (z1 * z2) ≤ 9000 ∧ RS F (fitV (z1 * z2) F.p 80) (Sp18.mul F b c) n := by
  obtain ⟨rfl, l1, t1, v1⟩ := h1
  obtain ⟨rfl, fc⟩ := h2
  have hL : 80 ≤ LL F := by rcases hF with rfl | rfl <;> decide
  have cv := cnt_val hF hL fc.exp
  have c80 : (cntF F 80 c).natAbs ≤ 2 ^ 80 := by
    have h := fc.one
    rw [← cv, show LL F = 80 + (LL F - 80) by omega, Nat.pow_add, show 80 + (LL F - 80) - 80 = LL F - 80 by omega] at h
    exact Nat.le_of_mul_le_mul_right h (Nat.two_pow_pos _)
  have m := (mul_le hF t1 fc.fin t1 (Nat.mul_le_mul_left _ fc.one)).1
  have a1 := NN_bits hF t1
  have hm : (NN F b * cntF F 80 c).natAbs < 2 ^ 2242 := by
    rw [Int.natAbs_mul, show (2242 : Nat) = 2162 + 80 from rfl, Nat.pow_add 2 2162 80]
    refine Nat.lt_of_le_of_lt (Nat.mul_le_mul_left _ c80) ?_
    exact Nat.mul_lt_mul_of_pos_right a1 (Nat.two_pow_pos _)
  refine ⟨Nat.le_trans (bits_le a1) (by decide), Nat.le_trans (bits_le (k := 81) (by have := two_pow_lt (show 80 < 81 by decide); have := Nat.two_pow_pos 80; omega)) (by decide), Nat.le_trans (bits_le hm) (by decide), ?_, mul_lt hF.ok _ _, by omega, Nat.le_trans (val_le m) v1⟩
  refine times_NN hF hL t1 fc.fin fc.exp fc.nz ?_ (by omega)
  refine Nat.lt_of_le_of_lt c80 (Nat.pow_lt_pow_right (by decide) (by decide))
theorem RS.minus {F : Sp18.Format} (hF : Std F) {z : Int} {b n : Nat} (h : RS F z b n) : RS F (-z) (Sp18.neg F b) n := by
  obtain ⟨rfl, l1, t1, v1⟩ := h
  obtain ⟨s, m⟩ := of_neg hF.ok l1 (show ¬ Sp18.top F < mag F b by omega)
  exact ⟨(minus_NN hF l1 (by omega)).symm, neg_lt hF.ok l1, by rw [m]; exact t1, by rw [m]; exact v1⟩
theorem plain_fin {F : Sp18.Format} (hF : Std F) {b : Nat} (h : b < 2 * HB F) (ht : mag F b < Sp18.top F) : Sp18.plain F b = b := by
  rw [plain_eq hF.ok h, if_neg (by omega)]
section
variable {P : Program} {w : World} {K : PySem.W.Frag} {mg : Str → Option Value} {base : Heap} {C p dx : Addr} {f : Int} {H : Hp}
theorem sno {m : Str} (h : m ∈ (["taken", "given", "factor", "plus", "less", "times", "minus"] : List Str)) : (spF f 80).lookup m = none := by
  refine spF_no f 80 ?_ ?_ ?_ ?_ <;> (intro z; subst z; revert h; decide)
theorem ar_spread (hf : F01 f) (e : H p = some (.ins C dx (spF f 80))) (M1 : MHeld P w K mg base 10 C "taken" (sp_v C)) (M2 : MHeld P w K mg base 10 C "given" (sp_u C)) (M3 : MHeld P w K mg base 10 C "factor" (sp_k C))
    (M4 : MHeld P w K mg base 10 C "plus" (sp_y C)) (M5 : MHeld P w K mg base 10 C "less" (sp_af C)) (M6 : MHeld P w K mg base 10 C "times" (sp_r C)) (M7 : MHeld P w K mg base 10 C "minus" (sp_n C)) :
    AR P w K mg base (fmt f) (RS (fmt f)) (CS (fmt f)) (TkS (fmt f)) H p where
  taken := ar_of M1 (Nat.le_refl _) e (sno (by decide)) fun us H' Q e1 ⟨b, n, e2, hP, ⟨hb, hv, hn⟩, q⟩ => by
    have ht := fin_of hf.std (n := n) (by unfold LIM; omega) hv
    refine ⟨p, f, 80, b, by rw [e2], ⟨dx, e1⟩, hf, hb, ht, hP, q _ ?_⟩
    rw [plain_fin hf.std hb ht]
    exact ⟨rfl, hb, ht, hv⟩
  given := ar_of M2 (Nat.le_refl _) e (sno (by decide)) fun us H' Q e1 ⟨z, b, n, e2, hP, ⟨hz, hb, ht, hv⟩, q⟩ => by
    refine ⟨p, f, 80, b, by rw [e2, hz], ⟨dx, e1⟩, hf, hb, ht, hP, ?_⟩
    rw [plain_fin hf.std hb ht] at q
    exact q
  factor := ar_of M3 (Nat.le_refl _) e (sno (by decide)) fun us H' Q e1 ⟨b, e2, hP, hb, q⟩ => ⟨p, f, 80, b, by rw [e2], ⟨dx, e1⟩, hf, hb.lt, hb.exp, by decide, hP, q _ ⟨rfl, hb⟩⟩
  plus := ar_of M4 (Nat.le_refl _) e (sno (by decide)) fun us H' Q e1 ⟨z1, z2, b1, b2, n1, n2, e2, hP, r1, r2, hn, q⟩ => by
    obtain ⟨a1, a2⟩ := RS.plus hf.std r1 r2 hn
    exact ⟨p, f, 80, z1, z2, by rw [e2], ⟨dx, e1⟩, hf, a1, hP, q _ a2⟩
  less := ar_of M5 (Nat.le_refl _) e (sno (by decide)) fun us H' Q e1 ⟨z1, z2, b1, b2, n1, n2, e2, hP, r1, r2, hn, q⟩ => by
    obtain ⟨a1, a2⟩ := RS.less hf.std r1 r2 hn
    exact ⟨p, f, 80, z1, z2, by rw [e2], ⟨dx, e1⟩, hf, a1, hP, q _ a2⟩
  times := ar_of M6 (Nat.le_refl _) e (sno (by decide)) fun us H' Q e1 ⟨z1, z2, b1, b2, n, e2, hP, r1, r2, q⟩ => by
    obtain ⟨a1, a2, a3, a4⟩ := RS.times hf.std r1 r2
    exact ⟨p, f, 80, z1, z2, by rw [e2], ⟨dx, e1⟩, hf, by decide, a1, a2, a3, hP, q _ a4⟩
  minus := ar_of M7 (Nat.le_refl _) e (sno (by decide)) fun us H' Q e1 ⟨z, b, n, e2, hP, r, q⟩ => ⟨p, f, 80, z, by rw [e2], ⟨dx, e1⟩, hP, q _ (RS.minus hf.std r)⟩
  mono := fun z b n m ⟨h1, h2, h3, h4⟩ hn => ⟨h1, h2, h3, Nat.le_trans h4 (Nat.mul_le_mul_right _ hn)⟩
  lt := fun z b n h => h.2.1
end
end L2
set_option linter.all false
set_option maxRecDepth 100000
set_option Elab.async false
namespace L2
open PySem PySem.Spec PyProof.Rows
open Sig
open Sp18Neutral (fmt)
def PrAt (H : Hp) (a : Addr) (R : Rel) (n : Nat) (c : Sp18.C) : Prop := ∃ z1 z2 : Int, H a = some (.tup [.int z1, .int z2]) ∧ R z1 c.1 n ∧ R z2 c.2 n
theorem PrAt.same {H H' : Hp} {a : Addr} {R : Rel} {n : Nat} {c : Sp18.C} (h : PrAt H a R n c) (s : Same H H') : PrAt H' a R n c := by
  obtain ⟨z1, z2, e, r⟩ := h; exact ⟨z1, z2, s _ _ e, r⟩
theorem PrAt.keep {H H' : Hp} {a : Addr} {R : Rel} {n : Nat} {c : Sp18.C} (h : PrAt H a R n c) (k : ∀ b xs, H b = some (.tup xs) → H' b = some (.tup xs)) : PrAt H' a R n c := by
  obtain ⟨z1, z2, e, r⟩ := h; exact ⟨z1, z2, k _ _ e, r⟩
def Prs (H : Hp) (as : List Addr) (R : Rel) (n : Nat) (cs : List Sp18.C) : Prop := as.length = cs.length ∧ ∀ (i : Nat) (a : Addr) (c : Sp18.C), as[i]? = some a → cs[i]? = some c → PrAt H a R n c
theorem Prs.keep {H H' : Hp} {as : List Addr} {R : Rel} {n : Nat} {cs : List Sp18.C} (h : Prs H as R n cs) (k : ∀ b xs, H b = some (.tup xs) → H' b = some (.tup xs)) : Prs H' as R n cs := ⟨h.1, fun i a c e1 e2 => (h.2 i a c e1 e2).keep k⟩
theorem snoc_at {α : Type} {l : List α} {x y : α} {i : Nat} (e : (l ++ [x])[i]? = some y) : (i < l.length ∧ l[i]? = some y) ∨ (i = l.length ∧ x = y) := by
  by_cases c : i < l.length
  · rw [List.getElem?_append_left c] at e; exact .inl ⟨c, e⟩
  · rw [List.getElem?_append_right (by omega)] at e
    have hj : i - l.length = 0 := by
      cases q : i - l.length with
      | zero => rfl
      | succ k => rw [q] at e; simp at e
    rw [hj] at e
    exact .inr ⟨by omega, Option.some.inj e⟩
theorem Prs.snoc {H : Hp} {as : List Addr} {R : Rel} {n : Nat} {cs : List Sp18.C} {a : Addr} {c : Sp18.C} (h : Prs H as R n cs) (e : PrAt H a R n c) : Prs H (as ++ [a]) R n (cs ++ [c]) := by
  refine ⟨by rw [List.length_append, List.length_append, h.1]; rfl, fun i b d e1 e2 => ?_⟩
  rcases snoc_at e1 with ⟨l1, q1⟩ | ⟨l1, rfl⟩ <;> rcases snoc_at e2 with ⟨l2, q2⟩ | ⟨l2, rfl⟩
  · exact h.2 i b d q1 q2
  · have := h.1; omega
  · have := h.1; omega
  · exact e
theorem Prs.append {H : Hp} {as bs : List Addr} {R : Rel} {n : Nat} {cs ds : List Sp18.C} (h : Prs H as R n cs) (g : Prs H bs R n ds) : Prs H (as ++ bs) R n (cs ++ ds) := by
  refine ⟨by rw [List.length_append, List.length_append, h.1, g.1], fun i b d e1 e2 => ?_⟩
  by_cases c : i < as.length
  · rw [List.getElem?_append_left c] at e1
    rw [List.getElem?_append_left (by rw [← h.1]; exact c)] at e2
    exact h.2 i b d e1 e2
  · rw [List.getElem?_append_right (by omega)] at e1
    rw [List.getElem?_append_right (by rw [← h.1]; omega), ← h.1] at e2
    exact g.2 _ b d e1 e2
def CRow (K : PySem.W.Frag) (H : Hp) (p : Addr) (R : Rel) (n : Nat) (cs : List Sp18.C) : Prop := ∃ as : List Addr, SqL K H p (as.map V.ref) ∧ Prs H as R n cs
theorem CRow.same {K : PySem.W.Frag} {H H' : Hp} {p : Addr} {R : Rel} {n : Nat} {cs : List Sp18.C} (h : CRow K H p R n cs) (s : Same H H') : CRow K H' p R n cs := by
  obtain ⟨as, h1, h2⟩ := h; exact ⟨as, s.seq h1, h2.keep fun b xs e => s _ _ e⟩
def CRows (K : PySem.W.Frag) (H : Hp) (p : Addr) (R : Rel) (n : Nat) (css : List (List Sp18.C)) : Prop := ∃ as : List Addr, SqL K H p (as.map V.ref) ∧ as.length = css.length ∧ ∀ (i : Nat) (a : Addr) (cs : List Sp18.C), as[i]? = some a → css[i]? = some cs → CRow K H a R n cs
theorem CRows.same {K : PySem.W.Frag} {H H' : Hp} {p : Addr} {R : Rel} {n : Nat} {css : List (List Sp18.C)} (h : CRows K H p R n css) (s : Same H H') : CRows K H' p R n css := by
  obtain ⟨as, h1, h2, h3⟩ := h; exact ⟨as, s.seq h1, h2, fun i a cs e1 e2 => (h3 i a cs e1 e2).same s⟩
def PartAt (H : Hp) (a : Addr) (F : Sp18.Format) (CR : Int → Nat → Prop) (n j : Nat) : Prop := if 4 * j % n = 0 then H a = some (.tup [.int (4 * j / n % 4 : Nat), .non, .non]) else
  ∃ cz sz : Int, H a = some (.tup [.non, .int cz, .int sz]) ∧ CR cz (Sp18.convert Sp18.double F (Sp18.angle n j).1) ∧ CR sz (Sp18.convert Sp18.double F (Sp18.angle n j).2)
theorem PartAt.keep {H H' : Hp} {a : Addr} {F : Sp18.Format} {CR : Int → Nat → Prop} {n j : Nat} (h : PartAt H a F CR n j) (k : ∀ b xs, H b = some (.tup xs) → H' b = some (.tup xs)) : PartAt H' a F CR n j := by
  unfold PartAt at h ⊢
  split
  · next c => rw [if_pos c] at h; exact k _ _ h
  · next c => rw [if_neg c] at h; obtain ⟨cz, sz, e, r⟩ := h; exact ⟨cz, sz, k _ _ e, r⟩
def PartsAt (K : PySem.W.Frag) (H : Hp) (p : Addr) (F : Sp18.Format) (CR : Int → Nat → Prop) (n : Nat) : Prop := ∃ as : List Addr, SqL K H p (as.map V.ref) ∧ as.length = n ∧ ∀ (j : Nat) (a : Addr), as[j]? = some a → PartAt H a F CR n j
theorem PartsAt.same {K : PySem.W.Frag} {H H' : Hp} {p : Addr} {F : Sp18.Format} {CR : Int → Nat → Prop} {n : Nat} (h : PartsAt K H p F CR n) (s : Same H H') : PartsAt K H' p F CR n := by
  obtain ⟨as, h1, h2, h3⟩ := h; exact ⟨as, s.seq h1, h2, fun j a e => (h3 j a e).keep fun b xs q => s _ _ q⟩
theorem turned_gen {f : Int} (hf : F01 f) {N j : Nat} (h0 : 0 < N) (hN : N ≤ 8192) (cq : ¬ 4 * j % N = 0) (c : Sp18.C) : Sp18.turned (fmt f) N j c =
    (Sp18.add (fmt f) (Sp18.mul (fmt f) c.1 (Sp18.convert Sp18.double (fmt f) (Sp18.angle N j).1)) (Sp18.mul (fmt f) c.2 (Sp18.convert Sp18.double (fmt f) (Sp18.angle N j).2)),
     Sp18.sub (fmt f) (Sp18.mul (fmt f) c.2 (Sp18.convert Sp18.double (fmt f) (Sp18.angle N j).1)) (Sp18.mul (fmt f) c.1 (Sp18.convert Sp18.double (fmt f) (Sp18.angle N j).2))) := by
  obtain ⟨f1, f2⟩ := angle_fac h0 hN cq
  have g2 := fac_conv hf f2
  unfold Sp18.turned
  dsimp only
  rw [if_neg cq, conv_neg hf f2.ok, cmul_turn hf.std g2.lt (Nat.le_of_lt g2.fin)]
theorem turned_q {F : Sp18.Format} {N j : Nat} (cq : 4 * j % N = 0) (c : Sp18.C) : Sp18.turned F N j c = if 4 * j / N % 4 = 0 then c else if 4 * j / N % 4 = 1 then (c.2, Sp18.neg F c.1) else if 4 * j / N % 4 = 2 then (Sp18.neg F c.1, Sp18.neg F c.2) else (Sp18.neg F c.2, c.1) := by
  unfold Sp18.turned
  dsimp only
  rw [if_pos cq]
theorem vint_ne {x : Nat} {m : Int} (h : ¬ (x : Int) = m) : ¬ V.int (x : Int) = V.int m := fun z => by injection z with z; exact h z
theorem fresh_of {H H' : Hp} {t : Addr} (s : Same H H') (h : H' t = none) : H t = none := by
  cases c : H t with
  | none => rfl
  | some o => rw [s _ _ c] at h; cases h
section
variable (P : Program) (w : World) (K : PySem.W.Frag) (mg : Str → Option Value) (base : Heap)
def sp_ag : Sp := fun vs H Q _ => ∃ (p a b : Addr) (f : Int) (R : Rel) (CR : Int → Nat → Prop) (T : Nat → Nat → Prop) (n m : Nat) (c d : Sp18.C), vs = [.ref p, .ref a, .ref b] ∧ F01 f ∧ AR P w K mg base (fmt f) R CR T H p ∧ Pl H ∧ PrAt H a R n c ∧ PrAt H b R m d ∧ n + m ≤ LIM ∧
  ∀ H' t, Same H H' → Pl H' → H t = none → PrAt H' t R (n + m) (Sp18.cadd (fmt f) c d) → Q (.ref t) H'
def sp_c : Sp := fun vs H Q _ => ∃ (p a b : Addr) (f : Int) (R : Rel) (CR : Int → Nat → Prop) (T : Nat → Nat → Prop) (n m : Nat) (c d : Sp18.C), vs = [.ref p, .ref a, .ref b] ∧ F01 f ∧ AR P w K mg base (fmt f) R CR T H p ∧ Pl H ∧ PrAt H a R n c ∧ PrAt H b R m d ∧ n + m ≤ LIM ∧
  ∀ H' t, Same H H' → Pl H' → H t = none → PrAt H' t R (n + m) (Sp18.csub (fmt f) c d) → Q (.ref t) H'
def sp_ae : Sp := fun vs H Q _ => ∃ (p a : Addr) (z1 z2 : Int) (f : Int) (R : Rel) (CR : Int → Nat → Prop) (T : Nat → Nat → Prop) (n N j : Nat) (c : Sp18.C), vs = [.ref p, .ref a, .int z1, .int z2] ∧ F01 f ∧ AR P w K mg base (fmt f) R CR T H p ∧ Pl H ∧ 0 < N ∧ N ≤ 8192 ∧ PartAt H a (fmt f) CR N j ∧ R z1 c.1 n ∧ R z2 c.2 n ∧ n + n ≤ LIM ∧
  ∀ H' t, Same H H' → Pl H' → H t = none → PrAt H' t R (n + n) (Sp18.turned (fmt f) N j c) → Q (.ref t) H'
def sp_o : Sp := fun vs H Q _ => ∃ (p : Addr) (f : Int) (R : Rel) (CR : Int → Nat → Prop) (T : Nat → Nat → Prop) (n j : Nat), vs = [.ref p, .int f, .int (n : Nat), .int (j : Nat)] ∧ F01 f ∧ AR P w K mg base (fmt f) R CR T H p ∧ Pl H ∧ 0 < n ∧ n ≤ 8192 ∧
  ∀ H' t, Same H H' → Pl H' → H t = none → PartAt H' t (fmt f) CR n j → Q (.ref t) H'
def spTog (X : Nat → Prop) : Sp := fun vs H Q _ => ∃ (p la lr : Addr) (f : Int) (R : Rel) (CR : Int → Nat → Prop) (T : Nat → Nat → Prop) (n q l : Nat) (css : List (List Sp18.C)), vs = [.ref p, .ref la, .ref lr] ∧ F01 f ∧ AR P w K mg base (fmt f) R CR T H p ∧ Pl H ∧ X q ∧ 2 ≤ q ∧ 0 < l ∧ q * l ≤ 8192 ∧
  PartsAt K H la (fmt f) CR (q * l) ∧ CRows K H lr R n css ∧ css.length = q ∧ (∀ cs ∈ css, cs.length = l) ∧ n * (2 * q - 1) ≤ LIM ∧
  ∀ H' t, Same H H' → Pl H' → H t = none → CRow K H' t R (n * (2 * q - 1)) ((List.range (q * l)).map (Sp18.joined (fmt f) (q * l) q css)) → Q (.ref t) H'
def sp_q : Sp := spTog P w K mg base fun q => q = 2
def sp_l : Sp := spTog P w K mg base fun q => q = 4
def sp_m : Sp := spTog P w K mg base fun q => q ≠ 2 ∧ q ≠ 4
def sp_au : Sp := spTog P w K mg base fun _ => True
end
def sp_bg : Sp := spV (ι := Nat) (fun n => [.int (n : Nat)]) (fun n _ => 1 < n ∧ n ≤ 8192) (fun n => .int (Sp18.factor n : Nat))
def sp_ba (K : PySem.W.Frag) : Sp := fun vs H Q _ => ∃ n : Nat, vs = [.int (n : Nat)] ∧ 0 < n ∧ n ≤ 8192 ∧ Pl H ∧ ∀ H' t, Same H H' → Pl H' → H' t = some (.lst ((ds n).map fun (m : Nat) => V.int (m : Nat))) → Q (.ref t) H'
end L2
set_option linter.all false
set_option maxRecDepth 100000
set_option Elab.async false
namespace L2
open PySem PySem.Spec PyProof.Rows
open Sig
open Sp18Neutral (fmt)
theorem at_ref {as : List Addr} {i : Nat} {a : Addr} (h : as[i]? = some a) : atI (as.map V.ref) ((i : Nat) : Int) = some (V.ref a) := atI_nat (by rw [List.getElem?_map, h]; rfl)
theorem cell_of {cs : List Sp18.C} {i : Nat} {c : Sp18.C} (h : cs[i]? = some c) : Sp18.cell cs i = c := by
  unfold Sp18.cell; rw [List.getD_eq_getElem?_getD, h]; rfl
theorem mul_div_l {q l : Nat} (hq : 0 < q) : q * l / q = l := Nat.mul_div_cancel_left l hq
theorem joined_two {F : Sp18.Format} {l k : Nat} {y0 y1 : List Sp18.C} (hk : k < l) : Sp18.joined F (2 * l) 2 [y0, y1] k = Sp18.cadd F (Sp18.cell y0 k) (Sp18.turned F (2 * l) k (Sp18.cell y1 k)) ∧
    Sp18.joined F (2 * l) 2 [y0, y1] (l + k) = Sp18.csub F (Sp18.cell y0 k) (Sp18.turned F (2 * l) k (Sp18.cell y1 k)) := by
  have hl : 0 < l := by omega
  have e0 : 2 * l / 2 = l := mul_div_l (by decide)
  have e1 : k % l = k := Nat.mod_eq_of_lt hk
  have e2 : k / l = 0 := Nat.div_eq_of_lt hk
  have e3 : (l + k) % l = k := by rw [Nat.add_mod_left, e1]
  have e4 : (l + k) / l = 1 := by rw [Nat.add_div_left _ hl, e2]
  unfold Sp18.joined
  dsimp only
  rw [e0, e1, e2, e3, e4]
  exact ⟨rfl, rfl⟩
theorem joined_four {F : Sp18.Format} {l k v : Nat} {y0 y1 y2 y3 : List Sp18.C} (hk : k < l) (hv : v < 4) : Sp18.joined F (4 * l) 4 [y0, y1, y2, y3] (v * l + k) =
    Sp18.four F v (Sp18.cell y0 k) (Sp18.turned F (4 * l) k (Sp18.cell y1 k)) (Sp18.turned F (4 * l) (2 * k) (Sp18.cell y2 k)) (Sp18.turned F (4 * l) (3 * k) (Sp18.cell y3 k)) := by
  have hl : 0 < l := by omega
  have e0 : 4 * l / 4 = l := mul_div_l (by decide)
  have e3 : (v * l + k) % l = k := by rw [Nat.mul_comm, Nat.mul_add_mod, Nat.mod_eq_of_lt hk]
  have e4 : (v * l + k) / l = v := by rw [Nat.mul_comm, Nat.mul_add_div hl, Nat.div_eq_of_lt hk, Nat.add_zero]
  unfold Sp18.joined
  dsimp only
  rw [e0, e3, e4]
  rfl
def manyTo (F : Sp18.Format) (N l : Nat) (css : List (List Sp18.C)) (j r : Nat) : Sp18.C := (List.range r).foldl (fun (s : Sp18.C) (r : Nat) => Sp18.cadd F s (Sp18.turned F N ((r + 1) * j) (Sp18.cell (css.getD (r + 1) []) (j % l)))) (Sp18.cell (css.getD 0 []) (j % l))
theorem manyTo_succ (F : Sp18.Format) (N l : Nat) (css : List (List Sp18.C)) (j r : Nat) : manyTo F N l css j (r + 1) = Sp18.cadd F (manyTo F N l css j r) (Sp18.turned F N ((r + 1) * j) (Sp18.cell (css.getD (r + 1) []) (j % l))) := by
  unfold manyTo
  rw [List.range_succ, List.foldl_append]
  rfl
theorem joined_many {F : Sp18.Format} {q l j : Nat} {css : List (List Sp18.C)} (h0 : 0 < q) (h2 : q ≠ 2) (h4 : q ≠ 4) : Sp18.joined F (q * l) q css j = manyTo F (q * l) l css j (q - 1) := by
  unfold Sp18.joined
  dsimp only
  rw [mul_div_l h0, if_neg h2, if_neg h4]
  rfl
theorem range_two {α : Type} (g : Nat → α) (l : Nat) : (List.range (2 * l)).map g = (List.range l).map g ++ (List.range l).map (fun k => g (l + k)) := by
  rw [Nat.two_mul, List.range_add, List.map_append, List.map_map]
  rfl
theorem range_four {α : Type} (g : Nat → α) (l : Nat) : (List.range (4 * l)).map g = (List.range l).map (fun k => g (0 * l + k)) ++ (List.range l).map (fun k => g (1 * l + k)) ++ (List.range l).map (fun k => g (2 * l + k)) ++ (List.range l).map (fun k => g (3 * l + k)) := by
  rw [show 4 * l = l + l + l + l by omega, List.range_add, List.range_add, List.range_add]
  simp only [List.map_append, List.map_map]
  congr 1
  · congr 1
    · congr 1
      · exact List.map_congr_left fun k _ => by rw [Nat.zero_mul, Nat.zero_add]
      · exact List.map_congr_left fun k _ => by rw [Nat.one_mul]; rfl
    · exact List.map_congr_left fun k _ => by rw [Nat.two_mul]; rfl
  · exact List.map_congr_left fun k _ => by rw [show 3 * l = l + l + l by omega]; rfl
theorem map_snoc {α : Type} (g : Nat → α) (i : Nat) : (List.range (i + 1)).map g = (List.range i).map g ++ [g i] := by
  rw [List.range_succ, List.map_append]
  rfl
theorem two_of {α : Type} {l : List α} (h : l.length = 2) : ∃ a b, l = [a, b] := by
  match l, h with
  | [a, b], _ => exact ⟨a, b, rfl⟩
theorem four_of {α : Type} {l : List α} (h : l.length = 4) : ∃ a b c d, l = [a, b, c, d] := by
  match l, h with
  | [a, b, c, d], _ => exact ⟨a, b, c, d, rfl⟩
theorem tFor_rng2 {lo : Int} {n : Nat} {ta : TA} {g : TG} {tb : TS} {D : Ends} {σ : St} {H : Hp} {hi : Int} (hta : ∀ R : List V → Hp → Prop, R [.int lo, .int hi] H → ta σ H R) (h1 : -1000000 ≤ lo ∧ lo ≤ 1000000) (h2 : -1000000 ≤ hi ∧ hi ≤ 1000000) (hn : (hi - lo).toNat = n) (Pv : Nat → St → Hp → Prop) (h0 : Pv 0 σ H)
    (hs : ∀ i σ H, i < n → Pv i σ H → g (.int (lo + (i : Nat))) σ H fun σ2 H2 => tb { D with nx := Pv (i + 1), ct := Pv (i + 1), bk := D.nx } σ2 H2) (hd : ∀ σ H, Pv n σ H → D.nx σ H) : tFor (iRng2 ta) g tb D σ H := by
  refine hta _ ⟨lo, hi, rfl, ⟨by omega, by omega, by omega, by omega⟩, ?_⟩
  rw [hn]
  exact for_range Pv h0 hs hd
def TK (H H' : Hp) : Prop := ∀ b xs, H b = some (.tup xs) → H' b = some (.tup xs)
theorem TK.refl (H : Hp) : TK H H := fun _ _ e => e
theorem TK.of {H H' : Hp} (s : Same H H') : TK H H' := fun _ _ e => s _ _ e
theorem TK.trans {H H' H2 : Hp} (h : TK H H') (g : TK H' H2) : TK H H2 := fun b xs e => g b xs (h b xs e)
theorem TK.put {H : Hp} {p : Addr} {xs : List V} {o : HO} (h : H p = some (.lst xs)) : TK H (upd H p o) := fun b ys e => by rw [upd_ne (tups_ne h e)]; exact e
theorem same_put {H H' : Hp} {p : Addr} {o : HO} (s : Same H H') (n : H p = none) : Same H (upd H' p o) := fun b u e => by rw [upd_ne (ne_of_none e n)]; exact s _ _ e
theorem tLc_tupG {K : PySem.W.Frag} {xs : List V} {g : TG} {te tl : TE} {vs : List Nat} {σ : St} {H : Hp} {Q : VK} (Φ : Addr → Nat → V → Hp → Prop) (mono : ∀ D i z H1 H2, SameX D H1 H2 → Φ D i z H1 → Φ D i z H2)
    (htl : ∀ R : VK, (∀ la H1, Same H H1 → Pl H1 → SqT K H1 la xs → R (.ref la) H1) → tl σ H R) (hsz : xs.length ≤ sizeLine)
    (step : ∀ D i x H' (Nx : VK), xs[i]? = some x → Same H H' → Pl H' → (∃ acc, H' D = some (.lst acc)) → (∀ z H4, Same H' H4 → Pl H4 → Φ D i z H4 → Nx z H4) → g x (wipe σ vs) H' fun σ2 H2 => wipe σ2 vs = wipe σ vs ∧ te σ2 H2 Nx)
    (fin : ∀ D H' (zs : List V), Same H H' → Pl H' → zs.length = xs.length → (∀ (i : Nat) (z : V), zs[i]? = some z → Φ D i z H') → H D = none → H' D = some (.lst zs) → Q (.ref D) H') : tLc (iTup K tl) g tYes te vs σ H Q := by
  refine htl _ fun la H1 s0 hP hx => ⟨la, rfl, ⟨xs, hx⟩, ?_⟩
  refine lc_gen (n := xs.length) Φ mono hP hsz (fun i H' hi s1 => ⟨xs, xs[i], s1.seqT hx, List.getElem?_eq_getElem hi⟩) (fun H' s1 => ⟨xs, s1.seqT hx, Nat.le_refl _⟩) ?_ (fun D H' zs s1 hP1 hz hΦ hD e => fin D H' zs (s0.trans s1) hP1 hz hΦ (fresh_of s0 hD) e)
  rintro D i H' v H2 Nx hi s1 hP1 hacc ⟨rfl, q1⟩ kN
  exact step D i v _ Nx (q1 xs (s1.seqT hx)) (s0.trans s1) hP1 hacc kN
theorem three_at {i : Nat} {x : V} (h : ([V.int 1, V.int 2, V.int 3] : List V)[i]? = some x) : i < 3 ∧ x = V.int ((i + 1 : Nat) : Int) := by
  match i, h with
  | 0, h => cases h; exact ⟨by decide, rfl⟩
  | 1, h => cases h; exact ⟨by decide, rfl⟩
  | 2, h => cases h; exact ⟨by decide, rfl⟩
  | i + 3, h => simp at h
end L2
set_option linter.all false
set_option maxRecDepth 100000
set_option Elab.async false
namespace L2
open PySem PySem.Spec PyProof.Rows
open Sig
open Sp18Neutral (fmt)
def tameB (F : Sp18.Format) : Nat := if F.p = 24 then 1904214016 else 9110782046170513408
theorem tame_val {F : Sp18.Format} (h : Std F) : val F (tameB F) = 2 ^ Sig.TE F := by rcases h with rfl | rfl <;> decide +kernel
theorem tame_T {F : Sp18.Format} (hF : Std F) {b : Nat} (hb : b < 2 * HB F) (h : mag F b < tameB F) : TkS F b 1 := by
  refine ⟨hb, ?_, Nat.le_refl _⟩
  have := val_mono (F := F) h
  rw [tame_val hF] at this
  omega
def plC (F : Sp18.Format) (xs : List (Int × Int)) : List Sp18.C := xs.map fun x => (Sp18.plain F x.1.toNat, Sp18.plain F x.2.toNat)
section
variable (P : Program) (w : World) (K : PySem.W.Frag) (mg : Str → Option Value) (base : Heap)
def sp_g : Sp := fun vs H Q _ => ∃ (f : Int) (la : Addr) (xs : List (Int × Int)), vs = [.int f, .ref la] ∧ F01 f ∧ Pl H ∧ PairsAt K H la xs ∧ xs.length ≤ 30000 ∧ (∀ x ∈ xs, Nm f x.1 ∧ Nm f x.2) ∧
  ∀ H' p (R : Rel) (CR : Int → Nat → Prop) (T : Nat → Nat → Prop), Same H H' → Pl H' → AR P w K mg base (fmt f) R CR T H' p → (∀ x ∈ xs, T x.1.toNat 1 ∧ T x.2.toNat 1) → Q (.ref p) H'
def sp_at : Sp := fun vs H Q _ => ∃ (f : Int) (la : Addr) (xs : List (Int × Int)), vs = [.int f, .ref la] ∧ F01 f ∧ Pl H ∧ PairsAt K H la xs ∧ 1 ≤ xs.length ∧ xs.length ≤ 8192 ∧ (∀ x ∈ xs, Nm f x.1 ∧ Nm f x.2) ∧
  ∀ H' t, Same H H' → Pl H' → H t = none → PairsAt K H' t (intC (Sp18.forth (fmt f) (plC (fmt f) xs))) → Q (.ref t) H'
end
theorem tFor_rev {K : PySem.W.Frag} {xs : List V} {ta : TA} {g : TG} {tb : TS} {D : Ends} {σ : St} {H : Hp} (Pv : Addr → Nat → St → Hp → Prop)
    (hta : ∀ R : List V → Hp → Prop, (∀ la H1, SqL K H1 la xs → Pv la 0 σ H1 → R [.ref la] H1) → ta σ H R) (hq : ∀ la i σ H, Pv la i σ H → SqL K H la xs)
    (hs : ∀ la i x σ H, i < xs.length → xs[xs.length - 1 - i]? = some x → Pv la i σ H → g x σ H fun σ2 H2 => tb { D with nx := Pv la (i + 1), ct := Pv la (i + 1), bk := D.nx } σ2 H2) (hd : ∀ la σ H, Pv la xs.length σ H → D.nx σ H) : tFor (iRev K ta) g tb D σ H := by
  refine hta _ fun la H1 hx h0 => ⟨la, xs, rfl, hx, ?_⟩
  refine ⟨fun i m σ H => m = xs.length - i ∧ i ≤ xs.length ∧ Pv la i σ H, ⟨xs.length, by simp, Nat.zero_le _, h0⟩, ?_⟩
  rintro i m σ H ⟨rfl, hi, p⟩
  have q := hq la i σ H p
  by_cases hlt : i < xs.length
  · have e := List.getElem?_eq_getElem (l := xs) (i := xs.length - 1 - i) (by omega)
    refine .inr ⟨⟨hlt, xs, _, q, e⟩, Pv la (i + 1), fun σ' H' p' => ⟨xs.length - (i + 1), by omega, rfl, hlt, p'⟩, fun x H' y => ?_⟩
    obtain ⟨e2, y⟩ := y
    subst e2
    exact hs la i x σ _ hlt (y xs q) p
  · have e : i = xs.length := by omega
    subst e
    exact .inl ⟨Nat.le_refl _, hd la σ H p⟩
theorem pick_none {xs : List V} {c : Nat} (hc : 0 < c) : pickV xs none none (some (c : Int)) = pickV xs (some ((0 : Nat) : Int)) none (some (c : Int)) := by
  unfold pickV sliceBounds
  have e1 : (if ((0 : Nat) : Int) < 0 then ((0 : Nat) : Int) + (xs.length : Int) else ((0 : Nat) : Int)) = 0 := if_neg (by decide)
  have e2 : max 0 (min (0 : Int) (xs.length : Int)) = 0 := by omega
  simp only [Option.getD_some, if_pos (show (c : Int) > 0 by omega), e1, e2]
theorem part_scale {H : Hp} {a : Addr} {F : Sp18.Format} {CR : Int → Nat → Prop} {N j c : Nat} (hN : 0 < N) (hc : 0 < c) (h8 : N * c ≤ 8192) (h : PartAt H a F CR (N * c) (j * c)) : PartAt H a F CR N j := by
  obtain ⟨q1, q2⟩ := quarters_scale (n := N) (j := j) hc
  have ea := angle_scale (n := N) (j := j) hN hc h8
  unfold PartAt at h ⊢
  rw [q1, q2, ea] at h
  by_cases z : 4 * j % N = 0
  · rw [if_pos z]; rw [if_pos (by rw [z, Nat.zero_mul])] at h; exact h
  · rw [if_neg z]; rw [if_neg (Nat.mul_ne_zero z (by omega))] at h; exact h
theorem every_all {x : List Sp18.C} {n : Nat} (h : x.length = n) : every x 1 n 0 = x := by
  apply List.ext_getElem?
  intro i
  unfold every
  rw [List.getElem?_map]
  by_cases c : i < n
  · rw [List.getElem?_range c, Option.map_some, Nat.one_mul, Nat.add_zero]
    unfold Sp18.cell
    rw [List.getD_eq_getElem?_getD, List.getElem?_eq_getElem (by omega)]
    rfl
  · rw [List.getElem?_eq_none (by rw [List.length_range]; omega), List.getElem?_eq_none (by omega)]
    rfl
theorem plain_none {F : Sp18.Format} (hF : Std F) : Sp18.plain F (Sp18.NONE F) = Sp18.NONE F := by
  have := none_lt hF.ok
  rw [plain_eq hF.ok (by omega), if_pos (by rw [mag_none hF.ok]; exact this.2)]
theorem plain_ok {F : Sp18.Format} (hF : Std F) {b : Nat} (hb : b < 2 * HB F) (h : mag F b ≤ Sp18.top F) : Sp18.plain F b = b := by rw [plain_eq hF.ok hb, if_neg (by omega)]
theorem plain_add {F : Sp18.Format} (hF : Std F) (a b : Nat) : Sp18.plain F (Sp18.add F a b) = Sp18.add F a b := by
  have ht := top_lt hF.ok
  have hi : ∀ s, Sp18.plain F (Sp18.infinite F s) = Sp18.infinite F s := fun s => plain_ok hF (inf_lt2 hF.ok s) (by rw [inf_eq, mag_of ht]; exact Nat.le_refl _)
  have hs : ∀ s, Sp18.plain F (Sp18.signBit F s) = Sp18.signBit F s := fun s => plain_ok hF (sign_lt2 hF.ok s) (by rw [← Nat.add_zero (Sp18.signBit F s), mag_of (hb_pos F)]; exact Nat.zero_le _)
  unfold Sp18.add
  split
  · exact plain_none hF
  · exact plain_none hF
  · split
    · exact hi _
    · exact plain_none hF
  · exact hi _
  · exact hi _
  · dsimp only
    split
    · exact hs _
    · exact plain_ok hF (round_lt hF.ok _ _ _ _) (round_mag hF.ok _ _ _ _)
def Canon (F : Sp18.Format) (c : Sp18.C) : Prop := Sp18.plain F c.1 = c.1 ∧ Sp18.plain F c.2 = c.2
theorem canon_cadd {F : Sp18.Format} (hF : Std F) (x y : Sp18.C) : Canon F (Sp18.cadd F x y) := ⟨plain_add hF _ _, plain_add hF _ _⟩
theorem canon_csub {F : Sp18.Format} (hF : Std F) (x y : Sp18.C) : Canon F (Sp18.csub F x y) := ⟨plain_add hF _ _, plain_add hF _ _⟩
theorem canon_joined {F : Sp18.Format} (hF : Std F) {n p j : Nat} (hp : 2 ≤ p) (y : List (List Sp18.C)) : Canon F (Sp18.joined F n p y j) := by
  unfold Sp18.joined
  dsimp only
  split
  · split
    · exact canon_cadd hF _ _
    · exact canon_csub hF _ _
  · split
    · unfold Sp18.four
      dsimp only
      split
      · exact canon_cadd hF _ _
      · split
        · exact ⟨plain_add hF _ _, plain_add hF _ _⟩
        · split
          · exact canon_csub hF _ _
          · exact ⟨plain_add hF _ _, plain_add hF _ _⟩
    · obtain ⟨m, hm⟩ : ∃ m, p - 1 = m + 1 := ⟨p - 2, by omega⟩
      rw [hm, List.range_succ, List.foldl_append]
      exact canon_cadd hF _ _
theorem canon_forth {F : Sp18.Format} (hF : Std F) {X : List Sp18.C} (h : ∀ c ∈ X, Canon F c) : ∀ c ∈ Sp18.forth F X, Canon F c := by
  intro c hc
  by_cases c1 : X.length ≤ 1
  · have : Sp18.forth F X = X := by
      rcases Nat.eq_zero_or_pos X.length with z | z
      · unfold Sp18.forth; rw [z]; rfl
      · exact forth_one X (by omega)
    rw [this] at hc
    exact h c hc
  · rw [forth_step rfl (show 1 < X.length by omega)] at hc
    obtain ⟨j, _, rfl⟩ := List.mem_map.mp hc
    exact canon_joined hF (factor_ge (by omega)) _
theorem refs_of {zs : List V} {Φ : Nat → Addr → Prop} (h : ∀ (i : Nat) (z : V), zs[i]? = some z → ∃ t : Addr, z = V.ref t ∧ Φ i t) : ∃ ts : List Addr, zs = ts.map V.ref ∧ ∀ (i : Nat) (t : Addr), ts[i]? = some t → Φ i t := by
  refine ⟨zs.map fun v => match v with | .ref t => t | _ => 0, ?_, ?_⟩
  · apply List.ext_getElem?
    intro i
    rw [List.getElem?_map, List.getElem?_map]
    cases e : zs[i]? with
    | none => rfl
    | some z => obtain ⟨t, rfl, _⟩ := h i z e; rfl
  · intro i t e
    rw [List.getElem?_map] at e
    cases e2 : zs[i]? with
    | none => rw [e2] at e; cases e
    | some z =>
      obtain ⟨t', rfl, hz⟩ := h i z e2
      rw [e2] at e
      cases e
      exact hz
theorem pick_refs {ts : List Addr} {i c m : Nat} (hc : 0 < c) (hi : i ≤ ts.length) (hm : m = (ts.length - i + c - 1) / c) : ∃ us : List Addr, pickV (ts.map V.ref) (some (i : Int)) none (some (c : Int)) = us.map V.ref ∧ us.length = m ∧ ∀ (k : Nat) (u : Addr), us[k]? = some u → ts[i + c * k]? = some u := by
  obtain ⟨h1, h2⟩ := pick_all (xs := ts.map V.ref) (i := i) (c := c) (m := m) hc (by rw [List.length_map]; exact hi) (by rw [List.length_map]; exact hm)
  obtain ⟨us, e, hu⟩ := refs_of (zs := pickV (ts.map V.ref) (some (i : Int)) none (some (c : Int))) (Φ := fun k u => ts[i + c * k]? = some u) fun k z ez => by
    have hk : k < m := by rw [← h1]; exact (List.getElem?_eq_some_iff.mp ez).1
    rw [h2 k hk] at ez
    obtain ⟨t, et, rfl⟩ := map_at ez
    exact ⟨t, rfl, et⟩
  refine ⟨us, e, ?_, hu⟩
  rw [← h1, e, List.length_map]
def CRowD (D : Addr) (K : PySem.W.Frag) (H : Hp) (t : Addr) (R : Rel) (n : Nat) (cs : List Sp18.C) : Prop := t ≠ D ∧ ∃ as : List Addr, SqL K H t (as.map V.ref) ∧ (∀ a ∈ as, a ≠ D) ∧ Prs H as R n cs
theorem CRowD.mono {D : Addr} {K : PySem.W.Frag} {H H' : Hp} {t : Addr} {R : Rel} {n : Nat} {cs : List Sp18.C} (s : SameX D H H') (h : CRowD D K H t R n cs) : CRowD D K H' t R n cs := by
  obtain ⟨h1, as, h2, h3, h4⟩ := h
  refine ⟨h1, as, ?_, h3, h4.1, fun i a c e1 e2 => ?_⟩
  · rcases h2 with (h | ⟨o, h⟩) | h
    · exact .inl (.inl (s _ _ h1 h))
    · exact .inl (.inr ⟨o, s _ _ h1 h⟩)
    · exact .inr h
  · obtain ⟨z1, z2, e, r⟩ := h4.2 i a c e1 e2
    exact ⟨z1, z2, s _ _ (h3 a (List.mem_of_getElem? e1)) e, r⟩
theorem CRowD.of {D : Addr} {K : PySem.W.Frag} {H : Hp} {t : Addr} {R : Rel} {n : Nat} {cs : List Sp18.C} {acc : List V} (hD : H D = some (.lst acc)) (ht : t ≠ D) (h : CRow K H t R n cs) : CRowD D K H t R n cs := by
  obtain ⟨as, h2, h4⟩ := h
  refine ⟨ht, as, h2, fun a ha z => ?_, h4⟩
  obtain ⟨i, hi, e⟩ := List.getElem_of_mem ha
  have e1 : as[i]? = some a := by rw [List.getElem?_eq_getElem hi, e]
  have e2 := List.getElem?_eq_getElem (l := cs) (i := i) (by rw [← h4.1]; exact hi)
  obtain ⟨z1, z2, q, _⟩ := h4.2 i a _ e1 e2
  rw [z, hD] at q
  cases q
theorem CRowD.row {D : Addr} {K : PySem.W.Frag} {H : Hp} {t : Addr} {R : Rel} {n : Nat} {cs : List Sp18.C} (h : CRowD D K H t R n cs) : CRow K H t R n cs := by
  obtain ⟨_, as, h2, _, h4⟩ := h
  exact ⟨as, h2, h4⟩
theorem cnt_div {a c q : Nat} (ha : a < c) (hq : 2 ≤ q) : (c * q - a + c - 1) / c = q := by
  have hc : 0 < c := by omega
  have h1 : c ≤ c * q := Nat.le_mul_of_pos_right c (by omega)
  have e : c * q - a + c - 1 = c * q + (c - 1 - a) := by omega
  rw [e, Nat.mul_add_div hc, Nat.div_eq_of_lt (by omega), Nat.add_zero]
theorem pow_step {p : Nat} (h : 2 ≤ p) : (2 * p - 1) ^ 10 ≤ p ^ 17 := by
  rcases Nat.lt_or_ge p 4 with c | c
  · have : p = 2 ∨ p = 3 := by omega
    rcases this with rfl | rfl <;> decide
  · have h1 : (2 * p - 1) ^ 10 ≤ (2 * p) ^ 10 := Nat.pow_le_pow_left (by omega) 10
    have h2 : (2 * p) ^ 10 = 2 ^ 10 * p ^ 10 := Nat.mul_pow 2 p 10
    have h3 : p ^ 17 = p ^ 7 * p ^ 10 := by rw [← Nat.pow_add]
    have h4 : 4 ^ 7 ≤ p ^ 7 := Nat.pow_le_pow_left c 7
    rw [h2] at h1
    rw [h3]
    exact Nat.le_trans h1 (Nat.mul_le_mul_right _ (Nat.le_trans (by decide) h4))
theorem bnd_step {B l p : Nat} (h : B ^ 10 ≤ l ^ 17) (hp : 2 ≤ p) : (B * (2 * p - 1)) ^ 10 ≤ (p * l) ^ 17 := by
  rw [Nat.mul_pow, Nat.mul_pow, Nat.mul_comm (p ^ 17)]
  exact Nat.mul_le_mul h (pow_step hp)
theorem bnd_lim {B l : Nat} (h : B ^ 10 ≤ l ^ 17) (hl : l ≤ 8192) : B ≤ LIM := by
  rcases Nat.lt_or_ge LIM B with c | c
  · exfalso
    have h1 : LIM ^ 10 ≤ B ^ 10 := Nat.pow_le_pow_left (Nat.le_of_lt c) 10
    have h2 : l ^ 17 ≤ 8192 ^ 17 := Nat.pow_le_pow_left hl 17
    have h3 : 8192 ^ 17 < LIM ^ 10 := by unfold LIM; decide
    omega
  · exact c
end L2
set_option linter.all false
set_option maxRecDepth 100000
set_option Elab.async false
namespace L2
open PySem PySem.Spec PyProof.Rows
open Sig
open Sp18Neutral (fmt)
def opps (F : Sp18.Format) (xs : List (Int × Int)) : List (Int × Int) := xs.map fun x => (x.1, ((Sp18.neg F x.2.toNat : Nat) : Int))
def sp_j (K : PySem.W.Frag) : Sp := fun vs H Q _ => ∃ (f : Int) (la : Addr) (xs : List (Int × Int)), vs = [.int f, .ref la] ∧ F01 f ∧ Pl H ∧ PairsAt K H la xs ∧ xs.length ≤ 30000 ∧ (∀ x ∈ xs, Nm f x.2) ∧
  ∀ H' t, Same H H' → Pl H' → PairsAt K H' t (opps (fmt f) xs) → Q (.ref t) H'
def sp_be (K : PySem.W.Frag) : Sp := fun vs H Q _ => ∃ (f : Int) (la : Addr) (xs : List (Int × Int)), vs = [.int f, .ref la] ∧ F01 f ∧ Pl H ∧ PairsAt K H la xs ∧ 1 ≤ xs.length ∧ xs.length ≤ 8192 ∧ (∀ x ∈ xs, Nm f x.1 ∧ Nm f x.2) ∧
  ∀ H' t, Same H H' → Pl H' → PairsAt K H' t (intC (Sp18.back (fmt f) (plC (fmt f) xs))) → Q (.ref t) H'
theorem canon_lt {F : Sp18.Format} (hF : Std F) {b : Nat} (h : Sp18.plain F b = b) : b < 2 * HB F := by
  rw [← h]
  unfold Sp18.plain
  split
  · exact none_lt2 hF.ok
  · rw [← Sig.bits_eq hF.ok]; exact Nat.mod_lt _ (Nat.two_pow_pos _)
theorem plC_opps {F : Sp18.Format} (hF : Std F) {xs : List (Int × Int)} (h : ∀ x ∈ xs, 0 ≤ x.2 ∧ x.2 < ((2 * HB F : Nat) : Int)) : plC F (opps F xs) = (plC F xs).map (Sp18.conj F) := by
  unfold plC opps
  rw [List.map_map, List.map_map]
  refine List.map_congr_left fun x hx => ?_
  have hb := h x hx
  have hl : x.2.toNat < 2 * HB F := by omega
  show (Sp18.plain F x.1.toNat, Sp18.plain F (Sp18.neg F x.2.toNat)) = (Sp18.plain F x.1.toNat, Sp18.neg F (Sp18.plain F x.2.toNat))
  rw [neg_plain hF.ok hl]
  congr 1
  have hn := neg_eq hF.ok hl
  rw [hn]
  split
  · exact plain_none hF
  · next c => exact plain_ok hF (sign_or_lt _ (mag_lt F _)) (by rw [mag_of (mag_lt F _)]; omega)
theorem opps_intC {F : Sp18.Format} (l : List Sp18.C) : opps F (intC l) = intC (l.map (Sp18.conj F)) := by
  unfold opps intC
  rw [List.map_map, List.map_map]
  refine List.map_congr_left fun x _ => ?_
  rfl
theorem intC_nm {f : Int} (hf : F01 f) {X : List Sp18.C} (h : ∀ c ∈ X, Canon (fmt f) c) : ∀ x ∈ intC X, Nm f x.1 ∧ Nm f x.2 := by
  intro x hx
  obtain ⟨c, hc, rfl⟩ := List.mem_map.mp hx
  obtain ⟨h1, h2⟩ := h c hc
  exact ⟨nm_of (canon_lt hf.std h1), nm_of (canon_lt hf.std h2)⟩
theorem canon_plC {f : Int} (hf : F01 f) {xs : List (Int × Int)} (h : ∀ x ∈ xs, Nm f x.1 ∧ Nm f x.2) : ∀ c ∈ plC (fmt f) xs, Canon (fmt f) c := by
  intro c hc
  obtain ⟨y, hy, rfl⟩ := List.mem_map.mp hc
  obtain ⟨q1, q2⟩ := h y hy
  exact ⟨plain_plain hf.ok (by omega), plain_plain hf.ok (by omega)⟩
end L2
set_option linter.all false
set_option maxRecDepth 100000
set_option Elab.async false
namespace L2
open PySem PySem.Spec PyProof.Rows
open Sig
open Sp18Neutral (fmt)
theorem back_len (F : Sp18.Format) (X : List Sp18.C) : (Sp18.back F X).length = X.length := by unfold Sp18.back; rw [List.length_map, forth_len, List.length_map]
end L2
set_option linter.all false
set_option maxRecDepth 100000
set_option Elab.async false
namespace PySem
theorem zip_no_len : typeLookup (.type "zip") "__len__" = pure none := by rw [typeLookup_type, builtinLookup_eq_fast]; kernel_rfl
theorem zip_no_hint : typeLookup (.type "zip") "__length_hint__" = pure none := by rw [typeLookup_type, builtinLookup_eq_fast]; kernel_rfl
abbrev ZAt (h : Heap) (z TI TO a : Addr) (f : Bool) : Prop :=
  h.get? z = some { cls := .type "zip", dict := none, data := .fields #[rawInt a, .bool f, .bool false, .ref TI, .ref TO], slots := #[] }
section
variable {prog : Program} {w : World} {A : Around} {E : Value → Shared → Prop} {s : Shared}
theorem owned_out {z TI TO a : Addr} {f : Bool} {oa : Obj} (hz : ZAt s.heap z TI TO a f) (ha : s.heap.get? a = some oa) :
    wpAny (model prog w) A (Builtin.SmallTypes.ownedTupleIsFree (.ref z)) (fun b s' => b = false ∧ ∃ h₁, s' = { s with heap := h₁ } ∧ ZAt h₁ z TI TO a true ∧ Heap.SameBut z s.heap h₁) E s := by
  unfold Builtin.SmallTypes.ownedTupleIsFree
  refine wpAny_bind (wpAny_field hz rfl (x := rawInt a) rfl ?_)
  show wpAny _ _ (loadIfAlive ((a : Int).toNat) >>= _) _ _ _
  rw [Int.toNat_natCast]
  refine wpAny_bind (PySem.W.kdx_alive ha ?_)
  simp only [Option.isNone_some, Bool.false_eq_true, if_false]
  refine wpAny_bind (wpAny_field hz rfl (x := .bool f) rfl ?_)
  cases f with
  | true =>
    rw [if_neg (show ¬ ((Value.bool true != Value.bool true) = true) from Bool.false_ne_true)]
    exact wpAny_pure ⟨rfl, s.heap, rfl, hz, Heap.SameBut.refl _ _⟩
  | false =>
    rw [if_pos (show (Value.bool false != Value.bool true) = true from rfl)]
    refine wpAny_bind (wpAny_setField_rec hz (by simp) fun h₃ he₃ hs₃ => ?_)
    exact wpAny_pure ⟨rfl, h₃, rfl, he₃, hs₃⟩
theorem zip_out_item {z TI TO i1 i2 l1 l2 a : Addr} {f : Bool} {oa : Obj} {k1 k2 : Nat} {xs ys : Array Value} {x y : Value} {Q : Value → Shared → Prop} (D : ZipApart z TI TO i1 i2 l1 l2)
    (hz : ZAt s.heap z TI TO a f) (ha : s.heap.get? a = some oa) (hTI : IsPair s.heap TI (.ref i1) (.ref i2))
    (h1 : s.heap.IsListIter i1 l1 k1) (h2 : s.heap.IsListIter i2 l2 k2) (hl1 : s.heap.IsList l1 xs) (hl2 : s.heap.IsList l2 ys) (hx : xs[k1]? = some x) (hy : ys[k2]? = some y)
    (hQ : ∀ h', ZAt h' z TI TO a true → h'.IsListIter i1 l1 (k1 + 1) → h'.IsListIter i2 l2 (k2 + 1) → IsPair h' s.heap.objs.size x y → h'.objs.size = s.heap.objs.size + 1 →
      (∀ c o, c ≠ z → c ≠ i1 → c ≠ i2 → s.heap.get? c = some o → h'.get? c = some o) → Q (.ref s.heap.objs.size) { s with heap := h' }) :
    wpAny (model prog w) A (Builtin.«zip.__next__» ⟨[.ref z], []⟩) (fun fin s' => ∃ v, fin = .done (.ret v) ∧ Q v s') E s := by
  show wpAny _ _ (field (.ref z) 2 >>= _) _ _ _
  refine wpAny_bind (wpAny_field hz rfl (x := .bool false) rfl ?_)
  show wpAny _ _ (field (.ref z) 3 >>= _) _ _ _
  refine wpAny_bind (wpAny_field hz rfl (x := .ref TI) rfl ?_)
  refine wpAny_bind (wpAny_seqItems hTI rfl ?_)
  show wpAny _ _ (Builtin.SmallTypes.ownedTupleIsFree (.ref z) >>= _) _ _ _
  refine wpAny_bind (wpAny_mono (owned_out hz ha) (fun b s' hb => ?_) fun _ _ q => q)
  obtain ⟨rfl, h₁, rfl, hz₁, hs₁⟩ := hb
  simp only [Bool.false_eq_true, if_false]
  simp only [List.forIn_toArray, List.forIn_cons, List.forIn_nil]
  refine wpAny_bind (wpAny_bind (wpAny_bind (wpAny_holding ?_)))
  show wpAny _ _ (Builtin.SmallTypes.nextOf (.ref i1) >>= _) _ _ _
  refine wpAny_bind (wpAny_nextOf_list_item (h1.extBut hs₁.extBut D.i1z) (hl1.extBut hs₁.extBut D.l1z) hx fun h₂ h1₂ hs₂ => wpAny_pure ?_)
  refine wpAny_pure ?_
  refine wpAny_bind (wpAny_bind (wpAny_holding ?_))
  show wpAny _ _ (Builtin.SmallTypes.nextOf (.ref i2) >>= _) _ _ _
  refine wpAny_bind (wpAny_nextOf_list_item ((h2.extBut hs₁.extBut D.i2z).extBut hs₂.extBut D.i12.symm) ((hl2.extBut hs₁.extBut D.l2z).extBut hs₂.extBut D.l2i1) hy fun h₃ h2₃ hs₃ => wpAny_pure ?_)
  refine wpAny_pure (wpAny_pure ?_)
  dsimp only at hs₁ hs₂ hs₃
  show wpAny _ _ (newTuple [x, y] >>= _) _ _ _
  refine wpAny_bind (wpAny_newTuple ?_)
  have hsz : h₃.objs.size = s.heap.objs.size := by rw [hs₃.1, hs₂.1, hs₁.1]
  have hz₃ : ZAt h₃ z TI TO a true := hs₃.extBut _ _ D.i2z.symm (hs₂.extBut _ _ D.i1z.symm hz₁)
  have h1₃ : h₃.IsListIter i1 l1 (k1 + 1) := h1₂.extBut hs₃.extBut D.i12
  refine wpAny_pure ⟨_, rfl, ?_⟩
  show Q (.ref h₃.objs.size) _
  rw [hsz]
  refine hQ (h₃.push { cls := .type "tuple", data := .seq #[x, y] }) (Heap.get?_push_of_some _ hz₃) (h1₃.at fun o e => Heap.get?_push_of_some _ e) (h2₃.at fun o e => Heap.get?_push_of_some _ e) ?_ (by rw [Heap.size_push, hsz]) fun c o c1 c2 c3 e => ?_
  · rw [← hsz]; exact Heap.get?_push_size _ rfl
  · exact Heap.get?_push_of_some _ (hs₃.extBut _ _ c3 (hs₂.extBut _ _ c2 (hs₁.extBut _ _ c1 e)))
theorem next_out_item {z TI TO i1 i2 l1 l2 a : Addr} {f : Bool} {oa : Obj} {k1 k2 : Nat} {xs ys : Array Value} {x y : Value} {Q : Option Value → Shared → Prop} (D : ZipApart z TI TO i1 i2 l1 l2)
    (hz : ZAt s.heap z TI TO a f) (ha : s.heap.get? a = some oa) (hTI : IsPair s.heap TI (.ref i1) (.ref i2))
    (h1 : s.heap.IsListIter i1 l1 k1) (h2 : s.heap.IsListIter i2 l2 k2) (hl1 : s.heap.IsList l1 xs) (hl2 : s.heap.IsList l2 ys) (hx : xs[k1]? = some x) (hy : ys[k2]? = some y)
    (hQ : ∀ h', ZAt h' z TI TO a true → h'.IsListIter i1 l1 (k1 + 1) → h'.IsListIter i2 l2 (k2 + 1) → IsPair h' s.heap.objs.size x y → h'.objs.size = s.heap.objs.size + 1 →
      (∀ c o, c ≠ z → c ≠ i1 → c ≠ i2 → s.heap.get? c = some o → h'.get? c = some o) → Q (some (.ref s.heap.objs.size)) { s with heap := h' }) :
    wpAny (model prog w) A (pyNext (.ref z)) Q E s := by
  have hT : s.TypeIs (.ref z) "zip" := ⟨_, hz, rfl⟩
  unfold pyNext
  exact wpAny_bind (wpAny_attempt (wpAny_callSpecial?_slot (name := Str.ofString "__next__") hT F.slot_zip_next
    (wpAny_call_entry F.slot_zip_next hT F.entry_zip_next
      (zip_out_item D hz ha hTI h1 h2 hl1 hl2 hx hy fun h' a1 a2 a3 a4 a5 a6 => wpAny_pure (hQ h' a1 a2 a3 a4 a5 a6)) (F.args_zip_next_1 _))))
theorem zip_out_end {z TI TO i1 i2 l1 l2 a : Addr} {f : Bool} {oa : Obj} {k1 : Nat} {xs : Array Value} {Q : Fin → Shared → Prop} (hh : A.handled = none) (D : ZipApart z TI TO i1 i2 l1 l2)
    (hz : ZAt s.heap z TI TO a f) (ha : s.heap.get? a = some oa) (hTI : IsPair s.heap TI (.ref i1) (.ref i2))
    (h1 : s.heap.IsListIter i1 l1 k1) (hl1 : s.heap.IsList l1 xs) (hx : xs[k1]? = none)
    (hE : ∀ h' e, (∀ c o, c ≠ z → c ≠ i1 → s.heap.get? c = some o → h'.get? c = some o) → (∃ o, h'.get? e = some o ∧ o.cls = .type "StopIteration") → E (.ref e) { s with heap := h' }) :
    wpAny (model prog w) A (Builtin.«zip.__next__» ⟨[.ref z], []⟩) Q E s := by
  show wpAny _ _ (field (.ref z) 2 >>= _) _ _ _
  refine wpAny_bind (wpAny_field hz rfl (x := .bool false) rfl ?_)
  show wpAny _ _ (field (.ref z) 3 >>= _) _ _ _
  refine wpAny_bind (wpAny_field hz rfl (x := .ref TI) rfl ?_)
  refine wpAny_bind (wpAny_seqItems hTI rfl ?_)
  show wpAny _ _ (Builtin.SmallTypes.ownedTupleIsFree (.ref z) >>= _) _ _ _
  refine wpAny_bind (wpAny_mono (owned_out hz ha) (fun b s' hb => ?_) fun _ _ q => q)
  obtain ⟨rfl, h₁, rfl, hz₁, hs₁⟩ := hb
  simp only [Bool.false_eq_true, if_false]
  simp only [List.forIn_toArray, List.forIn_cons, List.forIn_nil]
  refine wpAny_bind (wpAny_bind (wpAny_bind (wpAny_holding ?_)))
  show wpAny _ _ (Builtin.SmallTypes.nextOf (.ref i1) >>= _) _ _ _
  refine wpAny_bind (wpAny_nextOf_list_end hh (h1.extBut hs₁.extBut D.i1z) (hl1.extBut hs₁.extBut D.l1z) hx fun h₂ e hs₂ he => ?_)
  exact hE h₂ e (fun c o c1 c2 q => hs₂ _ _ c2 (hs₁.extBut _ _ c1 q)) he
theorem next_out_end {z TI TO i1 i2 l1 l2 a : Addr} {f : Bool} {oa : Obj} {k1 : Nat} {xs : Array Value} {Q : Option Value → Shared → Prop} (hh : A.handled = none) (D : ZipApart z TI TO i1 i2 l1 l2)
    (hz : ZAt s.heap z TI TO a f) (ha : s.heap.get? a = some oa) (hTI : IsPair s.heap TI (.ref i1) (.ref i2))
    (h1 : s.heap.IsListIter i1 l1 k1) (hl1 : s.heap.IsList l1 xs) (hx : xs[k1]? = none)
    (hQ : ∀ h', (∀ c o, c ≠ z → c ≠ i1 → s.heap.get? c = some o → h'.get? c = some o) → Q none { s with heap := h' }) : wpAny (model prog w) A (pyNext (.ref z)) Q E s := by
  have hT : s.TypeIs (.ref z) "zip" := ⟨_, hz, rfl⟩
  unfold pyNext
  refine wpAny_bind (wpAny_attempt (wpAny_callSpecial?_slot (name := Str.ofString "__next__") hT F.slot_zip_next
    (wpAny_call_entry F.slot_zip_next hT F.entry_zip_next (zip_out_end hh D hz ha hTI h1 hl1 hx fun h' e hk he => ?_) (F.args_zip_next_1 _))))
  obtain ⟨o, ho, hc⟩ := he
  refine wpAny_bind (wpAny_isInstance (T := "StopIteration") (b := true) ⟨o, ho, hc⟩ isSubtype_stop ?_)
  exact wpAny_pure (hQ _ hk)
def ZSt (h : Heap) (z TI TO i1 i2 S : Addr) (i : Nat) : Prop :=
  (i = 0 ∧ IsZip h z TI TO .none ∧ ∃ a b, IsPair h TO a b) ∨ ∃ a f oa, ZAt h z TI TO a f ∧ h.get? a = some oa ∧ a ≠ z ∧ a ≠ i1 ∧ a ≠ i2 ∧ a ≠ S
structure ZAll (h : Heap) (z TI TO i1 i2 l1 l2 S : Addr) (xs ys : List Value) (i : Nat) : Prop where
  st : ZSt h z TI TO i1 i2 S i
  ti : IsPair h TI (.ref i1) (.ref i2)
  it1 : h.IsListIter i1 l1 i
  it2 : h.IsListIter i2 l2 i
  li1 : h.IsList l1 xs.toArray
  li2 : h.IsList l2 ys.toArray
theorem ZAll.keep {h h' : Heap} {z TI TO i1 i2 l1 l2 S : Addr} {xs ys : List Value} {i : Nat} (x : ZAll h z TI TO i1 i2 l1 l2 S xs ys i) (hk : ∀ b o, b ≠ S → h.get? b = some o → h'.get? b = some o)
    (n1 : z ≠ S) (n2 : TI ≠ S) (n3 : TO ≠ S) (n4 : i1 ≠ S) (n5 : i2 ≠ S) (n6 : l1 ≠ S) (n7 : l2 ≠ S) : ZAll h' z TI TO i1 i2 l1 l2 S xs ys i := by
  obtain ⟨st, ti, it1, it2, li1, li2⟩ := x
  refine ⟨?_, hk _ _ n2 ti, it1.at fun o e => hk _ o n4 e, it2.at fun o e => hk _ o n5 e, li1.at fun o e => hk _ o n6 e, li2.at fun o e => hk _ o n7 e⟩
  rcases st with ⟨e, hz, a, b, hT⟩ | ⟨a, f, oa, hz, ha, r1, r2, r3, r4⟩
  · exact .inl ⟨e, hk _ _ n1 hz, a, b, hk _ _ n3 hT⟩
  · exact .inr ⟨a, f, oa, hk _ _ n1 hz, hk _ _ r4 ha, r1, r2, r3, r4⟩
theorem ZAll.item {z TI TO i1 i2 l1 l2 S : Addr} {xs ys : List Value} {x y : Value} {i : Nat} {Q : Option Value → Shared → Prop} (D : ZipApart z TI TO i1 i2 l1 l2) (q : ZAll s.heap z TI TO i1 i2 l1 l2 S xs ys i) (hS : S < s.heap.objs.size)
    (hx : xs[i]? = some x) (hy : ys[i]? = some y)
    (hQ : ∀ h', ZAll h' z TI TO i1 i2 l1 l2 S xs ys (i + 1) → IsPair h' s.heap.objs.size x y → h'.objs.size = s.heap.objs.size + 1 →
      (∀ c o, c ≠ z → c ≠ TO → c ≠ i1 → c ≠ i2 → s.heap.get? c = some o → h'.get? c = some o) → Q (some (.ref s.heap.objs.size)) { s with heap := h' }) :
    wpAny (model prog w) A (pyNext (.ref z)) Q E s := by
  obtain ⟨st, ti, it1, it2, li1, li2⟩ := q
  have hx' : xs.toArray[i]? = some x := by simpa using hx
  have hy' : ys.toArray[i]? = some y := by simpa using hy
  have e1 : i1 < s.heap.objs.size := by obtain ⟨_, e, _⟩ := it1; exact Heap.lt_size e
  have e2 : i2 < s.heap.objs.size := by obtain ⟨_, e, _⟩ := it2; exact Heap.lt_size e
  rcases st with ⟨rfl, hz, a, b, hT⟩ | ⟨a, f, oa, hz, ha, r1, r2, r3, r4⟩
  · refine wpAny_pyNext_zip_item D hz ti hT it1 it2 li1 li2 hx' hy' fun h' a1 a2 a3 a4 a5 a6 hk => ?_
    exact hQ h' ⟨.inr ⟨_, false, _, a1, a5, Nat.ne_of_gt (Heap.lt_size hz), Nat.ne_of_gt e1, Nat.ne_of_gt e2, Nat.ne_of_gt hS⟩, hk _ _ D.TIz D.TITO D.TIi1 D.TIi2 ti, a3, a4, li1.at fun o e => hk _ o D.l1z D.l1TO D.l1i1 D.l1i2 e, li2.at fun o e => hk _ o D.l2z D.l2TO D.l2i1 D.l2i2 e⟩ a5 a6 hk
  · refine next_out_item D hz ha ti it1 it2 li1 li2 hx' hy' fun h' a1 a3 a4 a5 a6 hk => ?_
    exact hQ h' ⟨.inr ⟨a, true, oa, a1, hk _ _ r1 r2 r3 ha, r1, r2, r3, r4⟩, hk _ _ D.TIz D.TIi1 D.TIi2 ti, a3, a4, li1.at fun o e => hk _ o D.l1z D.l1i1 D.l1i2 e, li2.at fun o e => hk _ o D.l2z D.l2i1 D.l2i2 e⟩ a5 a6 fun c o c1 _ c3 c4 e => hk c o c1 c3 c4 e
theorem ZAll.done {z TI TO i1 i2 l1 l2 S : Addr} {xs ys : List Value} {i : Nat} {Q : Option Value → Shared → Prop} (hh : A.handled = none) (D : ZipApart z TI TO i1 i2 l1 l2) (q : ZAll s.heap z TI TO i1 i2 l1 l2 S xs ys i)
    (hx : xs[i]? = none)
    (hQ : ∀ h', (∀ c o, c ≠ z → c ≠ TO → c ≠ i1 → c ≠ i2 → s.heap.get? c = some o → h'.get? c = some o) → Q none { s with heap := h' }) :
    wpAny (model prog w) A (pyNext (.ref z)) Q E s := by
  obtain ⟨st, ti, it1, it2, li1, li2⟩ := q
  have hx' : xs.toArray[i]? = none := by simpa using hx
  rcases st with ⟨rfl, hz, a, b, hT⟩ | ⟨a, f, oa, hz, ha, r1, r2, r3, r4⟩
  · exact wpAny_pyNext_zip_end hh D hz ti hT it1 it2 li1 li2 (.inl hx') hQ
  · exact next_out_end hh D hz ha ti it1 li1 hx' fun h' hk => hQ h' fun c o c1 _ c3 _ e => hk c o c1 c3 e
structure ZG (xs ys : List Value) (lo : Addr) (h : Heap) (as : List Addr) : Prop where
  rise : as.Pairwise (· < ·)
  above : ∀ a ∈ as, lo < a
  pairs : ∀ (j : Nat) (a : Addr), as[j]? = some a → ∃ x y, xs[j]? = some x ∧ ys[j]? = some y ∧ IsPair h a x y
end
section
variable {prog : Program} {w : World} {A : Around} {s : Shared} {R : Result → Shared → Prop} {xs ys : List Value}
theorem zip_loop {S z TI TO i1 i2 l1 l2 : Addr} (hh : A.handled = none) (D : ZipApart z TI TO i1 i2 l1 l2) (hSz : z < S) (n2 : TI < S) (n3 : TO < S) (n4 : i1 < S) (n5 : i2 < S) (n6 : l1 < S) (n7 : l2 < S) (hxy : xs.length = ys.length) (hn : xs.length ≤ sizeLine) (res : Value) {h₁ : Heap}
    (hR : ∀ h' tk acc c as, (∀ b o, b ≠ S → b ≠ z → b ≠ TO → b ≠ i1 → b ≠ i2 → h₁.get? b = some o → h'.get? b = some o) → h'.get? S = some { cls := .type "list", dict := none, data := .seq acc c, slots := #[] } → as.length = xs.length → ZG xs ys S h' as →
      acc.toList = as.map Value.ref → R (.ok (.ret res)) { s with heap := h', toks := tk }) :
    ∀ (k i : Nat) (h : Heap) (tk c : Nat) (acc : Array Value) (as : List Addr), xs.length - i = k → i ≤ xs.length → ZAll h z TI TO i1 i2 l1 l2 S xs ys i → (∀ b o, b ≠ S → b ≠ z → b ≠ TO → b ≠ i1 → b ≠ i2 → h₁.get? b = some o → h.get? b = some o) →
      h.get? S = some { cls := .type "list", dict := none, data := .seq acc c, slots := #[] } → acc.toList = as.map Value.ref → as.length = i → ZG xs ys S h as →
      codeAny (model prog w) A (.builtin "list.extend.loop" ⟨[.ref S, .ref z, res], []⟩) R { s with heap := h, toks := tk } := by
  have m1 := Nat.ne_of_gt hSz
  have m3 := Nat.ne_of_gt n3
  have m4 := Nat.ne_of_gt n4
  have m5 := Nat.ne_of_gt n5
  have big : ∀ {a : Addr}, S < a → a ≠ z ∧ a ≠ TO ∧ a ≠ i1 ∧ a ≠ i2 := fun q =>
    ⟨Nat.ne_of_gt (Nat.lt_trans hSz q), Nat.ne_of_gt (Nat.lt_trans n3 q), Nat.ne_of_gt (Nat.lt_trans n4 q), Nat.ne_of_gt (Nat.lt_trans n5 q)⟩
  intro k
  induction k with
  | zero =>
    intro i h tk c acc as hk hi hst hkeep hS hacc hal hG
    have hin : i = xs.length := by omega
    refine codeAny_builtin PySem.F.entry_extend_loop ?_
    rw [Around.under_plainId PySem.F.plain_extend_loop _]
    show wpAny _ A.in1 (pyNext (.ref z) >>= _) _ _ _
    refine wpAny_bind (ZAll.done (s := { s with heap := h, toks := tk }) (A := A.in1) hh D hst (List.getElem?_eq_none (by omega)) fun h' he => ?_)
    refine wpAny_pure (hR h' tk acc c as (fun b o q0 q1 q2 q3 q4 e => he b o q1 q2 q3 q4 (hkeep b o q0 q1 q2 q3 q4 e)) (he S _ m1 m3 m4 m5 hS) (by omega) ⟨hG.rise, hG.above, fun j a hj => ?_⟩ hacc)
    obtain ⟨x, y, e1, e2, e3⟩ := hG.pairs j a hj
    obtain ⟨b1, b2, b3, b4⟩ := big (hG.above a (List.mem_of_getElem? hj))
    exact ⟨x, y, e1, e2, he a _ b1 b2 b3 b4 e3⟩
  | succ k ih =>
    intro i h tk c acc as hk hi hst hkeep hS hacc hal hG
    have hlt : i < xs.length := by omega
    obtain ⟨x, hx⟩ : ∃ p, xs[i]? = some p := ⟨xs[i], List.getElem?_eq_getElem hlt⟩
    obtain ⟨y, hy⟩ : ∃ p, ys[i]? = some p := ⟨ys[i]'(by omega), List.getElem?_eq_getElem (by omega)⟩
    have hsz : acc.size = i := by rw [← Array.length_toList, hacc, List.length_map, hal]
    have hSl : S < h.objs.size := Heap.lt_size hS
    refine codeAny_builtin PySem.F.entry_extend_loop ?_
    rw [Around.under_plainId PySem.F.plain_extend_loop _]
    show wpAny _ A.in1 (pyNext (.ref z) >>= _) _ _ _
    refine wpAny_bind (ZAll.item (s := { s with heap := h, toks := tk }) D hst hSl hx hy fun h' hst' ht hz hkp => ?_)
    dsimp only at ht hz hkp ⊢
    have hS' := hkp S _ m1 m3 m4 m5 hS
    have up : ∀ b o, b ≠ S → h'.get? b = some o → (h'.update S (Obj.mapSeq (·.push (Value.ref h.objs.size)))).get? b = some o := fun b o hb e => (Heap.get?_update_other _ _ (Ne.symm hb)).trans e
    show wpAny _ A.in1 (updateSeq S (·.push (Value.ref h.objs.size)) >>= _) _ _ _
    refine wpAny_bind ?_
    refine wpAny_updateSeq hS' rfl (wpAny_pure ⟨plainId_quiet PySem.F.plain_extend_loop _, ih (i + 1) _ tk _ (acc.push (Value.ref h.objs.size)) (as ++ [h.objs.size]) (by omega) hlt (hst'.keep up (Ne.symm m1) (Nat.ne_of_lt n2) (Ne.symm m3) (Ne.symm m4) (Ne.symm m5) (Nat.ne_of_lt n6) (Nat.ne_of_lt n7))
      (fun b o q0 q1 q2 q3 q4 e => up b o q0 (hkp b o q1 q2 q3 q4 (hkeep b o q0 q1 q2 q3 q4 e))) (Heap.get?_update_self _ hS' rfl) (by rw [Array.toList_push, hacc, List.map_append]; rfl) (by rw [List.length_append, hal]; rfl) ⟨?_, ?_, ?_⟩⟩) (by rw [hsz]; omega) (by show (acc.push (Value.ref h.objs.size)).size ≤ sizeLine + 1; rw [Array.size_push, hsz]; omega)
    · refine List.pairwise_append.mpr ⟨hG.rise, List.pairwise_singleton _ _, fun a ha b hb => ?_⟩
      rw [List.mem_singleton.mp hb]
      obtain ⟨j, hj⟩ := List.mem_iff_getElem?.mp ha
      obtain ⟨_, _, _, _, e⟩ := hG.pairs j a hj
      exact Heap.lt_size e
    · intro a ha
      rcases List.mem_append.mp ha with ha | ha
      · exact hG.above a ha
      · rw [List.mem_singleton.mp ha]; exact hSl
    · intro j b hj
      rcases Nat.lt_trichotomy j as.length with c1 | c1 | c1
      · rw [List.getElem?_append_left c1] at hj
        obtain ⟨x', y', e1, e2, e3⟩ := hG.pairs j b hj
        have hb := hG.above b (List.mem_of_getElem? hj)
        obtain ⟨b1, b2, b3, b4⟩ := big hb
        exact ⟨x', y', e1, e2, up b _ (Nat.ne_of_gt hb) (hkp b _ b1 b2 b3 b4 e3)⟩
      · subst c1
        have hb : h.objs.size = b := by simpa using hj
        subst hb
        exact ⟨x, y, by rw [hal]; exact hx, by rw [hal]; exact hy, up _ _ (Nat.ne_of_gt hSl) ht⟩
      · have hnone : (as ++ [h.objs.size])[j]? = none := List.getElem?_eq_none (by rw [List.length_append, List.length_singleton]; omega)
        rw [hnone] at hj; cases hj
theorem zip_extend {S z TI TO i1 i2 l1 l2 : Addr} (hh : A.handled = none) (D : ZipApart z TI TO i1 i2 l1 l2) (hSz : z < S) (n2 : TI < S) (n3 : TO < S) (n4 : i1 < S) (n5 : i2 < S) (n6 : l1 < S) (n7 : l2 < S) (hxy : xs.length = ys.length) (hn : xs.length ≤ sizeLine) (res : Value) (c₀ : Nat)
    (hZ : IsZip s.heap z TI TO .none) (hZA : ZAll s.heap z TI TO i1 i2 l1 l2 S xs ys 0) (hS : s.heap.get? S = some { cls := .type "list", data := .seq #[] c₀ })
    (hR : ∀ h' tk acc c as, (∀ b o, b ≠ S → b ≠ z → b ≠ TO → b ≠ i1 → b ≠ i2 → s.heap.get? b = some o → h'.get? b = some o) → h'.get? S = some { cls := .type "list", dict := none, data := .seq acc c, slots := #[] } → as.length = xs.length → ZG xs ys S h' as →
      acc.toList = as.map Value.ref → R (.ok (.ret res)) { s with heap := h', toks := tk }) :
    wpAny (model prog w) A.in1 (Builtin.List.listExtendWith (.ref S) (.ref z) res)
      (fun fin s' => match fin with | .done f => R (.ok f) s' | .again c' => c'.quiet = true ∧ codeAny (model prog w) A c' R s') (fun e s' => R (.error e) s') s := by
  have hSI : S ≠ z := Nat.ne_of_gt hSz
  have hT : s.TypeIs (.ref z) "zip" := ⟨_, hZ, rfl⟩
  unfold Builtin.List.listExtendWith
  refine wpAny_bind (wpAny_typeOf hT ?_)
  have h1 : Builtin.List.listSameRef (.ref S) (.ref z) = false := by simp [Builtin.List.listSameRef, hSI]
  have h2 : (Value.type "zip" == Value.type "list") = false := by decide
  have h3 : (Value.type "zip" == Value.type "tuple") = false := by decide
  simp only [h1, h2, h3, Bool.or_false, Bool.false_eq_true, if_false]
  refine wpAny_bind (wpAny_pyIter_zip hZ ?_)
  refine wpAny_bind (wpAny_holding ?_)
  unfold Builtin.List.listLengthHint
  refine wpAny_bind (wpAny_specialOf hT zip_no_len ?_)
  show wpAny _ A.in1 (specialOf (Value.ref z) (Str.ofString "__length_hint__") >>= _) _ _ _
  refine wpAny_bind (wpAny_specialOf hT zip_no_hint ?_)
  refine wpAny_pure ?_
  show wpAny _ A.in1 (rule "list.extend.makes-room" >>= fun _ => Builtin.List.listTouch (.ref S) >>= fun _ =>
    again (.builtin "list.extend.loop" ⟨[.ref S, .ref z, res], []⟩)) _ _ _
  refine wpAny_bind (wpAny_rule ?_)
  refine wpAny_bind ?_
  show wpAny _ A.in1 (updateSeq S (·.push .none) >>= fun _ => updateSeq S (·.pop)) _ _ _
  refine wpAny_bind (wpAny_updateSeq hS rfl ?_)
  have hS₂ := Heap.get?_update_self (Obj.mapSeq (·.push Value.none)) hS rfl
  refine wpAny_updateSeq (hz := by seq_fits) hS₂ rfl ?_
  have hS₃ := Heap.get?_update_self (Obj.mapSeq (·.pop)) hS₂ rfl
  have oth : ∀ b o, b ≠ S → s.heap.get? b = some o → ((s.heap.update S (Obj.mapSeq (·.push Value.none))).update S (Obj.mapSeq (·.pop))).get? b = some o :=
    fun b o hb e => (Heap.get?_update_other _ _ (Ne.symm hb)).trans ((Heap.get?_update_other _ _ (Ne.symm hb)).trans e)
  refine wpAny_pure ⟨plainId_quiet F.plain_extend_loop _, ?_⟩
  exact zip_loop (s := s) (xs := xs) (ys := ys) hh D hSz n2 n3 n4 n5 n6 n7 hxy hn res hR xs.length 0 _ s.toks _ #[] [] (Nat.sub_zero _) (Nat.zero_le _)
    (hZA.keep oth (Nat.ne_of_lt hSz) (Nat.ne_of_lt n2) (Nat.ne_of_lt n3) (Nat.ne_of_lt n4) (Nat.ne_of_lt n5) (Nat.ne_of_lt n6) (Nat.ne_of_lt n7)) (fun b o q0 _ _ _ _ e => oth b o q0 e) hS₃ rfl rfl ⟨List.Pairwise.nil, (fun _ ha => nomatch ha), (fun j a hj => by simp at hj)⟩
theorem zip_init {S z TI TO i1 i2 l1 l2 : Addr} (hh : A.handled = none) (D : ZipApart z TI TO i1 i2 l1 l2) (hSz : z < S) (n2 : TI < S) (n3 : TO < S) (n4 : i1 < S) (n5 : i2 < S) (n6 : l1 < S) (n7 : l2 < S) (hxy : xs.length = ys.length) (hn : xs.length ≤ sizeLine)
    (hZ : IsZip s.heap z TI TO .none) (hZA : ZAll s.heap z TI TO i1 i2 l1 l2 S xs ys 0) (hS : s.heap.get? S = some { cls := .type "list", data := .seq #[] })
    (hR : ∀ h' tk acc c as, (∀ b o, b ≠ S → b ≠ z → b ≠ TO → b ≠ i1 → b ≠ i2 → s.heap.get? b = some o → h'.get? b = some o) → h'.get? S = some { cls := .type "list", dict := none, data := .seq acc c, slots := #[] } → as.length = xs.length → ZG xs ys S h' as →
      acc.toList = as.map Value.ref → R (.ok (.ret .none)) { s with heap := h', toks := tk }) :
    wpAny (model prog w) A.in1 (Builtin.«list.__init__» ⟨[.ref S, .ref z], []⟩)
      (fun fin s' => match fin with | .done f => R (.ok f) s' | .again c' => c'.quiet = true ∧ codeAny (model prog w) A c' R s') (fun e s' => R (.error e) s') s := by
  show wpAny _ _ (do let old ← Builtin.List.listItems (.ref S); Builtin.List.listUpdate (.ref S) (fun _ => #[]); letGo old.toList.reverse; Builtin.List.listExtendWith (.ref S) (.ref z) .none) _ _ s
  refine wpAny_bind ?_
  unfold Builtin.List.listItems
  refine wpAny_bind (wpAny_seqItems hS rfl (wpAny_pure ?_))
  show wpAny _ _ (updateSeq S (fun _ => #[]) >>= fun _ => letGo (#[] : Array Value).toList.reverse >>= fun _ => Builtin.List.listExtendWith (.ref S) (.ref z) .none) _ _ s
  refine wpAny_bind (wpAny_updateSeq hS rfl ?_)
  have hS₂ := Heap.get?_update_self (Obj.mapSeq (fun _ => (#[] : Array Value))) hS rfl
  have oth : ∀ b o, b ≠ S → s.heap.get? b = some o → (s.heap.update S (Obj.mapSeq (fun _ => (#[] : Array Value)))).get? b = some o :=
    fun b o hb e => (Heap.get?_update_other _ _ (Ne.symm hb)).trans e
  refine wpAny_bind (wpAny_letGo ?_)
  exact zip_extend hh D hSz n2 n3 n4 n5 n6 n7 hxy hn .none _ (oth _ _ (Nat.ne_of_lt hSz) hZ) (hZA.keep oth (Nat.ne_of_lt hSz) (Nat.ne_of_lt n2) (Nat.ne_of_lt n3) (Nat.ne_of_lt n4) (Nat.ne_of_lt n5) (Nat.ne_of_lt n6) (Nat.ne_of_lt n7)) hS₂
    fun h' tk acc c as hk hS' hl hG hacc => hR h' tk acc c as (fun b o q0 q1 q2 q3 q4 e => hk b o q0 q1 q2 q3 q4 (oth b o q0 e)) hS' hl hG hacc
end
section
variable {prog : Program} {w : World} {A : Around} {E : Value → Shared → Prop} {s : Shared} {xs ys : List Value}
theorem call_list_zip {z TI TO i1 i2 l1 l2 : Addr} {Q : Value → Shared → Prop} (hh : A.handled = none) (D : ZipApart z TI TO i1 i2 l1 l2) (hxy : xs.length = ys.length) (hn : xs.length ≤ sizeLine)
    (hZ : IsZip s.heap z TI TO .none) (hTI : IsPair s.heap TI (.ref i1) (.ref i2)) (hTO : ∃ a b, IsPair s.heap TO a b) (h1 : s.heap.IsListIter i1 l1 0) (h2 : s.heap.IsListIter i2 l2 0) (hl1 : s.heap.IsList l1 xs.toArray) (hl2 : s.heap.IsList l2 ys.toArray)
    (hQ : ∀ h' tk acc c as, (∀ b o, b ≠ z → b ≠ TO → b ≠ i1 → b ≠ i2 → s.heap.get? b = some o → h'.get? b = some o) → h'.get? s.heap.objs.size = some { cls := .type "list", dict := none, data := .seq acc c, slots := #[] } → as.length = xs.length → ZG xs ys s.heap.objs.size h' as →
      acc.toList = as.map Value.ref → Q (.ref s.heap.objs.size) { s with heap := h', toks := tk }) :
    wpAny (model prog w) A (call (.type "list") [.ref z]) Q E s := by
  refine callType_codes (Q₁ := fun obj s₁ => obj = .ref s.heap.objs.size ∧ s₁ = { s with heap := s.heap.push { cls := .type "list", data := .seq #[] } }) PySem.F.called_list (PySem.F.typeCall_list_1 _) PySem.F.entry_list_init
    (code_list_new _ ⟨rfl, rfl⟩) fun obj s₁ h₁ => ?_
  obtain ⟨rfl, rfl⟩ := h₁
  have hS : (s.heap.push { cls := .type "list", data := .seq #[] }).get? s.heap.objs.size = some { cls := .type "list", data := .seq #[] } := Heap.get?_push_size _ rfl
  have lz := Heap.lt_size hZ
  have lTI := Heap.lt_size hTI
  have lTO : TO < s.heap.objs.size := let ⟨_, _, e⟩ := hTO; Heap.lt_size e
  have e1 : i1 < s.heap.objs.size := by obtain ⟨_, e, _⟩ := h1; exact Heap.lt_size e
  have e2 : i2 < s.heap.objs.size := by obtain ⟨_, e, _⟩ := h2; exact Heap.lt_size e
  have e3 : l1 < s.heap.objs.size := by obtain ⟨_, e, _⟩ := hl1; exact Heap.lt_size e
  have e4 : l2 < s.heap.objs.size := by obtain ⟨_, e, _⟩ := hl2; exact Heap.lt_size e
  obtain ⟨a, b, hTO⟩ := hTO
  have up : ∀ b o, s.heap.get? b = some o → (s.heap.push { cls := .type "list", data := .seq #[] }).get? b = some o := fun b o e => Heap.get?_push_of_some _ e
  refine ⟨⟨_, hS, rfl⟩, PySem.F.args_list_init_2 _ _, zip_init (A := A.in1) (xs := xs) (ys := ys) (z := z) (TI := TI) (TO := TO) (i1 := i1) (i2 := i2) (l1 := l1) (l2 := l2) hh D lz lTI lTO e1 e2 e3 e4 hxy hn (up _ _ hZ)
    ⟨.inl ⟨rfl, up _ _ hZ, a, b, up _ _ hTO⟩, up _ _ hTI, h1.at fun o e => up _ o e, h2.at fun o e => up _ o e, hl1.at fun o e => up _ o e, hl2.at fun o e => up _ o e⟩ hS (fun h' tk acc c as hk hS' hl hG hacc => ?_)⟩
  exact ⟨rfl, hQ h' tk acc c as (fun b o q1 q2 q3 q4 e => hk b o (Nat.ne_of_lt (Heap.lt_size e)) q1 q2 q3 q4 (up _ _ e)) hS' hl hG hacc⟩
end
end PySem
namespace L2
open PySem PySem.Spec PyProof.Rows
structure NewP (H H2 : Hp) (l : Addr) (ts : List Addr) (xs ys : List V) : Prop where
  same : Same H H2
  new : H l = none
  len : ts.length = xs.length
  lst : H2 l = some (.lst (ts.map V.ref))
  tup : ∀ (i : Nat) (t : Addr) (x y : V), ts[i]? = some t → xs[i]? = some x → ys[i]? = some y → H2 t = some (.tup [x, y])
  pl : Pl H → Pl H2
def tLZ (K : PySem.W.Frag) (ta : TA) : TE := fun σ H Q => ta σ H fun vs H1 => ∃ a b xs ys, vs = [.ref a, .ref b] ∧ SqL K H1 a xs ∧ SqL K H1 b ys ∧ xs.length = ys.length ∧ ∀ l ts H2, NewP H1 H2 l ts xs ys → Q (.ref l) H2
open Classical in
theorem Inv.pairs {X : Cx} {pins : List (Addr × Obj)} {σ : St} {H : Hp} {s : Shared} {h' : Heap} {tk : Nat} {l : Addr} {ts : List Addr} {xs ys : List V} {us ws : List Value} {acc : Array Value} {c : Nat} (I : Inv X pins σ H s) (kp : ∀ b o, s.heap.get? b = some o → h'.get? b = some o)
    (hl : s.heap.objs.size ≤ l) (rx : Vals xs us) (ry : Vals ys ws) (hn : ts.length = xs.length) (hxy : xs.length = ys.length) (hz : xs.length ≤ sizeLine) (hS : h'.get? l = some { cls := .type "list", data := .seq acc c }) (hacc : acc.toList = ts.map Value.ref) (G : ZG us ws l h' ts) :
    ∃ H2, NewP H H2 l ts xs ys ∧ Inv X pins σ H2 { s with heap := h', toks := tk } := by
  have nd : ∀ (i j : Nat) (t : Addr), ts[i]? = some t → ts[j]? = some t → i = j := fun i j t e1 e2 => by
    obtain ⟨h1, q1⟩ := List.getElem?_eq_some_iff.mp e1
    obtain ⟨h2, q2⟩ := List.getElem?_eq_some_iff.mp e2
    have hp := List.pairwise_iff_getElem.mp G.rise
    rcases Nat.lt_trichotomy i j with c | c | c
    · have := hp i j h1 h2 c; rw [q1, q2] at this; exact absurd this (Nat.lt_irrefl _)
    · exact c
    · have := hp j i h2 h1 c; rw [q1, q2] at this; exact absurd this (Nat.lt_irrefl _)
  let Pr : Addr → V × V → Prop := fun b p => ∃ i : Nat, ts[i]? = some b ∧ xs[i]? = some p.1 ∧ ys[i]? = some p.2
  let H2 : Hp := fun b => if b = l then some (.lst (ts.map V.ref)) else if h : ∃ p, Pr b p then some (.tup [(Classical.choose h).1, (Classical.choose h).2]) else H b
  have up : ∀ b p, Pr b p → l < b := fun b p ⟨i, e, _⟩ => G.above b (List.mem_of_getElem? e)
  have eL : H2 l = some (.lst (ts.map V.ref)) := if_pos rfl
  have eT : ∀ b p, Pr b p → H2 b = some (.tup [p.1, p.2]) := fun b p hp => by
    have hne : b ≠ l := Nat.ne_of_gt (up b p hp)
    have hex : ∃ p, Pr b p := ⟨p, hp⟩
    show (if b = l then _ else if h : ∃ p, Pr b p then _ else _) = _
    rw [if_neg hne, dif_pos hex]
    obtain ⟨i, e1, e2, e3⟩ := Classical.choose_spec hex
    obtain ⟨j, q1, q2, q3⟩ := hp
    have hij := nd i j b e1 q1
    subst hij
    rw [Option.some.inj (e2.symm.trans q2), Option.some.inj (e3.symm.trans q3)]
  have eO : ∀ b, b ≠ l → (¬ ∃ p, Pr b p) → H2 b = H b := fun b h1 h2 => by
    show (if b = l then _ else if h : ∃ p, Pr b p then _ else _) = _
    rw [if_neg h1, dif_neg h2]
  have agree : ∀ b, b < s.heap.objs.size → H2 b = H b := fun b hb => eO b (Nat.ne_of_lt (Nat.lt_of_lt_of_le hb hl)) fun ⟨p, hp⟩ => Nat.lt_irrefl _ (Nat.lt_trans (Nat.lt_of_lt_of_le hb hl) (up b p hp))
  have hsame : Same H H2 := fun b o e => by rw [agree b (I.hok.lt e)]; exact e
  have hok : HOk X.prog X.w H2 h' := fun b o e => by
    by_cases cb : b = l
    · subst cb
      rw [eL] at e
      cases e
      refine ⟨by rw [List.length_map, hn]; exact hz, ts.map Value.ref, c, vals_refs ts, ?_⟩
      rw [hS, ← hacc]
    · by_cases ct : ∃ p, Pr b p
      · obtain ⟨p, hp⟩ := ct
        rw [eT b p hp] at e
        cases e
        obtain ⟨i, q1, q2, q3⟩ := hp
        obtain ⟨u, v, e1, e2, e3⟩ := G.pairs i b q1
        obtain ⟨u', e4, r4⟩ := rx.get q2
        obtain ⟨v', e5, r5⟩ := ry.get q3
        cases Option.some.inj (e1.symm.trans e4)
        cases Option.some.inj (e2.symm.trans e5)
        exact ⟨by show 2 ≤ sizeLine; decide, [u, v], .cons r4 (.cons r5 .nil), ⟨_, e3, rfl, _, rfl⟩⟩
      · rw [eO b cb ct] at e
        exact (I.hok b o e).stay (fun d v _ q => kp d v q) (fun d q => hsame _ _ q) fun d zs q => hsame _ _ q
  have u : Un X.fs [] H H s.heap h' := Un.kept kp
  refine ⟨H2, ⟨hsame, I.hok.fresh hl, hn, eL, fun i t x y e1 e2 e3 => eT t (x, y) ⟨i, e1, e2, e3⟩, fun hP b o e => ?_⟩, I.un ⟨u.keep, u.slot, fun b o e n x => by rw [agree b (Heap.lt_size e)]; exact n, u.there, fun b zs e => hsame _ _ e, fun b o w e => hsame _ _ e, fun b ps e => ?_⟩ hok⟩
  · by_cases cb : b = l
    · subst cb; rw [eL] at e; cases e; trivial
    · by_cases ct : ∃ p, Pr b p
      · obtain ⟨p, hp⟩ := ct
        rw [eT b p hp] at e; cases e; trivial
      · rw [eO b cb ct] at e; exact hP b o e
  · obtain ⟨more, q⟩ := u.tbls b ps e
    exact ⟨more, hsame _ _ q⟩
theorem boot_list5 : bootBuiltins "list" = some (.type "list") := by decide +kernel
theorem pe_list_zip {X : Cx} {e e2 : Expr} {ta : TA} {p p1 pos pos1 : Pos} (hc : X.calm = true) (hg1 : Gl X "list") (hm1 : X.mg "list" = none) (hg : Gl X "zip") (hm : X.mg "zip" = none) (ha : PA X [e, e2] ta)
    (hs : starEach [e, e2] X.env = (false, eval e X.env) :: starEach [e2] X.env := by rfl) (hpl : (backTo pos1 (starEach [e2] X.env)).any (·.1) = false := by rfl)
    (hs1 : starEach [.Call (.Name "zip" p1) [e, e2] [] pos1] X.env = (false, eval (.Call (.Name "zip" p1) [e, e2] [] pos1) X.env) :: starEach [] X.env := by rfl) (hpl1 : (backTo pos (starEach [] X.env)).any (·.1) = false := by rfl) :
    PE X (.Call (.Name "list" p) [.Call (.Name "zip" p1) [e, e2] [] pos1] [] pos) (tLZ X.K ta) := by
  intro pins s σ H Q I h
  refine Call_ (ld_blt I hg1 hm1 boot_list5 (PyProof.Rows.callWith_type1 ?_ hs1 hpl1))
  rw [hs1]
  show wpAny _ _ (spliced ((false, eval _ X.env) :: backTo pos (starEach [] X.env))) _ _ s
  refine Calls.spliced_cons ?_
  refine Call_ (ld_blt I hg hm boot_zip5 (PyProof.Rows.callWith_type1 (thn (ha pos1 pins s σ H _ I h) fun us s1 ⟨vs, H1, I1, r1, q1⟩ => ?_) hs hpl))
  obtain ⟨a, b, xs, ys, ex, hqx, hqy, hxy, q⟩ := q1
  subst ex
  cases r1 with
  | cons r rr =>
    cases rr with
    | cons r' rr =>
      cases rr
      cases r
      cases r'
      obtain ⟨its, rv, pl1, hz1⟩ := I1.list hqx
      obtain ⟨its2, rv2, pl2, hz2⟩ := I1.list hqy
      have la : a < s1.heap.objs.size := pl1.lt
      have lb : b < s1.heap.objs.size := pl2.lt
      have l1 := rv.length
      have l2 := rv2.length
      refine call_zip_2 pl1.isList pl2.isList fun h' hz hTI hTO h1 h2 hsz hk => ?_
      refine Calls.spliced_nil ?_
      refine call_list_zip (A := X.A) (xs := its) (ys := its2) (I1.ok.hd hc) (PySem.W.ktu_apart s1.heap.objs.size a b la lb) (by omega) (by omega) hz hTI ⟨_, _, hTO⟩ h1 h2 (pl1.isList.at fun o e => hk _ o e) (pl2.isList.at fun o e => hk _ o e) fun h2 tk acc c as hkk hS hal hG hacc => ?_
      dsimp only at hkk hS hG ⊢
      have big : ∀ b o, s1.heap.get? b = some o → h2.get? b = some o := fun b o e => by
        have hb : b < s1.heap.objs.size := Heap.lt_size e
        have n0 : b ≠ s1.heap.objs.size := Nat.ne_of_lt hb
        have n1 : ∀ k, b ≠ s1.heap.objs.size + k := fun k => Nat.ne_of_lt (Nat.lt_of_lt_of_le hb (Nat.le_add_right _ _))
        exact hkk b o (n1 4) (n1 3) n0 (n1 1) (hk b o e)
      obtain ⟨H2, hN, I2⟩ := I1.pairs (tk := tk) big (by rw [hsz]; omega) rv rv2 (by omega) hxy hz1 hS hacc hG
      exact ⟨.ref h'.objs.size, H2, I2, rfl, q _ _ _ hN⟩
theorem pe_list_zipK {X : Cx} {K : PySem.W.Frag} {e e2 : Expr} {ta : TA} {p p1 pos pos1 : Pos} (eK : X.K = K) (hc : X.calm = true) (hg1 : Gl X "list") (hm1 : X.mg "list" = none) (hg : Gl X "zip") (hm : X.mg "zip" = none) (ha : PA X [e, e2] ta)
    (hs : starEach [e, e2] X.env = (false, eval e X.env) :: starEach [e2] X.env := by rfl) (hpl : (backTo pos1 (starEach [e2] X.env)).any (·.1) = false := by rfl)
    (hs1 : starEach [.Call (.Name "zip" p1) [e, e2] [] pos1] X.env = (false, eval (.Call (.Name "zip" p1) [e, e2] [] pos1) X.env) :: starEach [] X.env := by rfl) (hpl1 : (backTo pos (starEach [] X.env)).any (·.1) = false := by rfl) :
    PE X (.Call (.Name "list" p) [.Call (.Name "zip" p1) [e, e2] [] pos1] [] pos) (tLZ K ta) := by
  subst eK
  exact pe_list_zip hc hg1 hm1 hg hm ha hs hpl hs1 hpl1
end L2
set_option linter.all false
set_option maxRecDepth 100000
set_option Elab.async false
namespace L2
open PySem PySem.Spec PyProof.Rows
open Sig
open Sp18Neutral (fmt)
def sp_aw (K : PySem.W.Frag) : Sp := fun vs H Q _ => ∃ (la : Addr) (a : List Int), vs = [.ref la] ∧ Pl H ∧ SqL K H la (a.map V.int) ∧ a.length % 2 = 0 ∧ a.length ≤ 60000 ∧
  ∀ H' t, Same H H' → Pl H' → PairsAt K H' t (twos a) → Q (.ref t) H'
def sp_br (K : PySem.W.Frag) : Sp := fun vs H Q _ => ∃ (f way : Int) (la : Addr) (xs : List (Int × Int)), vs = [.int f, .int way, .ref la] ∧ F01 f ∧ Pl H ∧ PairsAt K H la xs ∧ 1 ≤ xs.length ∧ xs.length ≤ 8192 ∧ (∀ x ∈ xs, Nm f x.1 ∧ Nm f x.2) ∧
  ∀ H' t, Same H H' → Pl H' → PairsAt K H' t (intC (if way = 0 then Sp18.forth (fmt f) (plC (fmt f) xs) else Sp18.back (fmt f) (plC (fmt f) xs))) → Q (.ref t) H'
def sp_bv (K : PySem.W.Frag) : Sp := fun vs H Q _ => ∃ (f way : Int) (la : Addr) (a : List Int), vs = [.int f, .int way, .ref la] ∧ F01 f ∧ 0 ≤ way ∧ Pl H ∧ SqL K H la (a.map V.int) ∧ a.length % 2 = 0 ∧ 1 ≤ a.length / 2 ∧ a.length / 2 ≤ 8192 ∧ (∀ z ∈ a, Nm f z) ∧
  ∀ H' p, H' p = some (.lst ((PySp18.turn f way a).map V.int)) → Q (.ref p) H'
theorem twos_nm {f : Int} {a : List Int} (h : ∀ z ∈ a, Nm f z) : ∀ x ∈ twos a, Nm f x.1 ∧ Nm f x.2 := fun x hx => by
  obtain ⟨i, hi⟩ := List.mem_iff_getElem?.mp hx
  obtain ⟨h1, h2⟩ := twos_mem hi
  exact ⟨h _ h1, h _ h2⟩
theorem NewP.pairs {K : PySem.W.Frag} {H H2 : Hp} {l : Addr} {ts : List Addr} {xs : List (Int × Int)} (h : NewP H H2 l ts (xs.map fun y => V.int y.1) (xs.map fun y => V.int y.2)) : PairsAt K H2 l xs :=
  ⟨ts, SqL.of h.lst, by have := h.len; rw [List.length_map] at this; exact this, fun i t x e1 e2 => h.tup i t _ _ e1 (by rw [List.getElem?_map, e2]; rfl) (by rw [List.getElem?_map, e2]; rfl)⟩
end L2
set_option linter.all false
set_option Elab.async false
set_option maxRecDepth 100000
set_option maxHeartbeats 4000000
namespace Wk
open PySem PySem.Spec PyProof.Rows L2 Sig
open PySem.W (Codec)
open Sp18Neutral (fmt)
def top (i : Nat) : Stmt := PySem.Challenge.pw_bitsignals_s14_turn.main.body.getD i (.Pass ⟨0, 0, 0, 0⟩)
abbrev s_is_nan : Stmt := top 8
abbrev s_told : Stmt := top 9
abbrev s_parts : Stmt := top 10
abbrev s_rounded : Stmt := top 11
abbrev s_add : Stmt := top 13
abbrev s_add_endless : Stmt := top 14
abbrev s_subtract : Stmt := top 15
abbrev s_multiply : Stmt := top 16
abbrev s_divide : Stmt := top 17
abbrev s_with_rest : Stmt := top 18
abbrev s_opposite : Stmt := top 19
abbrev s_in_format : Stmt := top 21
abbrev s_narrowed : Stmt := top 22
abbrev s_of_double : Stmt := top 23
abbrev s_from_whole : Stmt := top 24
abbrev s_Plain___init__ : Stmt := inClass (top 26) 0
abbrev s_Plain_taken : Stmt := inClass (top 26) 1
abbrev s_Plain_given : Stmt := inClass (top 26) 2
abbrev s_Plain_factor : Stmt := inClass (top 26) 3
abbrev s_Plain_plus : Stmt := inClass (top 26) 4
abbrev s_Plain_less : Stmt := inClass (top 26) 5
abbrev s_Plain_times : Stmt := inClass (top 26) 6
abbrev s_Plain_minus : Stmt := inClass (top 26) 7
abbrev s_all_below : Stmt := top 29
abbrev s_Spread___init__ : Stmt := inClass (top 30) 0
abbrev s_Spread_taken : Stmt := inClass (top 30) 1
abbrev s_Spread_given : Stmt := inClass (top 30) 2
abbrev s_Spread_factor : Stmt := inClass (top 30) 3
abbrev s_Spread_plus : Stmt := inClass (top 30) 4
abbrev s_Spread_less : Stmt := inClass (top 30) 5
abbrev s_Spread_times : Stmt := inClass (top 30) 6
abbrev s_Spread_minus : Stmt := inClass (top 30) 7
abbrev s_counted : Stmt := top 31
abbrev s_fitted : Stmt := top 32
abbrev s_quarters_and_rest : Stmt := top 42
abbrev s_cosine_and_sine : Stmt := top 43
abbrev s_minus : Stmt := top 44
abbrev s_in_first_quarter : Stmt := top 45
abbrev s_angle : Stmt := top 46
abbrev s_small_sine : Stmt := top 47
abbrev s_small_cosine : Stmt := top 48
abbrev s_series : Stmt := top 49
abbrev s_arithmetic_for : Stmt := top 53
abbrev s_transform : Stmt := top 54
abbrev s_divisors : Stmt := top 55
abbrev s_divisor : Stmt := top 56
abbrev s_part_of_turn : Stmt := top 57
abbrev s_turned_back : Stmt := top 58
abbrev s_together : Stmt := top 59
abbrev s_pairs_added : Stmt := top 60
abbrev s_pairs_subtracted : Stmt := top 61
abbrev s_two_together : Stmt := top 62
abbrev s_four_together : Stmt := top 63
abbrev s_many_together : Stmt := top 64
abbrev s_in_pairs : Stmt := top 67
abbrev s_one_after_another : Stmt := top 68
abbrev s_with_opposites : Stmt := top 69
abbrev s_way_back : Stmt := top 70
abbrev s_turned : Stmt := top 71
abbrev s_turn : Stmt := top 75
section
variable {P : Program} {w : World} {K : PySem.W.Frag} {mg : Str → Option Value} {base : Heap}
theorem sc_bp : FnScope ["f", "a"] ["f", "a"] (defScope s_is_nan) := ⟨rfl, rfl, rfl, by decide +kernel, rfl, by decide +kernel, by decide +kernel⟩
theorem ok_bp {f : Addr} {fd : FuncData} (Fn : Fun K "is_nan" "is_nan" s_is_nan f fd) (T_ao : Tab K mg "SIZE_BITS" (fun F => ((HB F : Nat) : Int) - 1)) (T_bc : Tab K mg "INFINITY" (fun F => ((Sp18.top F : Nat) : Int))) : FnOk P w K mg base CX0 1 f fd ["f", "a"] sp_bp := by
  refine Fn.ok sc_bp (fun vs H Q E h => ?_) (fun cdv A outer s H vs Q E hr h => ?_)
  · obtain ⟨f, a, rfl, _⟩ := h; rfl
  · obtain ⟨f, a, rfl, hf, ⟨ha0, ha⟩, hP, k⟩ := h
    obtain ⟨n, rfl⟩ := Int.eq_ofNat_of_zero_le ha0
    replace ha := toNat_lt ha
    refine ⟨_, (pss_one (ps_ret (pe_cmpR op_gt (pe_op op_and (pv 1) (pe_tab T_ao rfl (pv 0) (fun _ _ => rfl))) (pe_tab T_bc rfl (pv 0) (fun _ _ => rfl)) (nomark _)))), ?_⟩
    rw [show start ["f", "a"] [V.int f, V.int n] = [some (V.int f), some (V.int n)] from rfl]
    simp only [tRet, tVar, tOp, rI0, tTab, List.getElem?_cons_zero, List.getElem?_cons_succ, Option.some.injEq, V.int.injEq, exists_eq_left', exists_and_left, true_and, hf, p_size, Int.ofNat_lt]
    exact k
theorem sc_ca : FnScope ["f", "a"] ["f", "a"] (defScope s_told) := ⟨rfl, rfl, rfl, by decide +kernel, rfl, by decide +kernel, by decide +kernel⟩
theorem ok_ca {f : Addr} {fd : FuncData} (Fn : Fun K "told" "told" s_told f fd) (T_cd : Tab K mg "NAN" (fun F => ((Sp18.NONE F : Nat) : Int))) (D_bp : Def P w K mg base "is_nan" 1 ["f", "a"] sp_bp) : FnOk P w K mg base CX0 2 f fd ["f", "a"] sp_ca := by
  refine Fn.ok sc_ca (fun vs H Q E h => ?_) (fun cdv A outer s H vs Q E hr h => ?_)
  · obtain ⟨f, a, rfl, _⟩ := h; rfl
  · obtain ⟨f, a, rfl, hf, ⟨ha0, ha⟩, hP, k⟩ := h
    obtain ⟨n, rfl⟩ := Int.eq_ofNat_of_zero_le ha0
    replace ha := toNat_lt ha
    refine ⟨_, (pss_one (ps_ret (pe_ifP (pt_val (pe_def D_bp rfl (hr.mono (by decide)) pass0 (pa_cons (pv 0) (pa_cons (pv 1) pa_nil)))) (pe_tab T_cd rfl (pv 0) (fun _ _ => rfl)) (pv 1)))), ?_⟩
    rw [show start ["f", "a"] [V.int f, V.int n] = [some (V.int f), some (V.int n)] from rfl]
    simp only [tRet, tVar, tB, tCall, tCons, tNil, tTab, tIfP, leibB, leibV, iteV, iteI, List.append_nil, List.getElem?_cons_zero, List.getElem?_cons_succ, Option.some.injEq, V.int.injEq, V.bl.injEq, List.cons.injEq, and_assoc, exists_eq_left', exists_eq_left, exists_and_left, and_true, true_and, decide_eq_true_eq, Int.toNat_natCast, hP, hf, Int.ofNat_lt, Int.natCast_nonneg, ha, sp_bp, spB1]
    have q : Q (.int ((Sp18.plain (fmt f) n : Nat) : Int)) H := k
    rw [plain_eq hf.ok ha] at q
    by_cases c : Sp18.top (fmt f) < mag (fmt f) n
    · rw [if_pos c] at q ⊢; exact q
    · rw [if_neg c] at q ⊢; exact q
theorem sc_bt : FnScope ["f", "size", "field", "hidden"] ["f", "size"] (defScope s_parts) := ⟨rfl, rfl, rfl, by decide +kernel, rfl, by decide +kernel, by decide +kernel⟩
theorem ok_bt {f : Addr} {fd : FuncData} (Fn : Fun K "parts" "parts" s_parts f fd) (T_i : Tab K mg "FRACTION_WIDTH" (fun F => ((F.p - 1 : Nat) : Int))) (T_ab : Tab K mg "LEAST_POWER" (fun F => F.least)) (T_ah : Tab K mg "HIDDEN_BIT" (fun F => ((PW F : Nat) : Int))) : FnOk P w K mg base CX0 1 f fd ["f", "size"] sp_bt := by
  refine Fn.ok sc_bt (fun vs H Q E h => ?_) (fun cdv A outer s H vs Q E hr h => ?_)
  · obtain ⟨f, a, rfl, _⟩ := h; rfl
  · obtain ⟨f, a, rfl, hf, ha0, ha, hP, k⟩ := h
    obtain ⟨n, rfl⟩ := Int.eq_ofNat_of_zero_le ha0
    replace ha := toNat_lt ha
    refine ⟨_, (pss_cons (ps_set (i := 2) sc_bt.nd rfl (by first | exact Or.inl rfl | exact Or.inr rfl) (pe_op op_shr (pv 1) (pe_tab T_i rfl (pv 0) (fun _ _ => rfl))))
      (pss_cons (ps_if (pt_cmpR op_eq (pv 2) pe_int (nomark _)) (pss_one (ps_ret (pe_tup (pa_cons (pv 1) (pa_cons (pe_tab T_ab rfl (pv 0) (fun _ _ => rfl)) pa_nil))))) pss_nil)
      (pss_cons (ps_set (i := 3) sc_bt.nd rfl (by first | exact Or.inl rfl | exact Or.inr rfl) (pe_tab T_ah rfl (pv 0) (fun _ _ => rfl)))
      (pss_one (ps_ret (pe_tup (pa_cons (pe_op op_or (pe_op op_and (pv 1) (pe_op op_sub (pv 3) pe_int)) (pv 3)) (pa_cons (pe_op op_sub (pe_op op_add (pe_tab T_ab rfl (pv 0) (fun _ _ => rfl)) (pv 2)) pe_int) pa_nil)))))))), ?_⟩
    rw [show start ["f", "size", "field", "hidden"] [V.int f, V.int n] = [some (V.int f), some (V.int n), none, none] from rfl]
    simp only [tSeq, tAsg, gName, tRet, tIfS, tNext, tVar, tC, tOp, rI, rI0, tTest, tCons, tNil, tTup, tTab, rEq, scal, List.set_cons_zero, List.set_cons_succ, List.getElem?_cons_zero, List.getElem?_cons_succ, Option.some.injEq, V.int.injEq, V.bl.injEq, exists_eq_left', exists_and_left, true_and, decide_eq_true_eq, Int.toNat_natCast, hf, Int.natCast_nonneg, Int.natCast_eq_zero, p_shr, p_hidden]
    have k2 : ∀ p, H p = none → Q (.ref p) (upd H p (.tup [.int (mant (fmt f) n : Nat), .int (expo (fmt f) n)])) := k
    unfold mant expo at k2
    by_cases c : n / 2 ^ ((fmt f).p - 1) = 0
    · rw [if_pos c]
      refine ⟨by show 2 ≤ sizeLine; decide, fun p hp => ?_⟩
      have q := k2 p hp
      rw [if_pos c, if_pos c] at q
      have hlt : n < Sig.PW (fmt f) := (Nat.div_eq_zero_iff.mp c).resolve_left (Nat.ne_of_gt (pw_pos _))
      rw [Nat.mod_eq_of_lt hlt] at q
      exact q
    · rw [if_neg c]
      refine ⟨by show 2 ≤ sizeLine; decide, fun p hp => ?_⟩
      have q := k2 p hp
      rw [if_neg c, if_neg c] at q
      exact q
theorem sc_bj : FnScope ["f", "sign", "m", "power", "drop", "size", "kept"] ["f", "sign", "m", "power"] (defScope s_rounded) := ⟨rfl, rfl, rfl, by decide +kernel, rfl, by decide +kernel, by decide +kernel⟩
theorem ok_bj {f : Addr} {fd : FuncData} (Fn : Fun K "rounded" "rounded" s_rounded f fd) (T_ab : Tab K mg "LEAST_POWER" (fun F => F.least)) (T_i : Tab K mg "FRACTION_WIDTH" (fun F => ((F.p - 1 : Nat) : Int))) (T_bc : Tab K mg "INFINITY" (fun F => ((Sp18.top F : Nat) : Int))) (B_max : mg "max" = none) (B_min : mg "min" = none) : FnOk P w K mg base CX0 1 f fd ["f", "sign", "m", "power"] sp_bj := by
  refine Fn.ok sc_bj (fun vs H Q E h => ?_) (fun cdv A outer s H vs Q E hr h => ?_)
  · obtain ⟨f, m, e, s, rfl, _⟩ := h; rfl
  · obtain ⟨f, m, e, sg, rfl, hf, hm, hl, he1, he2, hP, k⟩ := h
    obtain ⟨n, rfl⟩ := Int.eq_ofNat_of_zero_le (Int.le_of_lt hm)
    have hn : 0 < n := by omega
    have hl2 : Nat.log2 n ≤ 9000 := hl
    have hbits := p_bits hn
    refine ⟨_, (pss_cons (ps_set (i := 4) sc_bj.nd rfl (by first | exact Or.inl rfl | exact Or.inr rfl) (pe_callB (call_max2 rfl) rfl B_max boot_max (pa_cons (pe_op op_sub (pe_op op_sub (pe_bm0 PySem.F.plainAttrs_int slot_int_bit_length type_int_bit_length mt_bits (pv 2)) (pe_tab T_i rfl (pv 0) (fun _ _ => rfl))) pe_int) (pa_cons (pe_op op_sub (pe_tab T_ab rfl (pv 0) (fun _ _ => rfl)) (pv 3)) pa_nil))))
      (pss_cons (ps_if (pt_cmpR op_gt (pv 4) pe_int (nomark _)) (pss_one (ps_set (i := 6) sc_bj.nd rfl (by first | exact Or.inl rfl | exact Or.inr rfl) (pe_op op_shr (pe_op op_add (pe_op op_sub (pe_op op_add (pv 2) (pe_op op_shl pe_int (pe_op op_sub (pv 4) pe_int))) pe_int) (pe_op op_and (pe_op op_shr (pv 2) (pv 4)) pe_int)) (pv 4)))) (pss_one (ps_set (i := 6) sc_bj.nd rfl (by first | exact Or.inl rfl | exact Or.inr rfl) (pe_op op_shl (pv 2) (pe_un un_neg (pv 4))))))
      (pss_cons (ps_set (i := 5) sc_bj.nd rfl (by first | exact Or.inl rfl | exact Or.inr rfl) (pe_op op_add (pe_op op_shl (pe_op op_sub (pe_op op_add (pv 3) (pv 4)) (pe_tab T_ab rfl (pv 0) (fun _ _ => rfl))) (pe_tab T_i rfl (pv 0) (fun _ _ => rfl))) (pv 6)))
      (pss_one (ps_ret (pe_op op_or (pv 1) (pe_callB (call_min2 rfl) rfl B_min boot_min (pa_cons (pv 5) (pa_cons (pe_tab T_bc rfl (pv 0) (fun _ _ => rfl)) pa_nil))))))))), ?_⟩
    rw [show start ["f", "sign", "m", "power", "drop", "size", "kept"] [V.int f, V.int ((Sp18.signBit (fmt f) sg : Nat) : Int), V.int n, V.int e] = [some (V.int f), some (V.int ((Sp18.signBit (fmt f) sg : Nat) : Int)), some (V.int n), some (V.int e), none, none, none] from rfl]
    simp only [tSeq, tAsg, gName, tRet, tIfS, tVar, tC, tOp, tUn, rI, rI0, rU, tTest, tCons, tNil, tCB, tTab, tBM0, tyV, List.set_cons_zero, List.set_cons_succ, List.getElem?_cons_zero, List.getElem?_cons_succ, Option.some.injEq, V.int.injEq, V.bl.injEq, List.cons.injEq, and_assoc, exists_eq_left', exists_and_left, and_true, true_and, decide_eq_true_eq, Int.toNat_natCast, hf, Int.natCast_nonneg, hbits, bitAnd_m1, CPow]
    have hdr : (if (fmt f).least - e > ((Nat.log2 n + 1 : Nat) : Int) - (((fmt f).p - 1 : Nat) : Int) - 1 then (fmt f).least - e else ((Nat.log2 n + 1 : Nat) : Int) - (((fmt f).p - 1 : Nat) : Int) - 1) = dropOf (fmt f) n e := rfl
    rw [hdr]
    have hS := hf.std
    have hlb := least_bd hS
    have hpb := p_bd hS
    have hr0 := round_drop (fmt f) sg n e false
    have hd9 : dropOf (fmt f) n e ≤ 20000 ∧ -60 ≤ dropOf (fmt f) n e := by unfold dropOf; split <;> omega
    have hq : Q (.int ((Sp18.round (fmt f) sg n e false : Nat) : Int)) H := k
    rw [hr0.2] at hq
    have fin : ∀ z : Int, z = (((e + dropOf (fmt f) n e - (fmt f).least).toNat * Sig.PW (fmt f) + Sp18.nearest n (dropOf (fmt f) n e) false : Nat) : Int) → Q (.int (Builtin.bitOr ((Sp18.signBit (fmt f) sg : Nat) : Int) (if ((Sp18.top (fmt f) : Nat) : Int) < z then ((Sp18.top (fmt f) : Nat) : Int) else z))) H := by
      intro z hz
      have ht := top_lt hS.ok
      subst hz
      generalize (e + dropOf (fmt f) n e - (fmt f).least).toNat * Sig.PW (fmt f) + Sp18.nearest n (dropOf (fmt f) n e) false = y at hq ⊢
      by_cases c : Sp18.top (fmt f) < y
      · rw [if_pos (by omega), p_or sg ht]; rw [Nat.min_eq_right (by omega)] at hq; exact hq
      · rw [if_neg (by omega), p_or sg (by omega)]; rw [Nat.min_eq_left (by omega)] at hq; exact hq
    have hu : (e + dropOf (fmt f) n e - (fmt f).least).natAbs < 2 ^ 64 := by omega
    by_cases c : 0 < dropOf (fmt f) n e
    · rw [if_pos c]
      exact ⟨by omega, by omega, by decide, by omega, by omega, by omega, hu, fin _ (rounded_pos (s := sg) c)⟩
    · rw [if_neg c]
      have hn64 : n < 2 ^ 53 := by
        have h1 : Nat.log2 n < 53 := by unfold dropOf at c; split at c <;> omega
        exact (Nat.log2_lt (by omega)).mp h1
      exact ⟨by omega, by omega, by omega, by omega, hu, fin _ (rounded_neg (s := sg) c)⟩
theorem sc_as : FnScope ["g", "f", "a", "size", "sign", "m", "power"] ["g", "f", "a"] (defScope s_in_format) := ⟨rfl, rfl, rfl, by decide +kernel, rfl, by decide +kernel, by decide +kernel⟩
theorem ok_as {f : Addr} {fd : FuncData} (Fn : Fun K "in_format" "in_format" s_in_format f fd) (T_cd : Tab K mg "NAN" (fun F => ((Sp18.NONE F : Nat) : Int))) (T_ao : Tab K mg "SIZE_BITS" (fun F => ((HB F : Nat) : Int) - 1)) (T_av : Tab K mg "SIGN_BIT" (fun F => ((HB F : Nat) : Int))) (T_bc : Tab K mg "INFINITY" (fun F => ((Sp18.top F : Nat) : Int))) (D_bp : Def P w K mg base "is_nan" 1 ["f", "a"] sp_bp) (D_bt : Def P w K mg base "parts" 1 ["f", "size"] sp_bt) (D_bj : Def P w K mg base "rounded" 1 ["f", "sign", "m", "power"] sp_bj) : FnOk P w K mg base CX0 2 f fd ["g", "f", "a"] sp_as := by
  refine forgetCF ?_
  refine Fn.ok sc_as (fun vs H Q E h => ?_) (fun cdv A outer s H vs Q E hr h => ?_)
  · obtain ⟨g, f, a, rfl, _⟩ := h; rfl
  · obtain ⟨g, f, a, rfl, hg, hf, ⟨ha0, ha⟩, hP, k⟩ := h
    obtain ⟨n, rfl⟩ := Int.eq_ofNat_of_zero_le ha0
    replace ha := toNat_lt ha
    refine ⟨_, (pss_cons (ps_if (pt_val (pe_def D_bp rfl (hr.mono (by decide)) pass0 (pa_cons (pv 1) (pa_cons (pv 2) pa_nil)))) (pss_one (ps_ret (pe_tab T_cd rfl (pv 0) (fun _ _ => rfl)))) pss_nil)
      (pss_cons (ps_set (i := 3) sc_as.nd rfl (by first | exact Or.inl rfl | exact Or.inr rfl) (pe_op op_and (pv 2) (pe_tab T_ao rfl (pv 1) (fun _ _ => rfl))))
      (pss_cons (ps_set (i := 4) sc_as.nd rfl (by first | exact Or.inl rfl | exact Or.inr rfl) (pe_ifP (pt_cmpR op_eq (pv 2) (pv 3) (nomark _)) pe_int (pe_tab T_av rfl (pv 0) (fun _ _ => rfl))))
      (pss_cons (ps_if (pt_cmpR op_eq (pv 3) pe_int (nomark _)) (pss_one (ps_ret (pv 4))) pss_nil)
      (pss_cons (ps_if (pt_cmpR op_eq (pv 3) (pe_tab T_bc rfl (pv 1) (fun _ _ => rfl)) (nomark _)) (pss_one (ps_ret (pe_op op_or (pv 4) (pe_tab T_bc rfl (pv 0) (fun _ _ => rfl))))) pss_nil)
      (pss_cons (ps_asg (pe_def D_bt rfl (hr.mono (by decide)) pass0 (pa_cons (pv 1) (pa_cons (pv 3) pa_nil))) (pg_pair rfl (pg_name (i := 5) sc_as.nd rfl (by first | exact Or.inl rfl | exact Or.inr rfl)) (pg_name (i := 6) sc_as.nd rfl (by first | exact Or.inl rfl | exact Or.inr rfl))))
      (pss_one (ps_ret (pe_def D_bj rfl (hr.mono (by decide)) pass0 (pa_cons (pv 0) (pa_cons (pv 4) (pa_cons (pv 5) (pa_cons (pv 6) pa_nil))))))))))))), ?_⟩
    rw [show start ["g", "f", "a", "size", "sign", "m", "power"] [V.int g, V.int f, V.int n] = [some (V.int g), some (V.int f), some (V.int n), none, none, none, none] from rfl]
    have hor := p_or (F := fmt g) (sgn (fmt f) n) (top_lt hg.ok)
    have hns : n = mag (fmt f) n ↔ sgn (fmt f) n = false := by rw [← ne_size ha, Int.natCast_inj]
    have hif : (if n = mag (fmt f) n then (0 : Int) else ((HB (fmt g) : Nat) : Int)) = ((Sp18.signBit (fmt g) (sgn (fmt f) n) : Nat) : Int) := by
      by_cases c : sgn (fmt f) n = true
      · rw [if_neg (by rw [hns, c]; decide), c, signBit_t]
      · rw [if_pos (hns.mpr (by simpa using c)), show sgn (fmt f) n = false by simpa using c, signBit_f]; rfl
    simp only [tSeq, tAsg, gName, tRet, tIfS, tNext, tVar, tC, tOp, rI0, tTest, tB, tCall, tCons, tNil, tTab, tIfP, leibB, leibV, iteV, iteI, upd_same, HO.tup.injEq, gTup2, rEq, scal, List.append_nil, List.set_cons_zero, List.set_cons_succ, List.getElem?_cons_zero, List.getElem?_cons_succ, Option.some.injEq, V.int.injEq, V.bl.injEq, V.ref.injEq, List.cons.injEq, and_assoc, exists_eq_left', exists_eq_left, exists_and_left, and_true, true_and, decide_eq_true_eq, Int.toNat_natCast, hP, Pl.tup, hf, p_size, Int.ofNat_lt, Int.natCast_inj, Int.natCast_nonneg, Int.natCast_eq_zero, ha, hg, sp_bp, spB1, sp_bt, sp_bj, mag_lt, hif, hor]
    have q : ∀ H1, Same H H1 → Q (.int ((Sp18.convert (fmt f) (fmt g) n : Nat) : Int)) H1 := k
    rw [conv_eq _ _ _ hf.ok] at q
    split
    · next c => rw [if_pos c] at q; exact q H (Same.refl H)
    next c =>
    rw [if_neg c] at q
    split
    · next c1 => rw [if_pos c1] at q; exact q H (Same.refl H)
    next c1 =>
    rw [if_neg c1] at q
    split
    · next c2 => rw [if_pos c2] at q; exact q H (Same.refl H)
    next c2 =>
    rw [if_neg c2] at q
    intro p hp
    have hm1 := mant_bd hf.std (mag (fmt f) n)
    have he1 := expo_bd hf.std (mag_lt (fmt f) n)
    have hz1 : 0 < mant (fmt f) (mag (fmt f) n) := Nat.pos_of_ne_zero fun z => absurd (mant_zero.mp z) (by omega)
    have hl2 := log2_bd hm1
    exact ⟨_, _, _, rfl, rfl, rfl, by omega, by rw [Int.toNat_natCast]; omega, by omega, by omega, q _ (Same.new hp)⟩
theorem sc_bb : FnScope ["a"] ["a"] (defScope s_narrowed) := ⟨rfl, rfl, rfl, by decide +kernel, rfl, by decide +kernel, by decide +kernel⟩
theorem ok_bb {f : Addr} {fd : FuncData} (Fn : Fun K "narrowed" "narrowed" s_narrowed f fd) (D_as : Def P w K mg base "in_format" 2 ["g", "f", "a"] sp_as) : FnOk P w K mg base CX0 3 f fd ["a"] sp_bb := by
  refine Fn.ok sc_bb (fun vs H Q E h => ?_) (fun cdv A outer s H vs Q E hr h => ?_)
  · obtain ⟨a, rfl, _⟩ := h; rfl
  · obtain ⟨a, rfl, ha, hP, k⟩ := h
    refine ⟨_, (pss_one (ps_ret (pe_def D_as rfl (hr.mono (by decide)) pass0 (pa_cons pe_int (pa_cons pe_int (pa_cons (pv 0) pa_nil)))))), ?_⟩
    rw [show start ["a"] [V.int a] = [some (V.int a)] from rfl]
    simp only [tRet, tVar, tC, tCall, tCons, tNil, List.append_nil, List.getElem?_cons_zero, Option.some.injEq, V.int.injEq, List.cons.injEq, and_assoc, exists_eq_left', exists_and_left, and_true, sp_as]
    exact ⟨.inl rfl, .inr rfl, ha.1, ha.2, hP, k⟩
theorem sc_ar : FnScope ["f", "a"] ["f", "a"] (defScope s_of_double) := ⟨rfl, rfl, rfl, by decide +kernel, rfl, by decide +kernel, by decide +kernel⟩
theorem ok_ar {f : Addr} {fd : FuncData} (Fn : Fun K "of_double" "of_double" s_of_double f fd) (D_bb : Def P w K mg base "narrowed" 3 ["a"] sp_bb) : FnOk P w K mg base CX0 4 f fd ["f", "a"] sp_ar := by
  refine Fn.ok sc_ar (fun vs H Q E h => ?_) (fun cdv A outer s H vs Q E hr h => ?_)
  · obtain ⟨i, rfl, _⟩ := h; rfl
  · obtain ⟨⟨f, a⟩, rfl, ⟨hf, ha, hm⟩, hP, k⟩ := h
    dsimp only at hf ha hm k
    refine ⟨_, (pss_one (ps_ret (pe_ifP (pt_cmpR op_eq (pv 0) pe_int (nomark _)) (pv 1) (pe_def D_bb rfl (hr.mono (by decide)) pass0 (pa_cons (pv 1) pa_nil))))), ?_⟩
    rw [show start ["f", "a"] [V.int f, V.int (a : Nat)] = [some (V.int f), some (V.int (a : Nat))] from rfl]
    simp only [tRet, tVar, tC, tOp, tTest, tCall, tCons, tNil, tIfP, leibB, leibV, leibVC, rEq, scal, List.append_nil, List.getElem?_cons_zero, List.getElem?_cons_succ, Option.some.injEq, V.int.injEq, V.bl.injEq, List.cons.injEq, and_assoc, exists_eq_left', exists_eq_left, exists_and_left, and_true, true_and, decide_eq_true_eq, Int.toNat_natCast, hP, fmt_one, Int.ofNat_lt, Int.natCast_nonneg, sp_bb]
    rcases hf with rfl | rfl
    · exact ⟨_, by rw [if_neg (by decide)]; exact ⟨ha, rfl⟩, k⟩
    · rw [show Sp18.convert Sp18.double (fmt 1) a = a from convert_self sD ha (hm rfl)] at k
      exact ⟨_, by rw [if_pos rfl], k⟩
theorem sc_al : FnScope ["f", "k"] ["f", "k"] (defScope s_from_whole) := ⟨rfl, rfl, rfl, by decide +kernel, rfl, by decide +kernel, by decide +kernel⟩
theorem ok_al {f : Addr} {fd : FuncData} (Fn : Fun K "from_whole" "from_whole" s_from_whole f fd) (T_av : Tab K mg "SIGN_BIT" (fun F => ((HB F : Nat) : Int))) (D_bj : Def P w K mg base "rounded" 1 ["f", "sign", "m", "power"] sp_bj) (B_abs : mg "abs" = none) : FnOk P w K mg base CX0 2 f fd ["f", "k"] sp_al := by
  refine Fn.ok sc_al (fun vs H Q E h => ?_) (fun cdv A outer s H vs Q E hr h => ?_)
  · obtain ⟨f, a, rfl, _⟩ := h; rfl
  · obtain ⟨f, z, rfl, hf, h1, h2, hP, k⟩ := h
    refine ⟨_, (pss_cons (ps_if (pt_cmpR op_eq (pv 1) pe_int (nomark _)) (pss_one (ps_ret pe_int)) pss_nil)
      (pss_one (ps_ret (pe_def D_bj rfl (hr.mono (by decide)) pass0 (pa_cons (pv 0) (pa_cons (pe_ifP (pt_cmpR op_lt (pv 1) pe_int (nomark _)) (pe_tab T_av rfl (pv 0) (fun _ _ => rfl)) pe_int) (pa_cons (pe_callB call_abs rfl B_abs boot_abs (pa_cons (pv 1) pa_nil)) (pa_cons pe_int pa_nil)))))))), ?_⟩
    rw [show start ["f", "k"] [V.int f, V.int z] = [some (V.int f), some (V.int z)] from rfl]
    simp only [tSeq, tRet, tIfS, tNext, tVar, tC, tOp, rI0, tTest, tCall, tCons, tNil, tCB, tTab, tIfP, leibB, leibV, iteV, iteI, rEq, scal, List.append_nil, List.getElem?_cons_zero, List.getElem?_cons_succ, Option.some.injEq, V.int.injEq, V.bl.injEq, List.cons.injEq, and_assoc, exists_eq_left', exists_eq_left, exists_and_left, and_true, true_and, decide_eq_true_eq, hP, hf, sp_bj]
    have q : Q (.int ((Sp18.ofInt (fmt f) z : Nat) : Int)) H := k
    unfold Sp18.ofInt at q
    split
    · next c => rw [if_pos c] at q; exact q
    next c =>
    rw [if_neg c] at q
    have hl := log2_bd (show z.natAbs < 2 ^ 40 by omega)
    have e : (if z < 0 then -z else z) = ((z.natAbs : Nat) : Int) := by split <;> omega
    rw [e]
    by_cases c2 : z < 0
    · rw [decide_eq_true c2] at q
      refine ⟨_, _, true, by rw [if_pos c2, signBit_t], rfl, rfl, by omega, by rw [Int.toNat_natCast]; omega, by decide, by decide, q⟩
    · rw [decide_eq_false c2] at q
      refine ⟨_, _, false, by rw [if_neg c2, signBit_f]; rfl, rfl, rfl, by omega, by rw [Int.toNat_natCast]; omega, by decide, by decide, q⟩
theorem sc_an : FnScope ["m", "rest"] ["m", "rest"] (defScope s_with_rest) := ⟨rfl, rfl, rfl, by decide +kernel, rfl, by decide +kernel, by decide +kernel⟩
theorem ok_an {f : Addr} {fd : FuncData} (Fn : Fun K "with_rest" "with_rest" s_with_rest f fd)  : FnOk P w K mg base CX0 1 f fd ["m", "rest"] sp_an := by
  refine Fn.ok sc_an (fun vs H Q E h => ?_) (fun cdv A outer s H vs Q E hr h => ?_)
  · obtain ⟨m, r, rfl, _⟩ := h; rfl
  · obtain ⟨m, r, rfl, hP, k⟩ := h
    refine ⟨_, (pss_one (ps_ret (pe_op op_add (pe_op op_mul pe_int (pv 0)) (pe_ifP (pt_cmpR op_gt (pv 1) pe_int (nomark _)) pe_int pe_int)))), ?_⟩
    rw [show start ["m", "rest"] [V.int m, V.int r] = [some (V.int m), some (V.int r)] from rfl]
    simp only [tRet, tVar, tC, tOp, rI, rI0, tTest, tIfP, leibB, leibV, iteV, iteI, List.getElem?_cons_zero, List.getElem?_cons_succ, Option.some.injEq, V.int.injEq, V.bl.injEq, exists_eq_left', exists_eq_left, exists_and_left, decide_eq_true_eq, CMul]
    refine ⟨.inl ⟨by decide, by decide⟩, ?_⟩
    exact k
theorem sc_az : FnScope ["f", "a", "b", "sign", "x", "y", "m", "m_power", "n", "n_power"] ["f", "a", "b"] (defScope s_multiply) := ⟨rfl, rfl, rfl, by decide +kernel, rfl, by decide +kernel, by decide +kernel⟩
theorem ok_az {f : Addr} {fd : FuncData} (Fn : Fun K "multiply" "multiply" s_multiply f fd) (T_av : Tab K mg "SIGN_BIT" (fun F => ((HB F : Nat) : Int))) (T_ao : Tab K mg "SIZE_BITS" (fun F => ((HB F : Nat) : Int) - 1)) (T_bc : Tab K mg "INFINITY" (fun F => ((Sp18.top F : Nat) : Int))) (T_cd : Tab K mg "NAN" (fun F => ((Sp18.NONE F : Nat) : Int))) (D_bp : Def P w K mg base "is_nan" 1 ["f", "a"] sp_bp) (D_bt : Def P w K mg base "parts" 1 ["f", "size"] sp_bt) (D_bj : Def P w K mg base "rounded" 1 ["f", "sign", "m", "power"] sp_bj) : FnOk P w K mg base CX0 2 f fd ["f", "a", "b"] sp_az := by
  refine forgetI2 ?_
  refine Fn.ok sc_az (fun vs H Q E h => ?_) (fun cdv A outer s H vs Q E hr h => ?_)
  · obtain ⟨f, a, b, rfl, _⟩ := h; rfl
  · obtain ⟨f, a, b, rfl, hf, ⟨ha0, ha⟩, ⟨hb0, hb⟩, hP, k⟩ := h
    obtain ⟨n, rfl⟩ := Int.eq_ofNat_of_zero_le ha0
    obtain ⟨m, rfl⟩ := Int.eq_ofNat_of_zero_le hb0
    replace ha := toNat_lt ha
    replace hb := toNat_lt hb
    refine ⟨_, (pss_cons (ps_set (i := 3) sc_az.nd rfl (by first | exact Or.inl rfl | exact Or.inr rfl) (pe_op op_and (pe_op op_xor (pv 1) (pv 2)) (pe_tab T_av rfl (pv 0) (fun _ _ => rfl))))
      (pss_cons (ps_set (i := 4) sc_az.nd rfl (by first | exact Or.inl rfl | exact Or.inr rfl) (pe_op op_and (pv 1) (pe_tab T_ao rfl (pv 0) (fun _ _ => rfl))))
      (pss_cons (ps_set (i := 5) sc_az.nd rfl (by first | exact Or.inl rfl | exact Or.inr rfl) (pe_op op_and (pv 2) (pe_tab T_ao rfl (pv 0) (fun _ _ => rfl))))
      (pss_cons (ps_if (PW.pt (pw_orP (pt_cmpR op_ge (pv 4) (pe_tab T_bc rfl (pv 0) (fun _ _ => rfl)) (nomark _)) (pw_or1 (pt_cmpR op_ge (pv 5) (pe_tab T_bc rfl (pv 0) (fun _ _ => rfl)) (nomark _))))) (pss_cons (ps_if (PW.pt (pw_orP (pt_val (pe_def D_bp rfl (hr.mono (by decide)) pass0 (pa_cons (pv 0) (pa_cons (pv 4) pa_nil)))) (pw_orP (pt_val (pe_def D_bp rfl (hr.mono (by decide)) pass0 (pa_cons (pv 0) (pa_cons (pv 5) pa_nil)))) (pw_orP (pt_cmpR op_eq (pv 4) pe_int (nomark _)) (pw_or1 (pt_cmpR op_eq (pv 5) pe_int (nomark _))))))) (pss_one (ps_ret (pe_tab T_cd rfl (pv 0) (fun _ _ => rfl)))) pss_nil)
      (pss_one (ps_ret (pe_op op_or (pv 3) (pe_tab T_bc rfl (pv 0) (fun _ _ => rfl)))))) pss_nil)
      (pss_cons (ps_if (PW.pt (pw_orP (pt_cmpR op_eq (pv 4) pe_int (nomark _)) (pw_or1 (pt_cmpR op_eq (pv 5) pe_int (nomark _))))) (pss_one (ps_ret (pv 3))) pss_nil)
      (pss_cons (ps_asg (pe_def D_bt rfl (hr.mono (by decide)) pass0 (pa_cons (pv 0) (pa_cons (pv 4) pa_nil))) (pg_pair rfl (pg_name (i := 6) sc_az.nd rfl (by first | exact Or.inl rfl | exact Or.inr rfl)) (pg_name (i := 7) sc_az.nd rfl (by first | exact Or.inl rfl | exact Or.inr rfl))))
      (pss_cons (ps_asg (pe_def D_bt rfl (hr.mono (by decide)) pass0 (pa_cons (pv 0) (pa_cons (pv 5) pa_nil))) (pg_pair rfl (pg_name (i := 8) sc_az.nd rfl (by first | exact Or.inl rfl | exact Or.inr rfl)) (pg_name (i := 9) sc_az.nd rfl (by first | exact Or.inl rfl | exact Or.inr rfl))))
      (pss_one (ps_ret (pe_def D_bj rfl (hr.mono (by decide)) pass0 (pa_cons (pv 0) (pa_cons (pv 3) (pa_cons (pe_op op_mul (pv 6) (pv 8)) (pa_cons (pe_op op_add (pv 7) (pv 9)) pa_nil)))))))))))))), ?_⟩
    rw [show start ["f", "a", "b", "sign", "x", "y", "m", "m_power", "n", "n_power"] [V.int f, V.int n, V.int m] = [some (V.int f), some (V.int n), some (V.int m), none, none, none, none, none, none, none] from rfl]
    have hor := p_or (sgn (fmt f) n != sgn (fmt f) m) (top_lt hf.ok)
    simp only [tSeq, tAsg, gName, tRet, tIfS, tNext, tVar, tC, tOp, rI, rI0, tTest, tB, tCall, tCons, tNil, tTab, tOrP, leibB, leibBC, Bool.or_eq_true, upd_same, HO.tup.injEq, gTup2, rEq, scal, List.append_nil, List.set_cons_zero, List.set_cons_succ, List.getElem?_cons_zero, List.getElem?_cons_succ, Option.some.injEq, V.int.injEq, V.bl.injEq, V.ref.injEq, List.cons.injEq, and_assoc, exists_eq_left', exists_eq_left, exists_and_left, and_true, true_and, decide_eq_true_eq, Int.toNat_natCast, hP, Pl.tup, hf, p_size, p_xors, Int.ofNat_lt, Int.ofNat_le, Int.natCast_inj, Int.natCast_nonneg, Int.natCast_eq_zero, sp_bp, spB1, sp_bt, sp_bj, mag_mag, mag_lt, mag_lt2, hor, CMul]
    have q : ∀ H1, Same H H1 → Q (.int ((Sp18.mul (fmt f) n m : Nat) : Int)) H1 := k
    rw [mul_eq hf.ok] at q
    split
    · next c =>
      rw [if_pos c] at q
      split
      · next c1 => rw [if_pos c1] at q; exact q H (Same.refl H)
      · next c1 => rw [if_neg c1] at q; exact q H (Same.refl H)
    next c =>
    rw [if_neg c] at q
    split
    · next c1 => rw [if_pos c1] at q; exact q H (Same.refl H)
    next c1 =>
    rw [if_neg c1] at q
    have hm1 := mant_bd hf.std (mag (fmt f) n)
    have hm2 := mant_bd hf.std (mag (fmt f) m)
    have he1 := expo_bd hf.std (mag_lt (fmt f) n)
    have he2 := expo_bd hf.std (mag_lt (fmt f) m)
    have hpb := p_bd hf.std
    have hlb := least_bd hf.std
    have hz1 : 0 < mant (fmt f) (mag (fmt f) n) := Nat.pos_of_ne_zero fun z => absurd (mant_zero.mp z) (by omega)
    have hz2 : 0 < mant (fmt f) (mag (fmt f) m) := Nat.pos_of_ne_zero fun z => absurd (mant_zero.mp z) (by omega)
    intro p1 h1 p2 h2
    have hp : 0 < mant (fmt f) (mag (fmt f) n) * mant (fmt f) (mag (fmt f) m) := Nat.mul_pos hz1 hz2
    have hlg : Nat.log2 (mant (fmt f) (mag (fmt f) n) * mant (fmt f) (mag (fmt f) m)) ≤ 106 := log2_bd (by rw [show (2:Nat) ^ 106 = 2 ^ 53 * 2 ^ 53 by decide]; exact Nat.mul_lt_mul_of_lt_of_lt hm1 hm2)
    refine ⟨.inl ⟨by omega, by omega⟩, _, _, _, rfl, rfl, rfl, ?_, ?_, by omega, by omega, ?_⟩
    · rw [← Int.natCast_mul]; omega
    · rw [← Int.natCast_mul, Int.toNat_natCast]; omega
    · rw [← Int.natCast_mul, Int.toNat_natCast]; exact q _ ((Same.new h1).trans (Same.new h2))
theorem sc_bm : FnScope ["f", "a", "b", "sign", "x", "y", "m", "m_power", "n", "n_power", "shift", "quotient", "rest"] ["f", "a", "b"] (defScope s_divide) := ⟨rfl, rfl, rfl, by decide +kernel, rfl, by decide +kernel, by decide +kernel⟩
theorem ok_bm {f : Addr} {fd : FuncData} (Fn : Fun K "divide" "divide" s_divide f fd) (T_av : Tab K mg "SIGN_BIT" (fun F => ((HB F : Nat) : Int))) (T_ao : Tab K mg "SIZE_BITS" (fun F => ((HB F : Nat) : Int) - 1)) (T_cd : Tab K mg "NAN" (fun F => ((Sp18.NONE F : Nat) : Int))) (T_bc : Tab K mg "INFINITY" (fun F => ((Sp18.top F : Nat) : Int))) (T_i : Tab K mg "FRACTION_WIDTH" (fun F => ((F.p - 1 : Nat) : Int))) (D_bp : Def P w K mg base "is_nan" 1 ["f", "a"] sp_bp) (D_bt : Def P w K mg base "parts" 1 ["f", "size"] sp_bt) (D_bj : Def P w K mg base "rounded" 1 ["f", "sign", "m", "power"] sp_bj) (D_an : Def P w K mg base "with_rest" 1 ["m", "rest"] sp_an) (B_divmod : mg "divmod" = none) : FnOk P w K mg base CX0 2 f fd ["f", "a", "b"] sp_bm := by
  refine forgetI2 ?_
  refine Fn.ok sc_bm (fun vs H Q E h => ?_) (fun cdv A outer s H vs Q E hr h => ?_)
  · obtain ⟨f, a, b, rfl, _⟩ := h; rfl
  · obtain ⟨f, a, b, rfl, hf, ⟨ha0, ha⟩, ⟨hb0, hb⟩, hP, k⟩ := h
    obtain ⟨n, rfl⟩ := Int.eq_ofNat_of_zero_le ha0
    obtain ⟨m, rfl⟩ := Int.eq_ofNat_of_zero_le hb0
    replace ha := toNat_lt ha
    replace hb := toNat_lt hb
    refine ⟨_, (pss_cons (ps_set (i := 3) sc_bm.nd rfl (by first | exact Or.inl rfl | exact Or.inr rfl) (pe_op op_and (pe_op op_xor (pv 1) (pv 2)) (pe_tab T_av rfl (pv 0) (fun _ _ => rfl))))
      (pss_cons (ps_set (i := 4) sc_bm.nd rfl (by first | exact Or.inl rfl | exact Or.inr rfl) (pe_op op_and (pv 1) (pe_tab T_ao rfl (pv 0) (fun _ _ => rfl))))
      (pss_cons (ps_set (i := 5) sc_bm.nd rfl (by first | exact Or.inl rfl | exact Or.inr rfl) (pe_op op_and (pv 2) (pe_tab T_ao rfl (pv 0) (fun _ _ => rfl))))
      (pss_cons (ps_if (PW.pt (pw_orP (pt_val (pe_def D_bp rfl (hr.mono (by decide)) pass0 (pa_cons (pv 0) (pa_cons (pv 4) pa_nil)))) (pw_or1 (pt_val (pe_def D_bp rfl (hr.mono (by decide)) pass0 (pa_cons (pv 0) (pa_cons (pv 5) pa_nil))))))) (pss_one (ps_ret (pe_tab T_cd rfl (pv 0) (fun _ _ => rfl)))) pss_nil)
      (pss_cons (ps_if (PW.pt (pw_andP (pt_cmpR op_eq (pv 4) (pv 5) (nomark _)) (pw_and1 (PW.pt (pw_orP (pt_cmpR op_eq (pv 4) pe_int (nomark _)) (pw_or1 (pt_cmpR op_eq (pv 4) (pe_tab T_bc rfl (pv 0) (fun _ _ => rfl)) (nomark _)))))))) (pss_one (ps_ret (pe_tab T_cd rfl (pv 0) (fun _ _ => rfl)))) pss_nil)
      (pss_cons (ps_if (PW.pt (pw_orP (pt_cmpR op_eq (pv 4) pe_int (nomark _)) (pw_or1 (pt_cmpR op_eq (pv 5) (pe_tab T_bc rfl (pv 0) (fun _ _ => rfl)) (nomark _))))) (pss_one (ps_ret (pv 3))) pss_nil)
      (pss_cons (ps_if (PW.pt (pw_orP (pt_cmpR op_eq (pv 5) pe_int (nomark _)) (pw_or1 (pt_cmpR op_eq (pv 4) (pe_tab T_bc rfl (pv 0) (fun _ _ => rfl)) (nomark _))))) (pss_one (ps_ret (pe_op op_or (pv 3) (pe_tab T_bc rfl (pv 0) (fun _ _ => rfl))))) pss_nil)
      (pss_cons (ps_asg (pe_def D_bt rfl (hr.mono (by decide)) pass0 (pa_cons (pv 0) (pa_cons (pv 4) pa_nil))) (pg_pair rfl (pg_name (i := 6) sc_bm.nd rfl (by first | exact Or.inl rfl | exact Or.inr rfl)) (pg_name (i := 7) sc_bm.nd rfl (by first | exact Or.inl rfl | exact Or.inr rfl))))
      (pss_cons (ps_asg (pe_def D_bt rfl (hr.mono (by decide)) pass0 (pa_cons (pv 0) (pa_cons (pv 5) pa_nil))) (pg_pair rfl (pg_name (i := 8) sc_bm.nd rfl (by first | exact Or.inl rfl | exact Or.inr rfl)) (pg_name (i := 9) sc_bm.nd rfl (by first | exact Or.inl rfl | exact Or.inr rfl))))
      (pss_cons (ps_set (i := 10) sc_bm.nd rfl (by first | exact Or.inl rfl | exact Or.inr rfl) (pe_op op_add (pe_op op_mul pe_int (pe_tab T_i rfl (pv 0) (fun _ _ => rfl))) pe_int))
      (pss_cons (ps_asg (pe_callB call_divmodB rfl B_divmod boot_divmod (pa_cons (pe_op op_shl (pv 6) (pv 10)) (pa_cons (pv 8) pa_nil))) (pg_pair rfl (pg_name (i := 11) sc_bm.nd rfl (by first | exact Or.inl rfl | exact Or.inr rfl)) (pg_name (i := 12) sc_bm.nd rfl (by first | exact Or.inl rfl | exact Or.inr rfl))))
      (pss_one (ps_ret (pe_def D_bj rfl (hr.mono (by decide)) pass0 (pa_cons (pv 0) (pa_cons (pv 3) (pa_cons (pe_def D_an rfl (hr.mono (by decide)) pass0 (pa_cons (pv 11) (pa_cons (pv 12) pa_nil))) (pa_cons (pe_op op_sub (pe_op op_sub (pe_op op_sub (pv 7) (pv 9)) (pv 10)) pe_int) pa_nil)))))))))))))))))), ?_⟩
    rw [show start ["f", "a", "b", "sign", "x", "y", "m", "m_power", "n", "n_power", "shift", "quotient", "rest"] [V.int f, V.int n, V.int m] = [some (V.int f), some (V.int n), some (V.int m), none, none, none, none, none, none, none, none, none, none] from rfl]
    have hor := p_or (sgn (fmt f) n != sgn (fmt f) m) (top_lt hf.ok)
    have hk : (2 * (((fmt f).p - 1 : Nat) : Int) + 4) = ((2 * ((fmt f).p - 1) + 4 : Nat) : Int) := by omega
    simp only [tSeq, tAsg, gName, tRet, tIfS, tNext, tVar, tC, tOp, rI, rI0, tTest, tB, tCall, tCons, tNil, tCB, tTab, tOrP, tAndP, leibB, leibBC, Bool.or_eq_true, Bool.and_eq_true, upd_same, HO.tup.injEq, gTup2, rEq, scal, List.append_nil, List.set_cons_zero, List.set_cons_succ, List.getElem?_cons_zero, List.getElem?_cons_succ, Option.some.injEq, V.int.injEq, V.bl.injEq, V.ref.injEq, List.cons.injEq, and_assoc, exists_eq_left', exists_eq_left, exists_and_left, and_true, true_and, decide_eq_true_eq, Int.toNat_natCast, hP, Pl.tup, hf, p_size, p_xors, Int.ofNat_lt, Int.natCast_inj, Int.natCast_nonneg, Int.natCast_eq_zero, sp_bp, spB1, sp_bt, sp_bj, mag_mag, mag_lt, mag_lt2, hor, sp_an, CPow, CDivB, hk, cast_shl, cast_div, cast_mod, cast_rest]
    have q : ∀ H1, Same H H1 → Q (.int ((Sp18.div (fmt f) n m : Nat) : Int)) H1 := k
    rw [div_eq hf.ok] at q
    split
    · next c => rw [if_pos c] at q; exact q H (Same.refl H)
    next c =>
    rw [if_neg c] at q
    split
    · next c1 => rw [if_pos c1] at q; exact q H (Same.refl H)
    next c1 =>
    rw [if_neg c1] at q
    split
    · next c2 => rw [if_pos c2] at q; exact q H (Same.refl H)
    next c2 =>
    rw [if_neg c2] at q
    split
    · next c3 => rw [if_pos c3] at q; exact q H (Same.refl H)
    next c3 =>
    rw [if_neg c3] at q
    have hm1 := mant_bd hf.std (mag (fmt f) n)
    have hm2 := mant_bd hf.std (mag (fmt f) m)
    have he1 := expo_bd hf.std (mag_lt (fmt f) n)
    have he2 := expo_bd hf.std (mag_lt (fmt f) m)
    have hpb := p_bd hf.std
    have hlb := least_bd hf.std
    have hz1 : 0 < mant (fmt f) (mag (fmt f) n) := Nat.pos_of_ne_zero fun z => absurd (mant_zero.mp z) (by omega)
    have hz2 : 0 < mant (fmt f) (mag (fmt f) m) := Nat.pos_of_ne_zero fun z => absurd (mant_zero.mp z) (by omega)
    have hqb := quot_bd hf.std hz1 hm1 hz2 (mant_lt (fmt f) _)
    have hl2 := log2_bd hm2
    refine fun p1 h1 p2 h2 => ⟨.inl ⟨by decide, by decide⟩, by omega, by omega, by omega, by rw [Int.natAbs_natCast]; omega, fun p3 h3 => ⟨_, _, _, rfl, rfl, rfl, by omega, ?_, by omega, by omega, ?_⟩⟩
    · rw [Int.toNat_natCast]; omega
    · rw [Int.toNat_natCast]; exact q _ (((Same.new h1).trans (Same.new h2)).trans (Same.new h3))
theorem sc_z : FnScope ["f", "a", "b"] ["f", "a", "b"] (defScope s_add_endless) := ⟨rfl, rfl, rfl, by decide +kernel, rfl, by decide +kernel, by decide +kernel⟩
theorem ok_z {f : Addr} {fd : FuncData} (Fn : Fun K "add_endless" "add_endless" s_add_endless f fd) (T_cd : Tab K mg "NAN" (fun F => ((Sp18.NONE F : Nat) : Int))) (T_ao : Tab K mg "SIZE_BITS" (fun F => ((HB F : Nat) : Int) - 1)) (T_bc : Tab K mg "INFINITY" (fun F => ((Sp18.top F : Nat) : Int))) (T_av : Tab K mg "SIGN_BIT" (fun F => ((HB F : Nat) : Int))) (D_bp : Def P w K mg base "is_nan" 1 ["f", "a"] sp_bp) : FnOk P w K mg base CX0 2 f fd ["f", "a", "b"] sp_z := by
  refine Fn.ok sc_z (fun vs H Q E h => ?_) (fun cdv A outer s H vs Q E hr h => ?_)
  · obtain ⟨f, a, b, rfl, _⟩ := h; rfl
  · obtain ⟨f, a, b, rfl, hf, ⟨ha0, ha⟩, ⟨hb0, hb⟩, hend, hP, k⟩ := h
    obtain ⟨n, rfl⟩ := Int.eq_ofNat_of_zero_le ha0
    obtain ⟨m, rfl⟩ := Int.eq_ofNat_of_zero_le hb0
    replace ha := toNat_lt ha
    replace hb := toNat_lt hb
    refine ⟨_, (pss_cons (ps_if (PW.pt (pw_orP (pt_val (pe_def D_bp rfl (hr.mono (by decide)) pass0 (pa_cons (pv 0) (pa_cons (pv 1) pa_nil)))) (pw_or1 (pt_val (pe_def D_bp rfl (hr.mono (by decide)) pass0 (pa_cons (pv 0) (pa_cons (pv 2) pa_nil))))))) (pss_one (ps_ret (pe_tab T_cd rfl (pv 0) (fun _ _ => rfl)))) pss_nil)
      (pss_cons (ps_if (pt_cmpR op_ne (pe_op op_and (pv 1) (pe_tab T_ao rfl (pv 0) (fun _ _ => rfl))) (pe_tab T_bc rfl (pv 0) (fun _ _ => rfl)) (nomark _)) (pss_one (ps_ret (pv 2))) pss_nil)
      (pss_cons (ps_if (pt_cmpR op_eq (pv 2) (pe_op op_xor (pv 1) (pe_tab T_av rfl (pv 0) (fun _ _ => rfl))) (nomark _)) (pss_one (ps_ret (pe_tab T_cd rfl (pv 0) (fun _ _ => rfl)))) pss_nil)
      (pss_one (ps_ret (pv 1)))))), ?_⟩
    rw [show start ["f", "a", "b"] [V.int f, V.int n, V.int m] = [some (V.int f), some (V.int n), some (V.int m)] from rfl]
    have hxo := p_opp ha
    simp only [tSeq, tRet, tIfS, tNext, tVar, tOp, rI0, tTest, tB, tCall, tCons, tNil, tTab, tOrP, leibB, Bool.or_eq_true, rEq, rNe, scal, List.append_nil, List.getElem?_cons_zero, List.getElem?_cons_succ, Option.some.injEq, V.int.injEq, V.bl.injEq, List.cons.injEq, and_assoc, exists_eq_left', exists_eq_left, exists_and_left, and_true, true_and, decide_eq_true_eq, Int.toNat_natCast, hP, hf, p_size, Int.ofNat_lt, Int.natCast_inj, Int.natCast_nonneg, ha, hb, sp_bp, spB1, hxo]
    have q : Q (.int ((Sp18.add (fmt f) n m : Nat) : Int)) H := k
    rw [endless_eq ha hb hend] at q
    split
    · next c =>
      rcases c with c | c
      · rw [if_pos c] at q; exact q
      · rw [if_pos c] at q; split at q <;> exact q
    next c =>
    rw [if_neg (by omega), if_neg (by omega)] at q
    by_cases c3 : mag (fmt f) n = Sp18.top (fmt f)
    · rw [if_neg (fun z => z c3)] at q
      rw [if_neg (by rw [decide_eq_true c3]; decide)]
      split
      · next c4 => rw [if_pos c4] at q; exact q
      · next c4 => rw [if_neg c4] at q; exact q
    · rw [if_pos c3] at q; rw [if_pos (by rw [decide_eq_false c3]; decide)]; exact q
theorem sc_cb : FnScope ["f", "a", "b", "x", "y", "m", "m_power", "n", "n_power", "power", "total"] ["f", "a", "b"] (defScope s_add) := ⟨rfl, rfl, rfl, by decide +kernel, rfl, by decide +kernel, by decide +kernel⟩
theorem ok_cb {f : Addr} {fd : FuncData} (Fn : Fun K "add" "add" s_add f fd) (T_ao : Tab K mg "SIZE_BITS" (fun F => ((HB F : Nat) : Int) - 1)) (T_bc : Tab K mg "INFINITY" (fun F => ((Sp18.top F : Nat) : Int))) (T_av : Tab K mg "SIGN_BIT" (fun F => ((HB F : Nat) : Int))) (D_z : Def P w K mg base "add_endless" 2 ["f", "a", "b"] sp_z) (D_bt : Def P w K mg base "parts" 1 ["f", "size"] sp_bt) (D_bj : Def P w K mg base "rounded" 1 ["f", "sign", "m", "power"] sp_bj) (B_min : mg "min" = none) : FnOk P w K mg base CX0 3 f fd ["f", "a", "b"] sp_cb := by
  refine forgetI2 ?_
  refine Fn.ok sc_cb (fun vs H Q E h => ?_) (fun cdv A outer s H vs Q E hr h => ?_)
  · obtain ⟨f, a, b, rfl, _⟩ := h; rfl
  · obtain ⟨f, a, b, rfl, hf, ⟨ha0, ha⟩, ⟨hb0, hb⟩, hP, k⟩ := h
    obtain ⟨n, rfl⟩ := Int.eq_ofNat_of_zero_le ha0
    obtain ⟨m, rfl⟩ := Int.eq_ofNat_of_zero_le hb0
    replace ha := toNat_lt ha
    replace hb := toNat_lt hb
    refine ⟨_, (pss_cons (ps_set (i := 3) sc_cb.nd rfl (by first | exact Or.inl rfl | exact Or.inr rfl) (pe_op op_and (pv 1) (pe_tab T_ao rfl (pv 0) (fun _ _ => rfl))))
      (pss_cons (ps_set (i := 4) sc_cb.nd rfl (by first | exact Or.inl rfl | exact Or.inr rfl) (pe_op op_and (pv 2) (pe_tab T_ao rfl (pv 0) (fun _ _ => rfl))))
      (pss_cons (ps_if (PW.pt (pw_orP (pt_cmpR op_ge (pv 3) (pe_tab T_bc rfl (pv 0) (fun _ _ => rfl)) (nomark _)) (pw_or1 (pt_cmpR op_ge (pv 4) (pe_tab T_bc rfl (pv 0) (fun _ _ => rfl)) (nomark _))))) (pss_one (ps_ret (pe_def D_z rfl (hr.mono (by decide)) pass0 (pa_cons (pv 0) (pa_cons (pv 1) (pa_cons (pv 2) pa_nil)))))) pss_nil)
      (pss_cons (ps_asg (pe_def D_bt rfl (hr.mono (by decide)) pass0 (pa_cons (pv 0) (pa_cons (pv 3) pa_nil))) (pg_pair rfl (pg_name (i := 5) sc_cb.nd rfl (by first | exact Or.inl rfl | exact Or.inr rfl)) (pg_name (i := 6) sc_cb.nd rfl (by first | exact Or.inl rfl | exact Or.inr rfl))))
      (pss_cons (ps_asg (pe_def D_bt rfl (hr.mono (by decide)) pass0 (pa_cons (pv 0) (pa_cons (pv 4) pa_nil))) (pg_pair rfl (pg_name (i := 7) sc_cb.nd rfl (by first | exact Or.inl rfl | exact Or.inr rfl)) (pg_name (i := 8) sc_cb.nd rfl (by first | exact Or.inl rfl | exact Or.inr rfl))))
      (pss_cons (ps_set (i := 9) sc_cb.nd rfl (by first | exact Or.inl rfl | exact Or.inr rfl) (pe_callB (call_min2 rfl) rfl B_min boot_min (pa_cons (pv 6) (pa_cons (pv 8) pa_nil))))
      (pss_cons (ps_set (i := 5) sc_cb.nd rfl (by first | exact Or.inl rfl | exact Or.inr rfl) (pe_op op_shl (pv 5) (pe_op op_sub (pv 6) (pv 9))))
      (pss_cons (ps_set (i := 7) sc_cb.nd rfl (by first | exact Or.inl rfl | exact Or.inr rfl) (pe_op op_shl (pv 7) (pe_op op_sub (pv 8) (pv 9))))
      (pss_cons (ps_set (i := 10) sc_cb.nd rfl (by first | exact Or.inl rfl | exact Or.inr rfl) (pe_op op_add (pe_ifP (pt_cmpR op_ne (pv 1) (pv 3) (nomark _)) (pe_un un_neg (pv 5)) (pv 5)) (pe_ifP (pt_cmpR op_ne (pv 2) (pv 4) (nomark _)) (pe_un un_neg (pv 7)) (pv 7))))
      (pss_cons (ps_if (pt_cmpR op_eq (pv 10) pe_int (nomark _)) (pss_one (ps_ret (pe_op op_and (pe_op op_and (pv 1) (pv 2)) (pe_tab T_av rfl (pv 0) (fun _ _ => rfl))))) pss_nil)
      (pss_cons (ps_if (pt_cmpR op_lt (pv 10) pe_int (nomark _)) (pss_one (ps_ret (pe_def D_bj rfl (hr.mono (by decide)) pass0 (pa_cons (pv 0) (pa_cons (pe_tab T_av rfl (pv 0) (fun _ _ => rfl)) (pa_cons (pe_un un_neg (pv 10)) (pa_cons (pv 9) pa_nil))))))) pss_nil)
      (pss_one (ps_ret (pe_def D_bj rfl (hr.mono (by decide)) pass0 (pa_cons (pv 0) (pa_cons pe_int (pa_cons (pv 10) (pa_cons (pv 9) pa_nil)))))))))))))))))), ?_⟩
    rw [show start ["f", "a", "b", "x", "y", "m", "m_power", "n", "n_power", "power", "total"] [V.int f, V.int n, V.int m] = [some (V.int f), some (V.int n), some (V.int m), none, none, none, none, none, none, none, none] from rfl]
    simp only [tSeq, tAsg, gName, tRet, tIfS, tNext, tVar, tC, tOp, tUn, rI, rI0, rU, tTest, tCall, tCons, tNil, tCB, tTab, tOrP, tIfP, leibB, leibV, iteV, iteI, Bool.or_eq_true, upd_same, HO.tup.injEq, gTup2, rEq, rNe, scal, List.append_nil, List.set_cons_zero, List.set_cons_succ, List.getElem?_cons_zero, List.getElem?_cons_succ, Option.some.injEq, V.int.injEq, V.bl.injEq, V.ref.injEq, List.cons.injEq, and_assoc, exists_eq_left', exists_eq_left, exists_and_left, and_true, true_and, decide_eq_true_eq, Int.toNat_natCast, hP, Pl.tup, hf, p_size, p_ands, Int.ofNat_lt, Int.ofNat_le, Int.natCast_inj, Int.natCast_nonneg, ha, hb, sp_bt, sp_bj, mag_lt, sp_z, CPow, lower_py]
    have q : ∀ H1, Same H H1 → Q (.int ((Sp18.add (fmt f) n m : Nat) : Int)) H1 := k
    split
    · next c => exact ⟨c, q H (Same.refl H)⟩
    next c =>
    rw [add_fin2 (by omega) (by omega)] at q
    have hm1 := mant_bd hf.std (mag (fmt f) n)
    have hm2 := mant_bd hf.std (mag (fmt f) m)
    have he1 := expo_bd hf.std (mag_lt (fmt f) n)
    have he2 := expo_bd hf.std (mag_lt (fmt f) m)
    have hpb := p_bd hf.std
    have hlb := least_bd hf.std
    obtain ⟨l1, l2, l3⟩ := lower_le (expo (fmt f) (mag (fmt f) n)) (expo (fmt f) (mag (fmt f) m))
    have htb := total_bd hf.std n m
    rw [total_py2 ha hb]
    intro p1 h1 p2 h2
    have sm := fun (u : HO) => (Same.new h1).trans (Same.new (o := u) h2)
    refine ⟨by omega, by omega, by omega, by omega, by omega, by omega, ?_⟩
    split
    · next c1 => rw [if_pos c1] at q; exact q _ (sm _)
    next c1 =>
    rw [if_neg c1] at q
    split
    · next c2 =>
      rw [if_pos c2] at q
      refine ⟨_, _, true, (signBit_t _).symm, rfl, rfl, by omega, ?_, by omega, by omega, q _ (sm _)⟩
      rw [show (-total (fmt f) n m).toNat = (total (fmt f) n m).natAbs by omega]; omega
    · next c2 =>
      rw [if_neg c2] at q
      refine ⟨_, _, false, by rw [signBit_f]; rfl, rfl, rfl, by omega, ?_, by omega, by omega, q _ (sm _)⟩
      rw [show (total (fmt f) n m).toNat = (total (fmt f) n m).natAbs by omega]; omega
theorem sc_bd : FnScope ["f", "a", "b"] ["f", "a", "b"] (defScope s_subtract) := ⟨rfl, rfl, rfl, by decide +kernel, rfl, by decide +kernel, by decide +kernel⟩
theorem ok_bd {f : Addr} {fd : FuncData} (Fn : Fun K "subtract" "subtract" s_subtract f fd) (T_av : Tab K mg "SIGN_BIT" (fun F => ((HB F : Nat) : Int))) (D_cb : Def P w K mg base "add" 3 ["f", "a", "b"] sp_cb) : FnOk P w K mg base CX0 4 f fd ["f", "a", "b"] sp_bd := by
  refine Fn.ok sc_bd (fun vs H Q E h => ?_) (fun cdv A outer s H vs Q E hr h => ?_)
  · obtain ⟨f, a, b, rfl, _⟩ := h; rfl
  · obtain ⟨f, a, b, rfl, hf, ⟨ha0, ha⟩, ⟨hb0, hb⟩, hP, k⟩ := h
    obtain ⟨n, rfl⟩ := Int.eq_ofNat_of_zero_le ha0
    obtain ⟨m, rfl⟩ := Int.eq_ofNat_of_zero_le hb0
    replace ha := toNat_lt ha
    replace hb := toNat_lt hb
    refine ⟨_, (pss_one (ps_ret (pe_def D_cb rfl (hr.mono (by decide)) pass0 (pa_cons (pv 0) (pa_cons (pv 1) (pa_cons (pe_op op_xor (pv 2) (pe_tab T_av rfl (pv 0) (fun _ _ => rfl))) pa_nil)))))), ?_⟩
    rw [show start ["f", "a", "b"] [V.int f, V.int n, V.int m] = [some (V.int f), some (V.int n), some (V.int m)] from rfl]
    have hxo := p_opp hb
    simp only [tRet, tVar, tOp, rI0, tCall, tCons, tNil, tTab, List.append_nil, List.getElem?_cons_zero, List.getElem?_cons_succ, Option.some.injEq, V.int.injEq, List.cons.injEq, and_assoc, exists_eq_left', exists_and_left, and_true, true_and, Int.toNat_natCast, hP, hf, Int.ofNat_lt, Int.natCast_nonneg, ha, sp_cb, spI2, hxo]
    have q : Q (.int ((Sp18.sub (fmt f) n m : Nat) : Int)) H := k
    rw [sub_eq hf.ok hb] at q
    exact ⟨sign_or_lt _ (mag_lt _ _), q⟩
theorem sc_ax : FnScope ["f", "a"] ["f", "a"] (defScope s_opposite) := ⟨rfl, rfl, rfl, by decide +kernel, rfl, by decide +kernel, by decide +kernel⟩
theorem ok_ax {f : Addr} {fd : FuncData} (Fn : Fun K "opposite" "opposite" s_opposite f fd) (T_av : Tab K mg "SIGN_BIT" (fun F => ((HB F : Nat) : Int))) (D_ca : Def P w K mg base "told" 2 ["f", "a"] sp_ca) : FnOk P w K mg base CX0 3 f fd ["f", "a"] sp_ax := by
  refine Fn.ok sc_ax (fun vs H Q E h => ?_) (fun cdv A outer s H vs Q E hr h => ?_)
  · obtain ⟨f, a, rfl, _⟩ := h; rfl
  · obtain ⟨f, a, rfl, hf, ⟨ha0, ha⟩, hP, k⟩ := h
    obtain ⟨n, rfl⟩ := Int.eq_ofNat_of_zero_le ha0
    replace ha := toNat_lt ha
    refine ⟨_, (pss_one (ps_ret (pe_def D_ca rfl (hr.mono (by decide)) pass0 (pa_cons (pv 0) (pa_cons (pe_op op_xor (pv 1) (pe_tab T_av rfl (pv 0) (fun _ _ => rfl))) pa_nil))))), ?_⟩
    rw [show start ["f", "a"] [V.int f, V.int n] = [some (V.int f), some (V.int n)] from rfl]
    have hxo := p_opp ha
    simp only [tRet, tVar, tOp, rI0, tCall, tCons, tNil, tTab, List.append_nil, List.getElem?_cons_zero, List.getElem?_cons_succ, Option.some.injEq, V.int.injEq, List.cons.injEq, and_assoc, exists_eq_left', exists_and_left, and_true, true_and, Int.toNat_natCast, hP, hf, Int.ofNat_lt, Int.natCast_nonneg, sp_ca, spI1, hxo]
    have q : Q (.int ((Sp18.neg (fmt f) n : Nat) : Int)) H := k
    rw [← opp_eq hf.ok ha] at q
    exact ⟨sign_or_lt _ (mag_lt _ _), q⟩
end
end Wk
set_option linter.all false
set_option Elab.async false
set_option maxRecDepth 100000
set_option maxHeartbeats 4000000
namespace Wk
open PySem PySem.Spec PyProof.Rows L2 Sig
open PySem.W (Codec)
open Sp18Neutral (fmt)
section
variable {P : Program} {w : World} {K : PySem.W.Frag} {mg : Str → Option Value} {base : Heap}
theorem sc_bs : FnScope ["a"] ["a"] (defScope s_minus) := ⟨rfl, rfl, rfl, by decide +kernel, rfl, by decide +kernel, by decide +kernel⟩
theorem ok_bs {f : Addr} {fd : FuncData} (Fn : Fun K "minus" "minus" s_minus f fd) (T_av : Tab K mg "SIGN_BIT" (fun F => ((HB F : Nat) : Int))) {t_DOUBLE : Nat} (G_bq : mg "DOUBLE" = some (.int (1) t_DOUBLE)) : FnOk P w K mg base CX0 1 f fd ["a"] sp_bs := by
  refine Fn.ok sc_bs (fun vs H Q E h => ?_) (fun cdv A outer s H vs Q E hr h => ?_)
  · obtain ⟨i, rfl, _⟩ := h; rfl
  · obtain ⟨a, rfl, ha, hP, k⟩ := h
    refine ⟨_, (pss_one (ps_ret (pe_op op_xor (pv 0) (pe_tab T_av rfl (pe_glob (v := .int (1)) rfl G_bq ⟨_, rfl⟩) (fun _ _ => rfl))))), ?_⟩
    rw [show start ["a"] [V.int (a : Nat)] = [some (V.int (a : Nat))] from rfl]
    have hxo := p_opp (F := DD) ha.1
    simp only [tRet, tVar, tC, tOp, rI0, tTab, List.getElem?_cons_zero, Option.some.injEq, V.int.injEq, exists_eq_left', exists_and_left, true_and, F01_one, fmt_one, hxo]
    rw [ok_cc ha]; exact k
theorem sc_a : FnScope ["n", "j", "q", "r"] ["n", "j"] (defScope s_quarters_and_rest) := ⟨rfl, rfl, rfl, by decide +kernel, rfl, by decide +kernel, by decide +kernel⟩
theorem ok_a {f : Addr} {fd : FuncData} (Fn : Fun K "quarters_and_rest" "quarters_and_rest" s_quarters_and_rest f fd) (B_divmod : mg "divmod" = none) : FnOk P w K mg base CX0 1 f fd ["n", "j"] sp_a := by
  refine forgetT ?_
  refine Fn.ok sc_a (fun vs H Q E h => ?_) (fun cdv A outer s H vs Q E hr h => ?_)
  · obtain ⟨i, rfl, _⟩ := h; rfl
  · obtain ⟨⟨n, j⟩, rfl, ⟨hn0, hn⟩, hP, k⟩ := h
    refine ⟨_, (pss_cons (ps_asg (pe_callB call_divmodB rfl B_divmod boot_divmod (pa_cons (pe_op op_mul pe_int (pv 1)) (pa_cons (pv 0) pa_nil))) (pg_pair rfl (pg_name (i := 2) sc_a.nd rfl (by first | exact Or.inl rfl | exact Or.inr rfl)) (pg_name (i := 3) sc_a.nd rfl (by first | exact Or.inl rfl | exact Or.inr rfl))))
      (pss_one (ps_ret (pe_tup (pa_cons (pe_op op_mod (pv 2) pe_int) (pa_cons (pv 3) pa_nil)))))), ?_⟩
    rw [show start ["n", "j", "q", "r"] [V.int (n : Nat), V.int (j : Nat)] = [some (V.int (n : Nat)), some (V.int (j : Nat)), none, none] from rfl]
    simp only [tSeq, tAsg, tRet, tVar, tC, tOp, rI, tCons, tNil, tCB, tTup, upd_same, HO.tup.injEq, gTup2, List.set_cons_zero, List.set_cons_succ, List.getElem?_cons_zero, List.getElem?_cons_succ, Option.some.injEq, V.int.injEq, V.ref.injEq, List.cons.injEq, and_assoc, exists_eq_left', exists_and_left, and_true, CMul, CDivB]
    refine ⟨.inl ⟨by decide, by decide⟩, (by have : 0 < n := hn0; omega), log2_small hn, fun p hp => ⟨by decide, two_le_line, fun p1 hp1 => k _ p1 ((Same.new hp).trans (Same.new hp1)) (none_of_upd hp1) ?_⟩⟩
    rw [upd_same]
    rfl
theorem sc_bu : FnScope ["r", "n", "share"] ["r", "n"] (defScope s_angle) := ⟨rfl, rfl, rfl, by decide +kernel, rfl, by decide +kernel, by decide +kernel⟩
theorem ok_bu {f : Addr} {fd : FuncData} (Fn : Fun K "angle" "angle" s_angle f fd) (D_bm : Def P w K mg base "divide" 2 ["f", "a", "b"] sp_bm) (D_al : Def P w K mg base "from_whole" 2 ["f", "k"] sp_al) (D_az : Def P w K mg base "multiply" 2 ["f", "a", "b"] sp_az) {t_DOUBLE : Nat} (G_bq : mg "DOUBLE" = some (.int (1) t_DOUBLE)) {t_HALF_PI : Nat} (G_bh : mg "HALF_PI" = some (.int (4609753056924675352) t_HALF_PI)) : FnOk P w K mg base CX0 3 f fd ["r", "n"] sp_bu := by
  refine Fn.ok sc_bu (fun vs H Q E h => ?_) (fun cdv A outer s H vs Q E hr h => ?_)
  · obtain ⟨i, rfl, _⟩ := h; rfl
  · obtain ⟨⟨r, n⟩, rfl, ⟨hr0, hr1, hn0, hn1⟩, hP, k⟩ := h
    dsimp only at hr0 hr1 hn0 hn1
    refine ⟨_, (pss_cons (ps_set (i := 2) sc_bu.nd rfl (by first | exact Or.inl rfl | exact Or.inr rfl) (pe_def D_bm rfl (hr.mono (by decide)) pass0 (pa_cons (pe_glob (v := .int (1)) rfl G_bq ⟨_, rfl⟩) (pa_cons (pe_def D_al rfl (hr.mono (by decide)) pass0 (pa_cons (pe_glob (v := .int (1)) rfl G_bq ⟨_, rfl⟩) (pa_cons (pv 0) pa_nil))) (pa_cons (pe_def D_al rfl (hr.mono (by decide)) pass0 (pa_cons (pe_glob (v := .int (1)) rfl G_bq ⟨_, rfl⟩) (pa_cons (pv 1) pa_nil))) pa_nil)))))
      (pss_one (ps_ret (pe_def D_az rfl (hr.mono (by decide)) pass0 (pa_cons (pe_glob (v := .int (1)) rfl G_bq ⟨_, rfl⟩) (pa_cons (pv 2) (pa_cons (pe_glob (v := .int (4609753056924675352)) rfl G_bh ⟨_, rfl⟩) pa_nil))))))), ?_⟩
    rw [show start ["r", "n", "share"] [V.int (r : Nat), V.int (n : Nat)] = [some (V.int (r : Nat)), some (V.int (n : Nat)), none] from rfl]
    simp only [tSeq, tAsg, gName, tRet, tVar, tC, tCall, tCons, tNil, List.append_nil, List.set_cons_zero, List.set_cons_succ, List.getElem?_cons_zero, List.getElem?_cons_succ, Option.some.injEq, V.int.injEq, List.cons.injEq, and_assoc, exists_eq_left', exists_and_left, and_true, true_and, Int.toNat_natCast, hP, F01_one, fmt_one, Int.ofNat_lt, Int.natCast_nonneg, sp_al, sp_bm, sp_az, spI2]
    exact ⟨by omega, by omega, by omega, by omega, ofInt_lt sD.ok _, ofInt_lt sD.ok _, div_lt sD.ok _ _, by decide, by decide, k⟩
theorem sc_bn : FnScope ["terms", "z", "total", "i"] ["terms", "z"] (defScope s_series) := ⟨rfl, rfl, rfl, by decide +kernel, rfl, by decide +kernel, by decide +kernel⟩
theorem ok_bn {f : Addr} {fd : FuncData} (Fn : Fun K "series" "series" s_series f fd) (D_cb : Def P w K mg base "add" 3 ["f", "a", "b"] sp_cb) (D_az : Def P w K mg base "multiply" 2 ["f", "a", "b"] sp_az) {t_DOUBLE : Nat} (G_bq : mg "DOUBLE" = some (.int (1) t_DOUBLE)) : FnOk P w K mg base CX0 4 f fd ["terms", "z"] (sp_bn K) := by
  refine forgetV ?_
  refine Fn.ok sc_bn (fun vs H Q E h => ?_) (fun cdv A outer s H vs Q E hr h => ?_)
  · obtain ⟨i, rfl, _⟩ := h; rfl
  · obtain ⟨⟨p, cs, z⟩, rfl, ⟨hp, hl, hcs, hz⟩, hP, k⟩ := h
    dsimp only at hp hl hcs hz k
    refine ⟨_, (pss_cons (ps_set (i := 2) sc_bn.nd rfl (by first | exact Or.inl rfl | exact Or.inr rfl) (pe_ix (ix_tupK (K := K) rfl) (pv 0) pe_int (fun _ _ => rfl)))
      (pss_cons (ps_for PassesOwn.never rfl (pi_tupK (K := K) rfl (pe_tup (pa_cons pe_int (pa_cons pe_int (pa_cons pe_int (pa_cons pe_int (pa_cons pe_int pa_nil))))))) (pg_name (i := 3) sc_bn.nd rfl (by first | exact Or.inl rfl | exact Or.inr rfl)) (pss_one (ps_set (i := 2) sc_bn.nd rfl (by first | exact Or.inl rfl | exact Or.inr rfl) (pe_def D_cb rfl (hr.mono (by decide)) pass0 (pa_cons (pe_glob (v := .int (1)) rfl G_bq ⟨_, rfl⟩) (pa_cons (pe_ix (ix_tupK (K := K) rfl) (pv 0) (pv 3) (fun _ _ => rfl)) (pa_cons (pe_def D_az rfl (hr.mono (by decide)) pass0 (pa_cons (pe_glob (v := .int (1)) rfl G_bq ⟨_, rfl⟩) (pa_cons (pv 1) (pa_cons (pv 2) pa_nil)))) pa_nil)))))))
      (pss_one (ps_ret (pv 2))))), ?_⟩
    rw [show start ["terms", "z", "total", "i"] [V.ref p, V.int (z : Nat)] = [some (V.ref p), some (V.int (z : Nat)), none, none] from rfl]
    simp only [tSeq, tAsg, gName, tVar, tC, tOp, List.set_cons_zero, List.set_cons_succ, List.getElem?_cons_zero, Option.some.injEq, exists_eq_left']
    obtain ⟨c0, c1, c2, c3, c4, c5, rfl⟩ := six_of hl
    have hc := fun c h => hcs c h
    simp only [List.mem_cons, List.not_mem_nil, or_false, forall_eq_or_imp, forall_eq] at hc
    obtain ⟨q0, q1, q2, q3, q4, q5⟩ := hc
    refine ⟨p, _, _, _, rfl, rfl, hp, rfl, by show 5 ≤ sizeLine; decide, fun t ht => ⟨t, rfl, ⟨_, SqT.of upd_same⟩, for_tup (K := K) (a := t) (xs := [.int 4, .int 3, .int 2, .int 1, .int 0]) (fun i σ H1 => ∃ v, σ = [some (V.ref p), some (V.int (z : Nat)), some (V.int (Sp18.horner z ([c0, c1, c2, c3, c4, c5].drop (5 - i)) : Nat)), v] ∧ H1 = upd H t (.tup [.int 4, .int 3, .int 2, .int 1, .int 0])) ⟨none, rfl, rfl⟩ (fun i σ H1 _ ⟨_, _, e⟩ => e ▸ SqT.of upd_same) ?_ ?_⟩⟩
    · rintro i x σ H1 ex ⟨v, rfl, rfl⟩
      have hp2 := (Same.new (o := .tup [.int 4, .int 3, .int 2, .int 1, .int 0]) ht).seqT hp
      have hP2 : Pl (upd H t (.tup [.int 4, .int 3, .int 2, .int 1, .int 0])) := hP.tup
      have hi : i < 5 := (List.getElem?_eq_some_iff.mp ex).1
      have hi5 : i = 0 ∨ i = 1 ∨ i = 2 ∨ i = 3 ∨ i = 4 := by omega
      rcases hi5 with rfl | rfl | rfl | rfl | rfl <;> cases ex
      · refine ⟨_, rfl, _, rfl, p, _, _, _, rfl, rfl, hp2, rfl, _, rfl, _, rfl, 1, (z : Int), _, rfl, F01_one, nm_of hz, nm_of q5, hP2, 1, _, _, rfl, F01_one, nm_of q4, nm_of (mul_ltD _ _), hP2, _, rfl, rfl⟩
      · refine ⟨_, rfl, _, rfl, p, _, _, _, rfl, rfl, hp2, rfl, _, rfl, _, rfl, 1, (z : Int), _, rfl, F01_one, nm_of hz, nm_of (add_ltD _ _), hP2, 1, _, _, rfl, F01_one, nm_of q3, nm_of (mul_ltD _ _), hP2, _, rfl, rfl⟩
      · refine ⟨_, rfl, _, rfl, p, _, _, _, rfl, rfl, hp2, rfl, _, rfl, _, rfl, 1, (z : Int), _, rfl, F01_one, nm_of hz, nm_of (add_ltD _ _), hP2, 1, _, _, rfl, F01_one, nm_of q2, nm_of (mul_ltD _ _), hP2, _, rfl, rfl⟩
      · refine ⟨_, rfl, _, rfl, p, _, _, _, rfl, rfl, hp2, rfl, _, rfl, _, rfl, 1, (z : Int), _, rfl, F01_one, nm_of hz, nm_of (add_ltD _ _), hP2, 1, _, _, rfl, F01_one, nm_of q1, nm_of (mul_ltD _ _), hP2, _, rfl, rfl⟩
      · refine ⟨_, rfl, _, rfl, p, _, _, _, rfl, rfl, hp2, rfl, _, rfl, _, rfl, 1, (z : Int), _, rfl, F01_one, nm_of hz, nm_of (add_ltD _ _), hP2, 1, _, _, rfl, F01_one, nm_of q0, nm_of (mul_ltD _ _), hP2, _, rfl, rfl⟩
    · rintro σ H1 ⟨v, rfl, rfl⟩
      exact ⟨_, rfl, k _ (Same.new ht)⟩
theorem sc_ak : FnScope ["t", "z", "tail"] ["t"] (defScope s_small_sine) := ⟨rfl, rfl, rfl, by decide +kernel, rfl, by decide +kernel, by decide +kernel⟩
theorem ok_ak {f : Addr} {fd : FuncData} (Fn : Fun K "small_sine" "small_sine" s_small_sine f fd) (D_az : Def P w K mg base "multiply" 2 ["f", "a", "b"] sp_az) (D_bn : Def P w K mg base "series" 4 ["terms", "z"] (sp_bn K)) (D_cb : Def P w K mg base "add" 3 ["f", "a", "b"] sp_cb) {t_DOUBLE : Nat} (G_bq : mg "DOUBLE" = some (.int (1) t_DOUBLE)) {p_am : Addr} (G_am : mg "SINE_TERMS" = some (.ref p_am)) (hS : ∀ H, SqT K H p_am (Sp18.SINE.map fun n => V.int (n : Nat))) : FnOk P w K mg base CX0 5 f fd ["t"] sp_ak := by
  refine Fn.ok sc_ak (fun vs H Q E h => ?_) (fun cdv A outer s H vs Q E hr h => ?_)
  · obtain ⟨i, rfl, _⟩ := h; rfl
  · obtain ⟨t, rfl, ht, hP, k⟩ := h
    refine ⟨_, (pss_cons (ps_set (i := 1) sc_ak.nd rfl (by first | exact Or.inl rfl | exact Or.inr rfl) (pe_def D_az rfl (hr.mono (by decide)) pass0 (pa_cons (pe_glob (v := .int (1)) rfl G_bq ⟨_, rfl⟩) (pa_cons (pv 0) (pa_cons (pv 0) pa_nil)))))
      (pss_cons (ps_set (i := 2) sc_ak.nd rfl (by first | exact Or.inl rfl | exact Or.inr rfl) (pe_def D_az rfl (hr.mono (by decide)) pass0 (pa_cons (pe_glob (v := .int (1)) rfl G_bq ⟨_, rfl⟩) (pa_cons (pe_def D_az rfl (hr.mono (by decide)) pass0 (pa_cons (pe_glob (v := .int (1)) rfl G_bq ⟨_, rfl⟩) (pa_cons (pv 0) (pa_cons (pv 1) pa_nil)))) (pa_cons (pe_def D_bn rfl (hr.mono (by decide)) pass0 (pa_cons (pe_glob (v := .ref p_am) rfl G_am rfl) (pa_cons (pv 1) pa_nil))) pa_nil)))))
      (pss_one (ps_ret (pe_def D_cb rfl (hr.mono (by decide)) pass0 (pa_cons (pe_glob (v := .int (1)) rfl G_bq ⟨_, rfl⟩) (pa_cons (pv 0) (pa_cons (pv 2) pa_nil)))))))), ?_⟩
    rw [show start ["t", "z", "tail"] [V.int (t : Nat)] = [some (V.int (t : Nat)), none, none] from rfl]
    simp only [tSeq, tAsg, gName, tRet, tVar, tC, tCall, tCons, tNil, List.append_nil, List.set_cons_zero, List.set_cons_succ, List.getElem?_cons_zero, List.getElem?_cons_succ, Option.some.injEq, V.int.injEq, List.cons.injEq, and_assoc, exists_eq_left', exists_and_left, and_true, true_and, Int.toNat_natCast, hP, F01_one, fmt_one, Int.ofNat_lt, Int.natCast_nonneg, sp_az, spI2, sp_cb]
    refine ⟨ht, ht, ht, mul_ltD _ _, ⟨p_am, Sp18.SINE, Sp18.mul DD t t⟩, rfl, ⟨hS H, rfl, sine_cs, mul_ltD _ _⟩, hP, _, rfl, mul_ltD _ _, Int.natCast_nonneg _, (nm_of (f := 1) (sine_hlt _)).2, hP, ht, mul_ltD _ _, hP, k⟩
theorem sc_p : FnScope ["t", "z", "tail"] ["t"] (defScope s_small_cosine) := ⟨rfl, rfl, rfl, by decide +kernel, rfl, by decide +kernel, by decide +kernel⟩
theorem ok_p {f : Addr} {fd : FuncData} (Fn : Fun K "small_cosine" "small_cosine" s_small_cosine f fd) (D_az : Def P w K mg base "multiply" 2 ["f", "a", "b"] sp_az) (D_bn : Def P w K mg base "series" 4 ["terms", "z"] (sp_bn K)) (D_bd : Def P w K mg base "subtract" 4 ["f", "a", "b"] sp_bd) {t_DOUBLE : Nat} (G_bq : mg "DOUBLE" = some (.int (1) t_DOUBLE)) {p_t : Addr} (G_t : mg "COSINE_TERMS" = some (.ref p_t)) {t_ONE_HALF : Nat} (G_bf : mg "ONE_HALF" = some (.int (4602678819172646912) t_ONE_HALF)) {t_ONE_WHOLE : Nat} (G_ap : mg "ONE_WHOLE" = some (.int (4607182418800017408) t_ONE_WHOLE)) (hS : ∀ H, SqT K H p_t (Sp18.COSINE.map fun n => V.int (n : Nat))) : FnOk P w K mg base CX0 5 f fd ["t"] sp_p := by
  refine Fn.ok sc_p (fun vs H Q E h => ?_) (fun cdv A outer s H vs Q E hr h => ?_)
  · obtain ⟨i, rfl, _⟩ := h; rfl
  · obtain ⟨t, rfl, ht, hP, k⟩ := h
    refine ⟨_, (pss_cons (ps_set (i := 1) sc_p.nd rfl (by first | exact Or.inl rfl | exact Or.inr rfl) (pe_def D_az rfl (hr.mono (by decide)) pass0 (pa_cons (pe_glob (v := .int (1)) rfl G_bq ⟨_, rfl⟩) (pa_cons (pv 0) (pa_cons (pv 0) pa_nil)))))
      (pss_cons (ps_set (i := 2) sc_p.nd rfl (by first | exact Or.inl rfl | exact Or.inr rfl) (pe_def D_az rfl (hr.mono (by decide)) pass0 (pa_cons (pe_glob (v := .int (1)) rfl G_bq ⟨_, rfl⟩) (pa_cons (pe_def D_az rfl (hr.mono (by decide)) pass0 (pa_cons (pe_glob (v := .int (1)) rfl G_bq ⟨_, rfl⟩) (pa_cons (pv 1) (pa_cons (pv 1) pa_nil)))) (pa_cons (pe_def D_bn rfl (hr.mono (by decide)) pass0 (pa_cons (pe_glob (v := .ref p_t) rfl G_t rfl) (pa_cons (pv 1) pa_nil))) pa_nil)))))
      (pss_one (ps_ret (pe_def D_bd rfl (hr.mono (by decide)) pass0 (pa_cons (pe_glob (v := .int (1)) rfl G_bq ⟨_, rfl⟩) (pa_cons (pe_glob (v := .int (4607182418800017408)) rfl G_ap ⟨_, rfl⟩) (pa_cons (pe_def D_bd rfl (hr.mono (by decide)) pass0 (pa_cons (pe_glob (v := .int (1)) rfl G_bq ⟨_, rfl⟩) (pa_cons (pe_def D_az rfl (hr.mono (by decide)) pass0 (pa_cons (pe_glob (v := .int (1)) rfl G_bq ⟨_, rfl⟩) (pa_cons (pv 1) (pa_cons (pe_glob (v := .int (4602678819172646912)) rfl G_bf ⟨_, rfl⟩) pa_nil)))) (pa_cons (pv 2) pa_nil)))) pa_nil)))))))), ?_⟩
    rw [show start ["t", "z", "tail"] [V.int (t : Nat)] = [some (V.int (t : Nat)), none, none] from rfl]
    simp only [tSeq, tAsg, gName, tRet, tVar, tC, tCall, tCons, tNil, List.append_nil, List.set_cons_zero, List.set_cons_succ, List.getElem?_cons_zero, List.getElem?_cons_succ, Option.some.injEq, V.int.injEq, List.cons.injEq, and_assoc, exists_eq_left', exists_and_left, and_true, true_and, Int.toNat_natCast, hP, F01_one, fmt_one, Int.ofNat_lt, Int.natCast_nonneg, sp_az, spI2, sp_bd]
    exact ⟨ht, ht, mul_ltD _ _, mul_ltD _ _, ⟨p_t, Sp18.COSINE, Sp18.mul DD t t⟩, rfl, ⟨hS H, rfl, cosine_cs, mul_ltD _ _⟩, hP, _, rfl, mul_ltD _ _, Int.natCast_nonneg _, (nm_of (f := 1) (cosine_hlt _)).2, hP, mul_ltD _ _, by decide, by decide, hP, mul_ltD _ _, mul_ltD _ _, hP, by decide, by decide, sub_ltD _ _, hP, k⟩
theorem sc_d : FnScope ["n", "r", "t"] ["n", "r"] (defScope s_in_first_quarter) := ⟨rfl, rfl, rfl, by decide +kernel, rfl, by decide +kernel, by decide +kernel⟩
theorem ok_d {f : Addr} {fd : FuncData} (Fn : Fun K "in_first_quarter" "in_first_quarter" s_in_first_quarter f fd) (D_bu : Def P w K mg base "angle" 3 ["r", "n"] sp_bu) (D_ak : Def P w K mg base "small_sine" 5 ["t"] sp_ak) (D_p : Def P w K mg base "small_cosine" 5 ["t"] sp_p) {t_ROOT_OF_HALF : Nat} (G_s : mg "ROOT_OF_HALF" = some (.int (4604544271217802189) t_ROOT_OF_HALF)) : FnOk P w K mg base CX0 6 f fd ["n", "r"] sp_d := by
  refine forgetT ?_
  refine Fn.ok sc_d (fun vs H Q E h => ?_) (fun cdv A outer s H vs Q E hr h => ?_)
  · obtain ⟨i, rfl, _⟩ := h; rfl
  · obtain ⟨⟨n, r⟩, rfl, ⟨hr0, hr1, hn⟩, hP, k⟩ := h
    dsimp only at hr0 hr1 hn k
    refine ⟨_, (pss_cons (ps_if (pt_cmpR op_eq (pe_op op_mul pe_int (pv 1)) (pv 0) (nomark _)) (pss_one (ps_ret (pe_tup (pa_cons (pe_glob (v := .int (4604544271217802189)) rfl G_s ⟨_, rfl⟩) (pa_cons (pe_glob (v := .int (4604544271217802189)) rfl G_s ⟨_, rfl⟩) pa_nil))))) pss_nil)
      (pss_cons (ps_if (pt_cmpR op_lt (pe_op op_mul pe_int (pv 1)) (pv 0) (nomark _)) (pss_cons (ps_set (i := 2) sc_d.nd rfl (by first | exact Or.inl rfl | exact Or.inr rfl) (pe_def D_bu rfl (hr.mono (by decide)) pass0 (pa_cons (pv 1) (pa_cons (pv 0) pa_nil))))
      (pss_one (ps_ret (pe_tup (pa_cons (pe_def D_p rfl (hr.mono (by decide)) pass0 (pa_cons (pv 2) pa_nil)) (pa_cons (pe_def D_ak rfl (hr.mono (by decide)) pass0 (pa_cons (pv 2) pa_nil)) pa_nil)))))) pss_nil)
      (pss_cons (ps_set (i := 2) sc_d.nd rfl (by first | exact Or.inl rfl | exact Or.inr rfl) (pe_def D_bu rfl (hr.mono (by decide)) pass0 (pa_cons (pe_op op_sub (pv 0) (pv 1)) (pa_cons (pv 0) pa_nil))))
      (pss_one (ps_ret (pe_tup (pa_cons (pe_def D_ak rfl (hr.mono (by decide)) pass0 (pa_cons (pv 2) pa_nil)) (pa_cons (pe_def D_p rfl (hr.mono (by decide)) pass0 (pa_cons (pv 2) pa_nil)) pa_nil)))))))), ?_⟩
    rw [show start ["n", "r", "t"] [V.int (n : Nat), V.int (r : Nat)] = [some (V.int (n : Nat)), some (V.int (r : Nat)), none] from rfl]
    simp only [tSeq, tAsg, gName, tRet, tIfS, tNext, tVar, tC, tOp, rI, rI0, tTest, tCall, tCons, tNil, tTup, rEq, scal, List.append_nil, List.set_cons_zero, List.set_cons_succ, List.getElem?_cons_zero, List.getElem?_cons_succ, Option.some.injEq, V.int.injEq, V.bl.injEq, List.cons.injEq, and_assoc, exists_eq_left', exists_and_left, and_true, true_and, decide_eq_true_eq, hP, Int.natCast_inj, CMul, sp_bu, sp_ak, sp_p, spV]
    have sl : ∀ r n, Sp18.share r n < 2 * HB DD := fun r n => mul_lt sD.ok _ _
    refine ⟨.inl ⟨by decide, by decide⟩, ?_⟩
    unfold Sp18.within at k
    by_cases c1 : 2 * r = n
    · rw [if_pos (by omega)]; rw [if_pos c1] at k
      exact ⟨two_le_line, fun p hp => k _ p (Same.new hp) hp upd_same⟩
    rw [if_neg (by omega)]; rw [if_neg c1] at k
    refine ⟨.inl ⟨by decide, by decide⟩, ?_⟩
    by_cases c2 : 2 * r < n
    · rw [if_pos (by omega)]; rw [if_pos c2] at k
      exact ⟨(r, n), rfl, rfl, hr0, by show r ≤ 8192; omega, by show 0 < n; omega, hn, sl _ _, sl _ _, two_le_line, fun p hp => k _ p (Same.new hp) hp upd_same⟩
    · rw [if_neg (by omega)]; rw [if_neg c2] at k
      exact ⟨(n - r, n), by show (n : Int) - (r : Int) = ((n - r : Nat) : Int); omega, rfl, by show 0 < n - r; omega, by show n - r ≤ 8192; omega, by show 0 < n; omega, hn, sl _ _, sl _ _, two_le_line, fun p hp => k _ p (Same.new hp) hp upd_same⟩
theorem sc_e : FnScope ["n", "j", "q", "r", "c", "s"] ["n", "j"] (defScope s_cosine_and_sine) := ⟨rfl, rfl, rfl, by decide +kernel, rfl, by decide +kernel, by decide +kernel⟩
theorem ok_e {f : Addr} {fd : FuncData} (Fn : Fun K "cosine_and_sine" "cosine_and_sine" s_cosine_and_sine f fd) (D_a : Def P w K mg base "quarters_and_rest" 1 ["n", "j"] sp_a) (D_d : Def P w K mg base "in_first_quarter" 6 ["n", "r"] sp_d) (D_bs : Def P w K mg base "minus" 1 ["a"] sp_bs) {p_ay : Addr} (G_ay : mg "QUARTERS" = some (.ref p_ay)) {qs : List Addr} (hQ : ∀ H, SqT K H p_ay (qs.map V.ref)) (hql : qs.length = 4) (hqs : ∀ H (i : Nat) a, qs[i]? = some a → SqT K H a [.int ((quarter i).1 : Nat), .int ((quarter i).2 : Nat)]) : FnOk P w K mg base CX0 7 f fd ["n", "j"] (sp_e K) := by
  refine Fn.ok sc_e (fun vs H Q E h => ?_) (fun cdv A outer s H vs Q E hr h => ?_)
  · obtain ⟨n, j, rfl, _⟩ := h; rfl
  · obtain ⟨n, j, rfl, hn0, hn, hP, k⟩ := h
    refine ⟨_, (pss_cons (ps_asg (pe_def D_a rfl (hr.mono (by decide)) pass0 (pa_cons (pv 0) (pa_cons (pv 1) pa_nil))) (pg_pair rfl (pg_name (i := 2) sc_e.nd rfl (by first | exact Or.inl rfl | exact Or.inr rfl)) (pg_name (i := 3) sc_e.nd rfl (by first | exact Or.inl rfl | exact Or.inr rfl))))
      (pss_cons (ps_if (pt_cmpR op_eq (pv 3) pe_int (nomark _)) (pss_one (ps_ret (pe_ix (ix_tupK (K := K) rfl) (pe_glob (v := .ref p_ay) rfl G_ay rfl) (pv 2) (fun _ _ => rfl)))) pss_nil)
      (pss_cons (ps_asg (pe_def D_d rfl (hr.mono (by decide)) pass0 (pa_cons (pv 0) (pa_cons (pv 3) pa_nil))) (pg_pair rfl (pg_name (i := 4) sc_e.nd rfl (by first | exact Or.inl rfl | exact Or.inr rfl)) (pg_name (i := 5) sc_e.nd rfl (by first | exact Or.inl rfl | exact Or.inr rfl))))
      (pss_cons (ps_if (pt_cmpR op_eq (pv 2) pe_int (nomark _)) (pss_one (ps_ret (pe_tup (pa_cons (pv 4) (pa_cons (pv 5) pa_nil))))) pss_nil)
      (pss_cons (ps_if (pt_cmpR op_eq (pv 2) pe_int (nomark _)) (pss_one (ps_ret (pe_tup (pa_cons (pe_def D_bs rfl (hr.mono (by decide)) pass0 (pa_cons (pv 5) pa_nil)) (pa_cons (pv 4) pa_nil))))) pss_nil)
      (pss_cons (ps_if (pt_cmpR op_eq (pv 2) pe_int (nomark _)) (pss_one (ps_ret (pe_tup (pa_cons (pe_def D_bs rfl (hr.mono (by decide)) pass0 (pa_cons (pv 4) pa_nil)) (pa_cons (pe_def D_bs rfl (hr.mono (by decide)) pass0 (pa_cons (pv 5) pa_nil)) pa_nil))))) pss_nil)
      (pss_one (ps_ret (pe_tup (pa_cons (pv 5) (pa_cons (pe_def D_bs rfl (hr.mono (by decide)) pass0 (pa_cons (pv 4) pa_nil)) pa_nil))))))))))), ?_⟩
    rw [show start ["n", "j", "q", "r", "c", "s"] [V.int (n : Nat), V.int (j : Nat)] = [some (V.int (n : Nat)), some (V.int (j : Nat)), none, none, none, none] from rfl]
    simp only [tSeq, tAsg, tRet, tIfS, tNext, tVar, tC, tOp, tTest, tCall, tCons, tNil, tTup, upd_same, HO.tup.injEq, gTup2, rEq, scal, List.append_nil, List.set_cons_zero, List.set_cons_succ, List.getElem?_cons_zero, List.getElem?_cons_succ, Option.some.injEq, V.int.injEq, V.bl.injEq, V.ref.injEq, List.cons.injEq, and_assoc, exists_eq_left', exists_and_left, and_true, true_and, decide_eq_true_eq, hP, Pl.tup, Int.natCast_inj, sp_a, sp_d, sp_bs, L2.spT, spV]
    refine ⟨(n, j), rfl, rfl, hn0, hn, fun p hp => ?_⟩
    dsimp only
    rw [angle_eq] at k
    have hr1 := Nat.mod_lt (4 * j) hn0
    have hq4 : 4 * j / n % 4 < 4 := Nat.mod_lt _ (by decide)
    obtain ⟨q, hq⟩ : ∃ q, q = 4 * j / n % 4 := ⟨_, rfl⟩
    obtain ⟨r, hr9⟩ : ∃ r, r = 4 * j % n := ⟨_, rfl⟩
    rw [← hq, ← hr9] at k
    rw [← hq, ← hr9]
    rw [← hq] at hq4
    rw [← hr9] at hr1
    by_cases c : r = 0
    · rw [if_pos (by omega)]
      rw [if_pos c] at k
      have hql2 : q < qs.length := by omega
      exact ⟨p_ay, _, _, _, rfl, rfl, hQ _, atI_nat (v := V.ref qs[q]) (by rw [List.getElem?_map, List.getElem?_eq_getElem hql2]; rfl), k _ _ (Same.new hp) hP.tup (hqs _ _ _ (List.getElem?_eq_getElem hql2))⟩
    rw [if_neg (by omega)]
    rw [if_neg c] at k
    obtain ⟨w1, w2⟩ := within_ok (n := n) (r := r) (by omega) hr1 hn
    refine ⟨(n, r), rfl, rfl, by show 0 < r; omega, hr1, hn, fun p1 hp1 => ?_⟩
    dsimp only
    by_cases d0 : q = 0
    · rw [if_pos (by omega)]
      rw [if_pos d0] at k
      exact ⟨two_le_line, fun p2 hp2 => k _ p2 (((Same.new hp).trans (Same.new hp1)).trans (Same.new hp2)) hP.tup.tup.tup (SqT.of upd_same)⟩
    rw [if_neg (by omega)]
    rw [if_neg d0] at k
    by_cases d1 : q = 1
    · rw [if_pos (by omega)]
      rw [if_pos d1] at k
      exact ⟨w2, two_le_line, fun p2 hp2 => k _ p2 (((Same.new hp).trans (Same.new hp1)).trans (Same.new hp2)) hP.tup.tup.tup (SqT.of upd_same)⟩
    rw [if_neg (by omega)]
    rw [if_neg d1] at k
    by_cases d2 : q = 2
    · rw [if_pos (by omega)]
      rw [if_pos d2] at k
      exact ⟨w1, w2, two_le_line, fun p2 hp2 => k _ p2 (((Same.new hp).trans (Same.new hp1)).trans (Same.new hp2)) hP.tup.tup.tup (SqT.of upd_same)⟩
    rw [if_neg (by omega)]
    rw [if_neg d2] at k
    exact ⟨w1, two_le_line, fun p2 hp2 => k _ p2 (((Same.new hp).trans (Same.new hp1)).trans (Same.new hp2)) hP.tup.tup.tup (SqT.of upd_same)⟩
end
end Wk
set_option linter.all false
set_option Elab.async false
set_option maxRecDepth 100000
set_option maxHeartbeats 4000000
namespace Wk
open PySem PySem.Spec PyProof.Rows L2 Sig
open PySem.W (Codec)
open Sp18Neutral (fmt)
section
variable {P : Program} {w : World} {K : PySem.W.Frag} {mg : Str → Option Value} {base : Heap}
theorem sc_h : FnScope ["self", "f"] ["self", "f"] (defScope s_Plain___init__) := ⟨rfl, rfl, rfl, by decide +kernel, rfl, by decide +kernel, by decide +kernel⟩
theorem ok_h {f : Addr} {fd : FuncData} (Fn : Fun K "__init__" "Plain.__init__" s_Plain___init__ f fd) {C_Plain : Addr} (CL_Plain : Cls K C_Plain) (NA_Plain_f : NoAttr K C_Plain "f") : FnOk P w K mg base CX0 1 f fd ["self", "f"] (sp_h C_Plain) := by
  refine Fn.ok sc_h (fun vs H Q E h => ?_) (fun cdv A outer s H vs Q E hr h => ?_)
  · obtain ⟨p, dx, f, rfl, _⟩ := h; rfl
  · obtain ⟨p, dx, f, rfl, hp, k⟩ := h
    refine ⟨_, (pss_one (ps_fldK (K := K) rfl (pv 0) (pv 1) rfl)), ?_⟩
    rw [show start ["self", "f"] [V.ref p, V.int f] = [some (V.ref p), some (V.int f)] from rfl]
    simp only [tVar, sFld, List.getElem?_cons_zero, List.getElem?_cons_succ, Option.some.injEq, V.ref.injEq, exists_eq_left', exists_and_left]
    exact ⟨_, _, _, hp, CL_Plain, NA_Plain_f, (by show 0 < 1000; decide), k⟩
theorem sc_x : FnScope ["self", "bits"] ["self", "bits"] (defScope s_Plain_taken) := ⟨rfl, rfl, rfl, by decide +kernel, rfl, by decide +kernel, by decide +kernel⟩
theorem ok_x {f : Addr} {fd : FuncData} (Fn : Fun K "taken" "Plain.taken" s_Plain_taken f fd) {C_Plain : Addr} (CL_Plain : Cls K C_Plain) : FnOk P w K mg base CX0 10 f fd ["self", "bits"] (sp_x C_Plain) := by
  refine Fn.ok sc_x (fun vs H Q E h => ?_) (fun cdv A outer s H vs Q E hr h => ?_)
  · obtain ⟨p, dx, f, a, rfl, _⟩ := h; rfl
  · obtain ⟨p, dx, f, a, rfl, hp, hf, ha, hP, k⟩ := h
    refine ⟨_, (pss_one (ps_ret (pv 1))), ?_⟩
    rw [show start ["self", "bits"] [V.ref p, V.int a] = [some (V.ref p), some (V.int a)] from rfl]
    simp only [tRet, tVar, List.getElem?_cons_zero, List.getElem?_cons_succ, Option.some.injEq, exists_eq_left']
    obtain ⟨n, rfl⟩ := Int.eq_ofNat_of_zero_le ha.1
    exact k
theorem sc_ad : FnScope ["self", "a"] ["self", "a"] (defScope s_Plain_given) := ⟨rfl, rfl, rfl, by decide +kernel, rfl, by decide +kernel, by decide +kernel⟩
theorem ok_ad {f : Addr} {fd : FuncData} (Fn : Fun K "given" "Plain.given" s_Plain_given f fd) {C_Plain : Addr} (CL_Plain : Cls K C_Plain) (D_ca : Def P w K mg base "told" 2 ["f", "a"] sp_ca) (NA_Plain_f : NoAttr K C_Plain "f") : FnOk P w K mg base CX0 10 f fd ["self", "a"] (sp_ad C_Plain) := by
  refine Fn.ok sc_ad (fun vs H Q E h => ?_) (fun cdv A outer s H vs Q E hr h => ?_)
  · obtain ⟨p, dx, f, a, rfl, _⟩ := h; rfl
  · obtain ⟨p, dx, f, a, rfl, hp, hf, ha, hP, k⟩ := h
    refine ⟨_, (pss_one (ps_ret (pe_def D_ca rfl (hr.mono (by decide)) pass0 (pa_cons (pe_fldK (K := K) rfl (pv 0) rfl) (pa_cons (pv 1) pa_nil))))), ?_⟩
    rw [show start ["self", "a"] [V.ref p, V.int a] = [some (V.ref p), some (V.int a)] from rfl]
    simp only [tRet, tVar, tCall, tCons, tNil, tFld, List.append_nil, List.getElem?_cons_zero, List.getElem?_cons_succ, Option.some.injEq, V.ref.injEq, exists_eq_left', exists_and_left]
    exact ⟨_, _, _, hp, CL_Plain, NA_Plain_f, _, plF_f f, f, a, rfl, hf, ha, hP, k⟩
theorem sc_w : FnScope ["self", "bits"] ["self", "bits"] (defScope s_Plain_factor) := ⟨rfl, rfl, rfl, by decide +kernel, rfl, by decide +kernel, by decide +kernel⟩
theorem ok_w {f : Addr} {fd : FuncData} (Fn : Fun K "factor" "Plain.factor" s_Plain_factor f fd) {C_Plain : Addr} (CL_Plain : Cls K C_Plain) : FnOk P w K mg base CX0 10 f fd ["self", "bits"] (sp_w C_Plain) := by
  refine Fn.ok sc_w (fun vs H Q E h => ?_) (fun cdv A outer s H vs Q E hr h => ?_)
  · obtain ⟨p, dx, f, a, rfl, _⟩ := h; rfl
  · obtain ⟨p, dx, f, a, rfl, hp, hf, ha, hP, k⟩ := h
    refine ⟨_, (pss_one (ps_ret (pv 1))), ?_⟩
    rw [show start ["self", "bits"] [V.ref p, V.int a] = [some (V.ref p), some (V.int a)] from rfl]
    simp only [tRet, tVar, List.getElem?_cons_zero, List.getElem?_cons_succ, Option.some.injEq, exists_eq_left']
    obtain ⟨n, rfl⟩ := Int.eq_ofNat_of_zero_le ha.1
    exact k
theorem sc_aj : FnScope ["self", "a", "b"] ["self", "a", "b"] (defScope s_Plain_plus) := ⟨rfl, rfl, rfl, by decide +kernel, rfl, by decide +kernel, by decide +kernel⟩
theorem ok_aj {f : Addr} {fd : FuncData} (Fn : Fun K "plus" "Plain.plus" s_Plain_plus f fd) {C_Plain : Addr} (CL_Plain : Cls K C_Plain) (D_cb : Def P w K mg base "add" 3 ["f", "a", "b"] sp_cb) (NA_Plain_f : NoAttr K C_Plain "f") : FnOk P w K mg base CX0 10 f fd ["self", "a", "b"] (sp_aj C_Plain) := by
  refine Fn.ok sc_aj (fun vs H Q E h => ?_) (fun cdv A outer s H vs Q E hr h => ?_)
  · obtain ⟨p, dx, f, a, b, rfl, _⟩ := h; rfl
  · obtain ⟨p, dx, f, a, b, rfl, hp, hf, ha, hb, hP, k⟩ := h
    refine ⟨_, (pss_one (ps_ret (pe_def D_cb rfl (hr.mono (by decide)) pass0 (pa_cons (pe_fldK (K := K) rfl (pv 0) rfl) (pa_cons (pv 1) (pa_cons (pv 2) pa_nil)))))), ?_⟩
    rw [show start ["self", "a", "b"] [V.ref p, V.int a, V.int b] = [some (V.ref p), some (V.int a), some (V.int b)] from rfl]
    simp only [tRet, tVar, tCall, tCons, tNil, tFld, List.append_nil, List.getElem?_cons_zero, List.getElem?_cons_succ, Option.some.injEq, V.ref.injEq, exists_eq_left', exists_and_left]
    exact ⟨_, _, _, hp, CL_Plain, NA_Plain_f, _, plF_f f, f, a, b, rfl, hf, ha, hb, hP, k⟩
theorem sc_ai : FnScope ["self", "a", "b"] ["self", "a", "b"] (defScope s_Plain_less) := ⟨rfl, rfl, rfl, by decide +kernel, rfl, by decide +kernel, by decide +kernel⟩
theorem ok_ai {f : Addr} {fd : FuncData} (Fn : Fun K "less" "Plain.less" s_Plain_less f fd) {C_Plain : Addr} (CL_Plain : Cls K C_Plain) (D_bd : Def P w K mg base "subtract" 4 ["f", "a", "b"] sp_bd) (NA_Plain_f : NoAttr K C_Plain "f") : FnOk P w K mg base CX0 10 f fd ["self", "a", "b"] (sp_ai C_Plain) := by
  refine Fn.ok sc_ai (fun vs H Q E h => ?_) (fun cdv A outer s H vs Q E hr h => ?_)
  · obtain ⟨p, dx, f, a, b, rfl, _⟩ := h; rfl
  · obtain ⟨p, dx, f, a, b, rfl, hp, hf, ha, hb, hP, k⟩ := h
    refine ⟨_, (pss_one (ps_ret (pe_def D_bd rfl (hr.mono (by decide)) pass0 (pa_cons (pe_fldK (K := K) rfl (pv 0) rfl) (pa_cons (pv 1) (pa_cons (pv 2) pa_nil)))))), ?_⟩
    rw [show start ["self", "a", "b"] [V.ref p, V.int a, V.int b] = [some (V.ref p), some (V.int a), some (V.int b)] from rfl]
    simp only [tRet, tVar, tCall, tCons, tNil, tFld, List.append_nil, List.getElem?_cons_zero, List.getElem?_cons_succ, Option.some.injEq, V.ref.injEq, exists_eq_left', exists_and_left]
    exact ⟨_, _, _, hp, CL_Plain, NA_Plain_f, _, plF_f f, f, a, b, rfl, hf, ha, hb, hP, k⟩
theorem sc_aa : FnScope ["self", "a", "c"] ["self", "a", "c"] (defScope s_Plain_times) := ⟨rfl, rfl, rfl, by decide +kernel, rfl, by decide +kernel, by decide +kernel⟩
theorem ok_aa {f : Addr} {fd : FuncData} (Fn : Fun K "times" "Plain.times" s_Plain_times f fd) {C_Plain : Addr} (CL_Plain : Cls K C_Plain) (D_az : Def P w K mg base "multiply" 2 ["f", "a", "b"] sp_az) (NA_Plain_f : NoAttr K C_Plain "f") : FnOk P w K mg base CX0 10 f fd ["self", "a", "c"] (sp_aa C_Plain) := by
  refine Fn.ok sc_aa (fun vs H Q E h => ?_) (fun cdv A outer s H vs Q E hr h => ?_)
  · obtain ⟨p, dx, f, a, b, rfl, _⟩ := h; rfl
  · obtain ⟨p, dx, f, a, b, rfl, hp, hf, ha, hb, hP, k⟩ := h
    refine ⟨_, (pss_one (ps_ret (pe_def D_az rfl (hr.mono (by decide)) pass0 (pa_cons (pe_fldK (K := K) rfl (pv 0) rfl) (pa_cons (pv 1) (pa_cons (pv 2) pa_nil)))))), ?_⟩
    rw [show start ["self", "a", "c"] [V.ref p, V.int a, V.int b] = [some (V.ref p), some (V.int a), some (V.int b)] from rfl]
    simp only [tRet, tVar, tCall, tCons, tNil, tFld, List.append_nil, List.getElem?_cons_zero, List.getElem?_cons_succ, Option.some.injEq, V.ref.injEq, exists_eq_left', exists_and_left]
    exact ⟨_, _, _, hp, CL_Plain, NA_Plain_f, _, plF_f f, f, a, b, rfl, hf, ha, hb, hP, k⟩
theorem sc_ac : FnScope ["self", "a"] ["self", "a"] (defScope s_Plain_minus) := ⟨rfl, rfl, rfl, by decide +kernel, rfl, by decide +kernel, by decide +kernel⟩
theorem ok_ac {f : Addr} {fd : FuncData} (Fn : Fun K "minus" "Plain.minus" s_Plain_minus f fd) {C_Plain : Addr} (CL_Plain : Cls K C_Plain) (D_ax : Def P w K mg base "opposite" 3 ["f", "a"] sp_ax) (NA_Plain_f : NoAttr K C_Plain "f") : FnOk P w K mg base CX0 10 f fd ["self", "a"] (sp_ac C_Plain) := by
  refine Fn.ok sc_ac (fun vs H Q E h => ?_) (fun cdv A outer s H vs Q E hr h => ?_)
  · obtain ⟨p, dx, f, a, rfl, _⟩ := h; rfl
  · obtain ⟨p, dx, f, a, rfl, hp, hf, ha, hP, k⟩ := h
    refine ⟨_, (pss_one (ps_ret (pe_def D_ax rfl (hr.mono (by decide)) pass0 (pa_cons (pe_fldK (K := K) rfl (pv 0) rfl) (pa_cons (pv 1) pa_nil))))), ?_⟩
    rw [show start ["self", "a"] [V.ref p, V.int a] = [some (V.ref p), some (V.int a)] from rfl]
    simp only [tRet, tVar, tCall, tCons, tNil, tFld, List.append_nil, List.getElem?_cons_zero, List.getElem?_cons_succ, Option.some.injEq, V.ref.injEq, exists_eq_left', exists_and_left]
    exact ⟨_, _, _, hp, CL_Plain, NA_Plain_f, _, plF_f f, f, a, rfl, hf, ha, hP, k⟩
theorem sc_bi : FnScope ["f", "bits", "places", "size", "m", "power", "number"] ["f", "bits", "places"] (defScope s_counted) := ⟨rfl, rfl, rfl, by decide +kernel, rfl, by decide +kernel, by decide +kernel⟩
theorem ok_bi {f : Addr} {fd : FuncData} (Fn : Fun K "counted" "counted" s_counted f fd) (T_ao : Tab K mg "SIZE_BITS" (fun F => ((HB F : Nat) : Int) - 1)) (D_bt : Def P w K mg base "parts" 1 ["f", "size"] sp_bt) : FnOk P w K mg base CX0 2 f fd ["f", "bits", "places"] sp_bi := by
  refine forgetV ?_
  refine Fn.ok sc_bi (fun vs H Q E h => ?_) (fun cdv A outer s H vs Q E hr h => ?_)
  · obtain ⟨i, rfl, _⟩ := h; rfl
  · obtain ⟨⟨f, b, q⟩, rfl, ⟨hf, hb, he, hq⟩, hP, k⟩ := h
    dsimp only at hf hb he hq k
    refine ⟨_, (pss_cons (ps_set (i := 3) sc_bi.nd rfl (by first | exact Or.inl rfl | exact Or.inr rfl) (pe_op op_and (pv 1) (pe_tab T_ao rfl (pv 0) (fun _ _ => rfl))))
      (pss_cons (ps_asg (pe_def D_bt rfl (hr.mono (by decide)) pass0 (pa_cons (pv 0) (pa_cons (pv 3) pa_nil))) (pg_pair rfl (pg_name (i := 4) sc_bi.nd rfl (by first | exact Or.inl rfl | exact Or.inr rfl)) (pg_name (i := 5) sc_bi.nd rfl (by first | exact Or.inl rfl | exact Or.inr rfl))))
      (pss_cons (ps_set (i := 6) sc_bi.nd rfl (by first | exact Or.inl rfl | exact Or.inr rfl) (pe_op op_shl (pv 4) (pe_op op_add (pv 5) (pv 2))))
      (pss_one (ps_ret (pe_ifP (pt_cmpR op_eq (pv 1) (pv 3) (nomark _)) (pv 6) (pe_un un_neg (pv 6)))))))), ?_⟩
    rw [show start ["f", "bits", "places", "size", "m", "power", "number"] [V.int f, V.int (b : Nat), V.int (q : Nat)] = [some (V.int f), some (V.int (b : Nat)), some (V.int (q : Nat)), none, none, none, none] from rfl]
    have hns : b = mag (fmt f) b ↔ sgn (fmt f) b = false := by rw [← ne_size hb, Int.natCast_inj]
    simp only [tSeq, tAsg, gName, tRet, tVar, tOp, tUn, rI, rI0, rU, tTest, tCall, tCons, tNil, tTab, tIfP, leibB, leibV, iteV, iteI, upd_same, HO.tup.injEq, gTup2, rEq, scal, List.append_nil, List.set_cons_zero, List.set_cons_succ, List.getElem?_cons_zero, List.getElem?_cons_succ, Option.some.injEq, V.int.injEq, V.bl.injEq, V.ref.injEq, List.cons.injEq, and_assoc, exists_eq_left', exists_eq_left, exists_and_left, and_true, true_and, decide_eq_true_eq, Int.toNat_natCast, hP, hf, p_size, Int.ofNat_lt, Int.natCast_inj, Int.natCast_nonneg, sp_bt, mag_lt, CPow]
    have hm1 := mant_bd hf.std (mag (fmt f) b)
    have he1 := expo_bd hf.std (mag_lt (fmt f) b)
    have kk : ∀ H1, Same H H1 → Q (.int (cntF (fmt f) q b)) H1 := k
    unfold cntF Sp18.signed at kk
    intro p hp
    refine ⟨he, by omega, by omega, ?_⟩
    have q9 := kk _ (Same.new (o := .tup [V.int (mant (fmt f) (mag (fmt f) b) : Nat), V.int (expo (fmt f) (mag (fmt f) b))]) hp)
    rw [Int.natCast_mul, Int.natCast_pow] at q9
    by_cases c : b = mag (fmt f) b
    · rw [if_pos c]; rw [if_neg (by rw [hns.mp c]; decide)] at q9; exact q9
    · rw [if_neg c]; rw [if_pos (by cases z : sgn (fmt f) b with | true => rfl | false => exact absurd (hns.mpr z) c)] at q9; exact q9
theorem sc_bo : FnScope ["a", "width", "places", "drop", "twice", "kept"] ["a", "width", "places"] (defScope s_fitted) := ⟨rfl, rfl, rfl, by decide +kernel, rfl, by decide +kernel, by decide +kernel⟩
theorem ok_bo {f : Addr} {fd : FuncData} (Fn : Fun K "fitted" "fitted" s_fitted f fd) {t_ROOM : Nat} (G_bx : mg "ROOM" = some (.int (64) t_ROOM)) : FnOk P w K mg base CX0 1 f fd ["a", "width", "places"] sp_bo := by
  refine Fn.ok sc_bo (fun vs H Q E h => ?_) (fun cdv A outer s H vs Q E hr h => ?_)
  · obtain ⟨i, rfl, _⟩ := h; rfl
  · obtain ⟨⟨x, w, q⟩, rfl, ⟨hw1, hw2, hq, hb⟩, hP, k⟩ := h
    dsimp only at hw1 hw2 hq hb k
    refine ⟨_, (pss_cons (ps_set (i := 3) sc_bo.nd rfl (by first | exact Or.inl rfl | exact Or.inr rfl) (pe_op op_sub (pe_bm0 PySem.F.plainAttrs_int slot_int_bit_length type_int_bit_length mt_bits (pv 0)) (pv 1)))
      (pss_cons (ps_if (pt_cmpR op_lt (pv 3) (pe_op op_add (pv 2) (pe_glob (v := .int (64)) rfl G_bx ⟨_, rfl⟩)) (nomark _)) (pss_one (ps_set (i := 3) sc_bo.nd rfl (by first | exact Or.inl rfl | exact Or.inr rfl) (pe_op op_add (pv 2) (pe_glob (v := .int (64)) rfl G_bx ⟨_, rfl⟩)))) pss_nil)
      (pss_cons (ps_set (i := 4) sc_bo.nd rfl (by first | exact Or.inl rfl | exact Or.inr rfl) (pe_op op_shr (pv 0) (pe_op op_sub (pv 3) pe_int)))
      (pss_cons (ps_set (i := 5) sc_bo.nd rfl (by first | exact Or.inl rfl | exact Or.inr rfl) (pe_op op_shr (pe_op op_add (pv 4) pe_int) pe_int))
      (pss_cons (ps_if (PW.pt (pw_andP (pt_truth (pe_op op_and (pv 4) pe_int) (fun _ => rfl)) (pw_andP (pt_truth (pe_op op_and (pv 5) pe_int) (fun _ => rfl)) (pw_and1 (pt_cmpR op_eq (pe_op op_shl (pv 4) (pe_op op_sub (pv 3) pe_int)) (pv 0) (nomark _)))))) (pss_one (ps_set (i := 5) sc_bo.nd rfl (by first | exact Or.inl rfl | exact Or.inr rfl) (pe_op op_sub (pv 5) pe_int))) pss_nil)
      (pss_cons (ps_if (pt_cmpR op_eq (pv 5) pe_int (nomark _)) (pss_one (ps_ret (pe_ifP (pt_cmpR op_lt (pv 0) pe_int (nomark _)) (pe_un un_neg pe_int) pe_int))) pss_nil)
      (pss_one (ps_ret (pe_op op_shl (pv 5) (pe_op op_sub (pv 3) (pv 2))))))))))), ?_⟩
    rw [show start ["a", "width", "places", "drop", "twice", "kept"] [V.int x, V.int (w : Nat), V.int (q : Nat)] = [some (V.int x), some (V.int (w : Nat)), some (V.int (q : Nat)), none, none, none] from rfl]
    simp only [tSeq, tAsg, gName, tRet, tIfS, tNext, tVar, tC, tOp, tUn, rI, rI0, rU, tTest, tAndP, tIfP, leibB, leibV, leibBC, iteV, iteI, Bool.and_eq_true, rEq, scal, TruV, tBM0, tyV, List.set_cons_zero, List.set_cons_succ, List.getElem?_cons_zero, List.getElem?_cons_succ, Option.some.injEq, V.int.injEq, V.bl.injEq, and_assoc, exists_eq_left', exists_eq_left, exists_and_left, true_and, decide_eq_true_eq, L2.bits_eq, bitAnd_m1, CPow]
    have kk : Q (.int (fitV x w q)) H := k
    by_cases c : (bitsOf x : Int) - (w : Int) < (q : Int) + 64
    · rw [if_pos c]; exact fit_read hw1 hw2 hq hb kk _ (by unfold dropF; rw [if_pos (by omega)]; omega)
    · rw [if_neg c]; exact fit_read hw1 hw2 hq hb kk _ (by unfold dropF; rw [if_neg (by omega)]; omega)
theorem sc_aq : FnScope ["f", "row", "limit", "a"] ["f", "row", "limit"] (defScope s_all_below) := ⟨rfl, rfl, rfl, by decide +kernel, rfl, by decide +kernel, by decide +kernel⟩
theorem ok_aq {f : Addr} {fd : FuncData} (Fn : Fun K "all_below" "all_below" s_all_below f fd) (T_ao : Tab K mg "SIZE_BITS" (fun F => ((HB F : Nat) : Int) - 1)) : FnOk P w K mg base CX0 1 f fd ["f", "row", "limit"] (sp_aq K) := by
  refine Fn.ok sc_aq (fun vs H Q E h => ?_) (fun cdv A outer s H vs Q E hr h => ?_)
  · obtain ⟨f, la, a, m, rfl, _⟩ := h; rfl
  · obtain ⟨f, la, a, m, rfl, hf, hP, hx, hna, k⟩ := h
    refine ⟨_, (pss_cons (ps_for PassesOwn.never rfl (pi_listK (K := K) rfl (pv 1)) (pg_name (i := 3) sc_aq.nd rfl (by first | exact Or.inl rfl | exact Or.inr rfl)) (pss_one (ps_if (pt_cmpR op_ge (pe_op op_and (pv 3) (pe_tab T_ao rfl (pv 0) (fun _ _ => rfl))) (pv 2) (nomark _)) (pss_one (ps_ret pe_bl)) pss_nil)))
      (pss_one (ps_ret pe_bl))), ?_⟩
    rw [show start ["f", "row", "limit", "a"] [V.int f, V.ref la, V.int (m : Nat)] = [some (V.int f), some (V.ref la), some (V.int (m : Nat)), none] from rfl]
    simp only [tSeq]
    refine tFor_list (la := la) (xs := a.map V.int) (fun R r => ⟨_, rfl, r⟩) (fun i σ H1 => ∃ v : Option V, σ = [some (V.int f), some (V.ref la), some (V.int (m : Nat)), v] ∧ H1 = H ∧ ∀ z ∈ a.take i, mag (fmt f) z.toNat < m) ⟨none, rfl, rfl, by simp⟩ ?_ ?_ ?_
    · rintro i σ H1 ⟨v, rfl, rfl, hz⟩
      exact hx
    · rintro i x σ H1 ex ⟨v, rfl, rfl, hz⟩
      obtain ⟨u, eu, rfl⟩ := map_at ex
      obtain ⟨hu0, hu⟩ := hna u (List.mem_of_getElem? eu)
      obtain ⟨n, rfl⟩ := Int.eq_ofNat_of_zero_le hu0
      simp only [gName, tRet, tIfS, tNext, tVar, tC, tOp, rI0, tTest, tTab, List.set_cons_zero, List.set_cons_succ, List.getElem?_cons_zero, List.getElem?_cons_succ, Option.some.injEq, V.int.injEq, V.bl.injEq, List.cons.injEq, exists_eq_left', exists_and_left, and_true, true_and, decide_eq_true_eq, hf, p_size, Int.ofNat_le]
      by_cases c : m ≤ mag (fmt f) n
      · rw [if_pos c]
        rw [decide_eq_false (fun hh => by have := hh _ (List.mem_of_getElem? eu); rw [Int.toNat_natCast] at this; omega)] at k
        exact k
      · rw [if_neg c]
        intro z hzm
        rw [List.take_add_one, eu] at hzm
        rcases List.mem_append.mp hzm with q | q
        · exact hz z q
        · have q2 := List.mem_singleton.mp q
          rw [q2, Int.toNat_natCast]; omega
    · rintro σ H1 ⟨v, rfl, rfl, hz⟩
      simp only [tRet, tC]
      rw [List.length_map, List.take_length] at hz
      rw [decide_eq_true hz] at k
      exact k
theorem sc_f : FnScope ["self", "f", "factor_places"] ["self", "f", "factor_places"] (defScope s_Spread___init__) := ⟨rfl, rfl, rfl, by decide +kernel, rfl, by decide +kernel, by decide +kernel⟩
theorem ok_f {f : Addr} {fd : FuncData} (Fn : Fun K "__init__" "Spread.__init__" s_Spread___init__ f fd) {C_Spread : Addr} (CL_Spread : Cls K C_Spread) (T_ab : Tab K mg "LEAST_POWER" (fun F => F.least)) (T_i : Tab K mg "FRACTION_WIDTH" (fun F => ((F.p - 1 : Nat) : Int))) {t_ROOM : Nat} (G_bx : mg "ROOM" = some (.int (64) t_ROOM)) (NA_Spread_f : NoAttr K C_Spread "f") (NA_Spread_places : NoAttr K C_Spread "places") (NA_Spread_width : NoAttr K C_Spread "width") (NA_Spread_factor_places : NoAttr K C_Spread "factor_places") : FnOk P w K mg base CX0 1 f fd ["self", "f", "factor_places"] (sp_f C_Spread) := by
  refine Fn.ok sc_f (fun vs H Q E h => ?_) (fun cdv A outer s H vs Q E hr h => ?_)
  · obtain ⟨p, dx, f, q, rfl, _⟩ := h; rfl
  · obtain ⟨p, dx, f, q, rfl, hf, hp, k⟩ := h
    refine ⟨_, (pss_cons (ps_fldK (K := K) rfl (pv 0) (pv 1) rfl)
      (pss_cons (ps_fldK (K := K) rfl (pv 0) (pe_op op_sub (pe_glob (v := .int (64)) rfl G_bx ⟨_, rfl⟩) (pe_tab T_ab rfl (pv 1) (fun _ _ => rfl))) rfl)
      (pss_cons (ps_fldK (K := K) rfl (pv 0) (pe_op op_add (pe_tab T_i rfl (pv 1) (fun _ _ => rfl)) pe_int) rfl)
      (pss_one (ps_fldK (K := K) rfl (pv 0) (pv 2) rfl))))), ?_⟩
    rw [show start ["self", "f", "factor_places"] [V.ref p, V.int f, V.int (q : Nat)] = [some (V.ref p), some (V.int f), some (V.int (q : Nat))] from rfl]
    simp only [tSeq, tVar, tC, tOp, rI0, tTab, upd_same, sFld, List.getElem?_cons_zero, List.getElem?_cons_succ, Option.some.injEq, V.int.injEq, V.ref.injEq, exists_eq_left', exists_and_left, true_and, hf]
    have hpw : (((fmt f).p - 1 : Nat) : Int) + 1 = ((fmt f).p : Nat) := by have := p_bd hf.std; omega
    refine ⟨_, _, _, hp, CL_Spread, NA_Spread_f, (by show 0 < 1000; decide), _, _, _, rfl, CL_Spread, NA_Spread_places, len1 _ _, _, _, _, rfl, CL_Spread, NA_Spread_width, len2 _ _ _ _, _, _, _, rfl, CL_Spread, NA_Spread_factor_places, len3 _ _ _ _ _ _, k _ (fun b o hb e => ?_) (fun b hb e => ?_) ?_⟩
    · rw [upd_ne hb, upd_ne hb, upd_ne hb, upd_ne hb]; exact e
    · rw [upd_ne hb, upd_ne hb, upd_ne hb, upd_ne hb]; exact e
    · rw [upd_same, hpw]; rfl
theorem sc_v : FnScope ["self", "bits"] ["self", "bits"] (defScope s_Spread_taken) := ⟨rfl, rfl, rfl, by decide +kernel, rfl, by decide +kernel, by decide +kernel⟩
theorem ok_v {f : Addr} {fd : FuncData} (Fn : Fun K "taken" "Spread.taken" s_Spread_taken f fd) {C_Spread : Addr} (CL_Spread : Cls K C_Spread) (T_av : Tab K mg "SIGN_BIT" (fun F => ((HB F : Nat) : Int))) (D_bi : Def P w K mg base "counted" 2 ["f", "bits", "places"] sp_bi) (NA_Spread_f : NoAttr K C_Spread "f") (NA_Spread_places : NoAttr K C_Spread "places") : FnOk P w K mg base CX0 10 f fd ["self", "bits"] (sp_v C_Spread) := by
  refine Fn.ok sc_v (fun vs H Q E h => ?_) (fun cdv A outer s H vs Q E hr h => ?_)
  · obtain ⟨p, f, q, b, rfl, _⟩ := h; rfl
  · obtain ⟨p, f, q, b, rfl, ⟨dx, hp⟩, hf, hb, hm, hP, k⟩ := h
    refine ⟨_, (pss_cons (ps_if (pt_cmpR op_eq (pv 1) pe_int (nomark _)) (pss_one (ps_ret pe_int)) pss_nil)
      (pss_cons (ps_if (pt_cmpR op_eq (pv 1) (pe_tab T_av rfl (pe_fldK (K := K) rfl (pv 0) rfl) (fun _ _ => rfl)) (nomark _)) (pss_one (ps_ret (pe_un un_neg pe_int))) pss_nil)
      (pss_one (ps_ret (pe_def D_bi rfl (hr.mono (by decide)) pass0 (pa_cons (pe_fldK (K := K) rfl (pv 0) rfl) (pa_cons (pv 1) (pa_cons (pe_fldK (K := K) rfl (pv 0) rfl) pa_nil)))))))), ?_⟩
    rw [show start ["self", "bits"] [V.ref p, V.int (b : Nat)] = [some (V.ref p), some (V.int (b : Nat))] from rfl]
    simp only [tSeq, tRet, tIfS, tNext, tVar, tC, tOp, tUn, rU, tTest, tCall, tCons, tNil, tTab, rEq, scal, tFld, List.append_nil, List.getElem?_cons_zero, List.getElem?_cons_succ, Option.some.injEq, V.int.injEq, V.bl.injEq, V.ref.injEq, exists_eq_left', exists_and_left, true_and, decide_eq_true_eq]
    have hHB := hb_pos (fmt f)
    have hns := bits_split hb
    have e2 : NN (fmt f) b = if mag (fmt f) b = 0 then (if sgn (fmt f) b = true then -1 else 1) else NN (fmt f) b := by rcases NN_eq (F := fmt f) b with ⟨h1, h2, _⟩ | ⟨h1, h2, _⟩ <;> first | (rw [if_pos h1]; exact h2) | rw [if_neg h1]
    by_cases c : b = 0
    · rw [if_pos (by omega)]
      have e3 : mag (fmt f) b = 0 := by rw [c]; exact Nat.zero_mod _
      have e4 : sgn (fmt f) b = false := by have := sgn_mag (fmt f) b; rwa [e3, ← c] at this
      rw [e2, if_pos e3, e4] at k; exact k
    rw [if_neg (by omega)]
    refine ⟨_, _, _, hp, CL_Spread, NA_Spread_f, _, spF_f f q, f, rfl, hf, ?_⟩
    by_cases c2 : b = HB (fmt f)
    · rw [if_pos (by omega)]
      have e3 : mag (fmt f) b = 0 := by rw [c2]; exact Nat.mod_self _
      have e4 : sgn (fmt f) b = true := (sgn_true hb).mpr (by omega)
      rw [e2, if_pos e3, e4] at k; exact k
    rw [if_neg (by omega)]
    have e3 : mag (fmt f) b ≠ 0 := fun z => by
      cases hs : sgn (fmt f) b with
      | true => rw [z, hs, signBit_t] at hns; omega
      | false => rw [z, hs, signBit_f] at hns; omega
    have hl := least_bd hf.std
    have hq : ((64 - (fmt f).least).toNat : Int) = 64 - (fmt f).least := by omega
    have hge := expo_ge (fmt f) (mag (fmt f) b)
    refine ⟨_, _, _, hp, CL_Spread, NA_Spread_f, _, spF_f f q, _, _, _, hp, CL_Spread, NA_Spread_places, _, spF_p f q, (f, b, (64 - (fmt f).least).toNat), by show [V.int f, V.int (b : Nat), V.int (64 - (fmt f).least)] = [V.int f, V.int (b : Nat), V.int ((64 - (fmt f).least).toNat : Nat)]; rw [hq], ⟨hf, hb, by show 0 ≤ expo (fmt f) (mag (fmt f) b) + ((64 - (fmt f).least).toNat : Int); omega, by show (64 - (fmt f).least).toNat ≤ 5000; omega⟩, hP, ?_⟩
    show Q (.int (cntF (fmt f) (64 - (fmt f).least).toNat b)) H
    rw [cnt_NN e3 hq]; exact k
theorem sc_u : FnScope ["self", "a", "sign", "size"] ["self", "a"] (defScope s_Spread_given) := ⟨rfl, rfl, rfl, by decide +kernel, rfl, by decide +kernel, by decide +kernel⟩
theorem ok_u {f : Addr} {fd : FuncData} (Fn : Fun K "given" "Spread.given" s_Spread_given f fd) {C_Spread : Addr} (CL_Spread : Cls K C_Spread) (T_av : Tab K mg "SIGN_BIT" (fun F => ((HB F : Nat) : Int))) (D_bj : Def P w K mg base "rounded" 1 ["f", "sign", "m", "power"] sp_bj) (NA_Spread_f : NoAttr K C_Spread "f") (NA_Spread_places : NoAttr K C_Spread "places") (B_abs : mg "abs" = none) : FnOk P w K mg base CX0 10 f fd ["self", "a"] (sp_u C_Spread) := by
  refine Fn.ok sc_u (fun vs H Q E h => ?_) (fun cdv A outer s H vs Q E hr h => ?_)
  · obtain ⟨p, f, q, b, rfl, _⟩ := h; rfl
  · obtain ⟨p, f, q, b, rfl, ⟨dx, hp⟩, hf, hb, hm, hP, k⟩ := h
    refine ⟨_, (pss_cons (ps_set (i := 2) sc_u.nd rfl (by first | exact Or.inl rfl | exact Or.inr rfl) (pe_ifP (pt_cmpR op_lt (pv 1) pe_int (nomark _)) (pe_tab T_av rfl (pe_fldK (K := K) rfl (pv 0) rfl) (fun _ _ => rfl)) pe_int))
      (pss_cons (ps_set (i := 3) sc_u.nd rfl (by first | exact Or.inl rfl | exact Or.inr rfl) (pe_callB call_abs rfl B_abs boot_abs (pa_cons (pv 1) pa_nil)))
      (pss_one (ps_ret (pe_ifP (pt_cmpR op_eq (pv 3) pe_int (nomark _)) (pv 2) (pe_def D_bj rfl (hr.mono (by decide)) pass0 (pa_cons (pe_fldK (K := K) rfl (pv 0) rfl) (pa_cons (pv 2) (pa_cons (pv 3) (pa_cons (pe_un un_neg (pe_fldK (K := K) rfl (pv 0) rfl)) pa_nil)))))))))), ?_⟩
    rw [show start ["self", "a", "sign", "size"] [V.ref p, V.int (NN (fmt f) b)] = [some (V.ref p), some (V.int (NN (fmt f) b)), none, none] from rfl]
    simp only [tSeq, tAsg, gName, tRet, tVar, tC, tOp, tUn, rI0, rU, tTest, tCall, tCons, tNil, tCB, tTab, tIfP, leibB, leibV, rEq, scal, tFld, List.append_nil, List.set_cons_zero, List.set_cons_succ, List.getElem?_cons_zero, List.getElem?_cons_succ, Option.some.injEq, V.int.injEq, V.bl.injEq, V.ref.injEq, List.cons.injEq, exists_eq_left', exists_eq_left, exists_and_left, and_true, true_and, decide_eq_true_eq]
    have hab : (if NN (fmt f) b < 0 then -NN (fmt f) b else NN (fmt f) b) = ((NN (fmt f) b).natAbs : Int) := by split <;> omega
    rw [hab, NN_abs]
    have hng := NN_neg (F := fmt f) b
    have hns := bits_split hb
    refine ⟨.int (Sp18.signBit (fmt f) (sgn (fmt f) b) : Nat), ?_, .int (b : Nat), ?_, k⟩
    · by_cases c : NN (fmt f) b < 0
      · rw [if_pos c]
        intro R r
        rw [hng.mp c, signBit_t] at r
        exact ⟨_, _, _, hp, CL_Spread, NA_Spread_f, _, spF_f f q, f, rfl, hf, r⟩
      · rw [if_neg c, show sgn (fmt f) b = false by cases z : sgn (fmt f) b with | false => rfl | true => exact absurd (hng.mpr z) c, signBit_f]; rfl
    · by_cases c : mag (fmt f) b = 0
      · rw [if_pos c, if_pos (by rfl)]
        rw [c, Nat.add_zero] at hns
        rw [← hns]
      · have hv : val (fmt f) (mag (fmt f) b) ≠ 0 := fun z => c (val_eq_zero.mp z)
        have hpos : 1 < val (fmt f) (mag (fmt f) b) * 2 ^ 64 := by have := Nat.mul_le_mul_right (2 ^ 64) (show 1 ≤ val (fmt f) (mag (fmt f) b) by omega); omega
        rw [if_neg c, if_neg (by omega)]
        intro R r
        have hl := least_bd hf.std
        refine ⟨_, _, _, hp, CL_Spread, NA_Spread_f, _, spF_f f q, _, _, _, hp, CL_Spread, NA_Spread_places, _, spF_p f q, _, rfl, f, _, _, sgn (fmt f) b, rfl, hf, by omega, ?_, by omega, by omega, hP, ?_⟩
        · rw [Int.toNat_natCast]; exact val_log hf.std hm
        · rw [Int.toNat_natCast, show -(64 - (fmt f).least) = (fmt f).least - 64 by omega, give_round hf.std hb hm c]; exact r
theorem sc_k : FnScope ["self", "bits"] ["self", "bits"] (defScope s_Spread_factor) := ⟨rfl, rfl, rfl, by decide +kernel, rfl, by decide +kernel, by decide +kernel⟩
theorem ok_k {f : Addr} {fd : FuncData} (Fn : Fun K "factor" "Spread.factor" s_Spread_factor f fd) {C_Spread : Addr} (CL_Spread : Cls K C_Spread) (D_bi : Def P w K mg base "counted" 2 ["f", "bits", "places"] sp_bi) (NA_Spread_factor_places : NoAttr K C_Spread "factor_places") (NA_Spread_f : NoAttr K C_Spread "f") : FnOk P w K mg base CX0 10 f fd ["self", "bits"] (sp_k C_Spread) := by
  refine Fn.ok sc_k (fun vs H Q E h => ?_) (fun cdv A outer s H vs Q E hr h => ?_)
  · obtain ⟨p, f, q, b, rfl, _⟩ := h; rfl
  · obtain ⟨p, f, q, b, rfl, ⟨dx, hp⟩, hf, hb, he, hq, hP, k⟩ := h
    refine ⟨_, (pss_one (ps_ret (pe_def D_bi rfl (hr.mono (by decide)) pass0 (pa_cons (pe_fldK (K := K) rfl (pv 0) rfl) (pa_cons (pv 1) (pa_cons (pe_fldK (K := K) rfl (pv 0) rfl) pa_nil)))))), ?_⟩
    rw [show start ["self", "bits"] [V.ref p, V.int (b : Nat)] = [some (V.ref p), some (V.int (b : Nat))] from rfl]
    simp only [tRet, tVar, tCall, tCons, tNil, tFld, List.append_nil, List.getElem?_cons_zero, List.getElem?_cons_succ, Option.some.injEq, V.ref.injEq, exists_eq_left', exists_and_left]
    exact ⟨_, _, _, hp, CL_Spread, NA_Spread_f, _, spF_f f q, _, _, _, hp, CL_Spread, NA_Spread_factor_places, _, spF_q f q, (f, b, q), rfl, ⟨hf, hb, he, by show q ≤ 5000; omega⟩, hP, k⟩
theorem sc_y : FnScope ["self", "a", "b"] ["self", "a", "b"] (defScope s_Spread_plus) := ⟨rfl, rfl, rfl, by decide +kernel, rfl, by decide +kernel, by decide +kernel⟩
theorem ok_y {f : Addr} {fd : FuncData} (Fn : Fun K "plus" "Spread.plus" s_Spread_plus f fd) {C_Spread : Addr} (CL_Spread : Cls K C_Spread) (D_bo : Def P w K mg base "fitted" 1 ["a", "width", "places"] sp_bo) (NA_Spread_width : NoAttr K C_Spread "width") : FnOk P w K mg base CX0 10 f fd ["self", "a", "b"] (sp_y C_Spread) := by
  refine Fn.ok sc_y (fun vs H Q E h => ?_) (fun cdv A outer s H vs Q E hr h => ?_)
  · obtain ⟨p, f, q, x, y, rfl, _⟩ := h; rfl
  · obtain ⟨p, f, q, x, y, rfl, ⟨dx, hp⟩, hf, hb, hP, k⟩ := h
    refine ⟨_, (pss_one (ps_ret (pe_def D_bo rfl (hr.mono (by decide)) pass0 (pa_cons (pe_op op_add (pv 1) (pv 2)) (pa_cons (pe_fldK (K := K) rfl (pv 0) rfl) (pa_cons pe_int pa_nil)))))), ?_⟩
    rw [show start ["self", "a", "b"] [V.ref p, V.int x, V.int y] = [some (V.ref p), some (V.int x), some (V.int y)] from rfl]
    simp only [tRet, tVar, tC, tOp, rI0, tCall, tCons, tNil, tFld, List.append_nil, List.getElem?_cons_zero, List.getElem?_cons_succ, Option.some.injEq, V.int.injEq, V.ref.injEq, exists_eq_left', exists_and_left]
    have hpb := p_bd hf.std
    exact ⟨_, _, _, hp, CL_Spread, NA_Spread_width, _, spF_w f q, (_, (fmt f).p, 0), rfl, ⟨hpb.1, hpb.2, by show 0 ≤ 5000; decide, hb⟩, hP, k⟩
theorem sc_af : FnScope ["self", "a", "b"] ["self", "a", "b"] (defScope s_Spread_less) := ⟨rfl, rfl, rfl, by decide +kernel, rfl, by decide +kernel, by decide +kernel⟩
theorem ok_af {f : Addr} {fd : FuncData} (Fn : Fun K "less" "Spread.less" s_Spread_less f fd) {C_Spread : Addr} (CL_Spread : Cls K C_Spread) (D_bo : Def P w K mg base "fitted" 1 ["a", "width", "places"] sp_bo) (NA_Spread_width : NoAttr K C_Spread "width") : FnOk P w K mg base CX0 10 f fd ["self", "a", "b"] (sp_af C_Spread) := by
  refine Fn.ok sc_af (fun vs H Q E h => ?_) (fun cdv A outer s H vs Q E hr h => ?_)
  · obtain ⟨p, f, q, x, y, rfl, _⟩ := h; rfl
  · obtain ⟨p, f, q, x, y, rfl, ⟨dx, hp⟩, hf, hb, hP, k⟩ := h
    refine ⟨_, (pss_one (ps_ret (pe_def D_bo rfl (hr.mono (by decide)) pass0 (pa_cons (pe_op op_sub (pv 1) (pv 2)) (pa_cons (pe_fldK (K := K) rfl (pv 0) rfl) (pa_cons pe_int pa_nil)))))), ?_⟩
    rw [show start ["self", "a", "b"] [V.ref p, V.int x, V.int y] = [some (V.ref p), some (V.int x), some (V.int y)] from rfl]
    simp only [tRet, tVar, tC, tOp, rI0, tCall, tCons, tNil, tFld, List.append_nil, List.getElem?_cons_zero, List.getElem?_cons_succ, Option.some.injEq, V.int.injEq, V.ref.injEq, exists_eq_left', exists_and_left]
    have hpb := p_bd hf.std
    exact ⟨_, _, _, hp, CL_Spread, NA_Spread_width, _, spF_w f q, (_, (fmt f).p, 0), rfl, ⟨hpb.1, hpb.2, by show 0 ≤ 5000; decide, hb⟩, hP, k⟩
theorem sc_r : FnScope ["self", "a", "c"] ["self", "a", "c"] (defScope s_Spread_times) := ⟨rfl, rfl, rfl, by decide +kernel, rfl, by decide +kernel, by decide +kernel⟩
theorem ok_r {f : Addr} {fd : FuncData} (Fn : Fun K "times" "Spread.times" s_Spread_times f fd) {C_Spread : Addr} (CL_Spread : Cls K C_Spread) (D_bo : Def P w K mg base "fitted" 1 ["a", "width", "places"] sp_bo) (NA_Spread_factor_places : NoAttr K C_Spread "factor_places") (NA_Spread_width : NoAttr K C_Spread "width") : FnOk P w K mg base CX0 10 f fd ["self", "a", "c"] (sp_r C_Spread) := by
  refine Fn.ok sc_r (fun vs H Q E h => ?_) (fun cdv A outer s H vs Q E hr h => ?_)
  · obtain ⟨p, f, q, x, y, rfl, _⟩ := h; rfl
  · obtain ⟨p, f, q, x, y, rfl, ⟨dx, hp⟩, hf, hq, h1, h2, hb, hP, k⟩ := h
    refine ⟨_, (pss_one (ps_ret (pe_def D_bo rfl (hr.mono (by decide)) pass0 (pa_cons (pe_op op_mulG (pv 1) (pv 2)) (pa_cons (pe_fldK (K := K) rfl (pv 0) rfl) (pa_cons (pe_fldK (K := K) rfl (pv 0) rfl) pa_nil)))))), ?_⟩
    rw [show start ["self", "a", "c"] [V.ref p, V.int x, V.int y] = [some (V.ref p), some (V.int x), some (V.int y)] from rfl]
    simp only [tRet, tVar, tOp, rI, tCall, tCons, tNil, tFld, List.append_nil, List.getElem?_cons_zero, List.getElem?_cons_succ, Option.some.injEq, V.int.injEq, V.ref.injEq, and_assoc, exists_eq_left', exists_and_left, CMulG]
    have hpb := p_bd hf.std
    exact ⟨by rw [L2.bits_eq]; omega, by rw [L2.bits_eq]; omega, _, _, _, hp, CL_Spread, NA_Spread_width, _, spF_w f q, _, _, _, hp, CL_Spread, NA_Spread_factor_places, _, spF_q f q, (_, (fmt f).p, q), rfl, ⟨hpb.1, hpb.2, by show q ≤ 5000; omega, hb⟩, hP, k⟩
theorem sc_n : FnScope ["self", "a"] ["self", "a"] (defScope s_Spread_minus) := ⟨rfl, rfl, rfl, by decide +kernel, rfl, by decide +kernel, by decide +kernel⟩
theorem ok_n {f : Addr} {fd : FuncData} (Fn : Fun K "minus" "Spread.minus" s_Spread_minus f fd) {C_Spread : Addr} (CL_Spread : Cls K C_Spread) : FnOk P w K mg base CX0 10 f fd ["self", "a"] (sp_n C_Spread) := by
  refine Fn.ok sc_n (fun vs H Q E h => ?_) (fun cdv A outer s H vs Q E hr h => ?_)
  · obtain ⟨p, f, q, x, rfl, _⟩ := h; rfl
  · obtain ⟨p, f, q, x, rfl, hp, hP, k⟩ := h
    refine ⟨_, (pss_one (ps_ret (pe_un un_neg (pv 1)))), ?_⟩
    rw [show start ["self", "a"] [V.ref p, V.int x] = [some (V.ref p), some (V.int x)] from rfl]
    simp only [tRet, tVar, tUn, rU, List.getElem?_cons_zero, List.getElem?_cons_succ, Option.some.injEq, V.int.injEq, exists_eq_left']
    exact k
end
end Wk
set_option linter.all false
set_option Elab.async false
set_option maxRecDepth 100000
set_option maxHeartbeats 4000000
namespace Wk
open PySem PySem.Spec PyProof.Rows L2 Sig
open PySem.W (Codec)
open Sp18Neutral (fmt)
section
variable {P : Program} {w : World} {K : PySem.W.Frag} {mg : Str → Option Value} {base : Heap}
theorem sc_bg : FnScope ["n", "p"] ["n"] (defScope s_divisor) := ⟨rfl, rfl, rfl, by decide +kernel, rfl, by decide +kernel, by decide +kernel⟩
theorem ok_bg {f : Addr} {fd : FuncData} (Fn : Fun K "divisor" "divisor" s_divisor f fd)  : FnOk P w K mg base CX0 1 f fd ["n"] sp_bg := by
  refine Fn.ok sc_bg (fun vs H Q E h => ?_) (fun cdv A outer s H vs Q E hr h => ?_)
  · obtain ⟨i, rfl, _⟩ := h; rfl
  · obtain ⟨n, rfl, ⟨hn1, hn⟩, hP, k⟩ := h
    refine ⟨_, (pss_cons (ps_if (pt_cmpR op_eq (pe_op op_mod (pv 0) pe_int) pe_int (nomark _)) (pss_one (ps_ret pe_int)) pss_nil)
      (pss_cons (ps_if (pt_cmpR op_eq (pe_op op_mod (pv 0) pe_int) pe_int (nomark _)) (pss_one (ps_ret pe_int)) pss_nil)
      (pss_cons (ps_set (i := 1) sc_bg.nd rfl (by first | exact Or.inl rfl | exact Or.inr rfl) pe_int)
      (pss_cons (ps_while PassesOwn.never (pt_cmpR op_le (pe_op op_mul (pv 1) (pv 1)) (pv 0) (nomark _)) (pss_cons (ps_if (pt_cmpR op_eq (pe_op op_mod (pv 0) (pv 1)) pe_int (nomark _)) (pss_one (ps_ret (pv 1))) pss_nil)
      (pss_one (ps_set (i := 1) sc_bg.nd rfl (by first | exact Or.inl rfl | exact Or.inr rfl) (pe_op op_add (pv 1) pe_int)))))
      (pss_one (ps_ret (pv 0))))))), ?_⟩
    rw [show start ["n", "p"] [V.int (n : Nat)] = [some (V.int (n : Nat)), none] from rfl]
    simp only [tSeq, tAsg, gName, tRet, tIfS, tNext, tVar, tC, tOp, rI, tTest, rEq, scal, List.set_cons_zero, List.set_cons_succ, List.getElem?_cons_zero, Option.some.injEq, V.int.injEq, V.bl.injEq, exists_eq_left', exists_and_left, true_and, decide_eq_true_eq]
    have kk : Q (.int (Sp18.factor n : Nat)) H := k
    unfold Sp18.factor at kk
    refine ⟨by decide, ?_⟩
    by_cases c4 : n % 4 = 0
    · rw [if_pos (by omega)]; rw [if_pos c4] at kk; exact kk
    rw [if_neg (by omega)]; rw [if_neg c4] at kk
    refine ⟨by decide, ?_⟩
    by_cases c2 : n % 2 = 0
    · rw [if_pos (by omega)]; rw [if_pos c2] at kk; exact kk
    rw [if_neg (by omega)]; rw [if_neg c2] at kk
    refine while_by (fun σ H2 => ∃ i : Nat, σ = [some (.int (n : Int)), some (.int ((3 + 2 * i : Nat) : Int))] ∧ H2 = H ∧ i ≤ n ∧ Sp18.oddFrom n n 3 = Sp18.oddFrom (n - i) n (3 + 2 * i)) (fun σ _ => match σ with | [_, some (.int r)] => n - r.toNat | _ => 0) ⟨0, rfl, rfl, Nat.zero_le _, rfl⟩ ?_ ?_
    · rintro σ H2 ⟨i, rfl, rfl, hin, ho⟩
      refine ⟨_, rfl, _, rfl, _, _, rfl, rfl, .inl ⟨by omega, by omega⟩, _, rfl, _, _, rfl, rfl, _, rfl, ?_⟩
      show if decide (_ ≤ _) = true then _ else _
      by_cases c : (3 + 2 * i) * (3 + 2 * i) ≤ n
      · have cI : ((3 + 2 * i : Nat) : Int) * ((3 + 2 * i : Nat) : Int) ≤ (n : Int) := by rw [← Int.natCast_mul]; omega
        rw [if_pos (decide_eq_true cI)]
        have hpn : 3 + 2 * i < n := by have := Nat.mul_le_mul_right (3 + 2 * i) (show 3 ≤ 3 + 2 * i by omega); omega
        obtain ⟨m, hm⟩ : ∃ m, n - i = m + 1 := ⟨n - i - 1, by omega⟩
        rw [hm] at ho
        simp only [tSeq, tAsg, gName, tRet, tIfS, tNext, tVar, tC, tOp, rI, rI0, tTest, rEq, scal, List.set_cons_zero, List.set_cons_succ, List.getElem?_cons_zero, List.getElem?_cons_succ, Option.some.injEq, V.int.injEq, V.bl.injEq, List.cons.injEq, exists_eq_left', exists_and_left, and_true, true_and, decide_eq_true_eq, Int.toNat_natCast]
        refine ⟨by omega, ?_⟩
        by_cases d : n % (3 + 2 * i) = 0
        · rw [if_pos (by rw [← Int.natCast_emod, d]; rfl)]; rw [ho, Sp18.oddFrom, if_neg (by omega), if_pos d] at kk; exact kk
        · rw [if_neg (by rw [← Int.natCast_emod]; exact fun z => d (Int.natCast_eq_zero.mp z))]
          refine ⟨⟨i + 1, ?_, by omega, ?_⟩, ?_⟩
          · rw [show 3 + 2 * (i + 1) = 3 + 2 * i + 2 by omega]; rfl
          · rw [ho, Sp18.oddFrom, if_neg (by omega), if_neg d, show n - (i + 1) = m by omega, show 3 + 2 * (i + 1) = 3 + 2 * i + 2 by omega]
          · show n - (((3 + 2 * i : Nat) : Int) + 2).toNat < n - ((3 + 2 * i : Nat) : Int).toNat
            omega
      · rw [if_neg (by rw [decide_eq_true_eq, ← Int.natCast_mul]; omega)]
        refine ⟨_, rfl, ?_⟩
        have he : Sp18.oddFrom n n 3 = n := by
          rw [ho]
          cases hm : n - i with
          | zero => rfl
          | succ m => rw [Sp18.oddFrom, if_pos (by omega)]
        rw [he] at kk; exact kk
    · rintro σ H2 Q1 Q2 hq ⟨v, h1, u, h2, i, j, h3, h4, hc, x, h5, i2, j2, h6, h7, kb, h8, h9⟩
      exact ⟨v, h1, u, h2, i, j, h3, h4, hc, x, h5, i2, j2, h6, h7, kb, h8, hq _ _ h9⟩
theorem sc_ba : FnScope ["n", "found", "p"] ["n"] (defScope s_divisors) := ⟨rfl, rfl, rfl, by decide +kernel, rfl, by decide +kernel, by decide +kernel⟩
theorem ok_ba {f : Addr} {fd : FuncData} (Fn : Fun K "divisors" "divisors" s_divisors f fd) (D_bg : Def P w K mg base "divisor" 1 ["n"] sp_bg) : FnOk P w K mg base CX0 2 f fd ["n"] (sp_ba K) := by
  refine Fn.ok sc_ba (fun vs H Q E h => ?_) (fun cdv A outer s H vs Q E hr h => ?_)
  · obtain ⟨n, rfl, _⟩ := h; rfl
  · obtain ⟨n, rfl, hn0, hn, hP, k⟩ := h
    refine ⟨_, (pss_cons (ps_set (i := 1) sc_ba.nd rfl (by first | exact Or.inl rfl | exact Or.inr rfl) (pe_lst pa_nil))
      (pss_cons (ps_while PassesOwn.never (pt_cmpR op_gt (pv 0) pe_int (nomark _)) (pss_cons (ps_set (i := 2) sc_ba.nd rfl (by first | exact Or.inl rfl | exact Or.inr rfl) (pe_def D_bg rfl (hr.mono (by decide)) pass0 (pa_cons (pv 0) pa_nil)))
      (pss_cons (ps_expr (pe_bm PySem.F.plainAttrs_list PySem.F.slot_list_append PySem.F.type_list_append mt_append (pv 1) (pa_cons (pv 2) pa_nil)))
      (pss_one (ps_set (i := 0) sc_ba.nd rfl (by first | exact Or.inl rfl | exact Or.inr rfl) (pe_op op_fdivB (pv 0) (pv 2)))))))
      (pss_one (ps_ret (pv 1))))), ?_⟩
    rw [show start ["n", "found", "p"] [V.int (n : Nat)] = [some (V.int (n : Nat)), none, none] from rfl]
    simp only [tSeq, tAsg, gName, tNil, List.set_cons_zero, List.set_cons_succ, tLst]
    refine ⟨line_of_le (by decide : 0 ≤ 100000), fun p hp => ?_⟩
    refine while_by (fun σ H2 => ∃ (m : Nat) (l : List Nat) (v : Option V), σ = [some (.int (m : Int)), some (.ref p), v] ∧ 0 < m ∧ m ≤ 8192 ∧ Same H H2 ∧ Pl H2 ∧ H2 p = some (.lst (l.map fun (m : Nat) => V.int (m : Nat))) ∧ ds n = l ++ ds m ∧ l.length + m ≤ 8192) (fun σ _ => match σ with | [some (.int r), _, _] => r.toNat | _ => 0) ⟨n, [], none, rfl, hn0, hn, Same.new hp, hP.lst, upd_same, rfl, by simpa using hn⟩ ?_ ?_
    · rintro σ H2 ⟨m, l, v, rfl, hm0, hm, s2, hP2, hl, hd, hlm⟩
      refine ⟨_, rfl, _, _, rfl, rfl, _, rfl, ?_⟩
      show if decide (_ < _) = true then _ else _
      by_cases c : 1 < m
      · rw [if_pos (decide_eq_true (by omega))]
        have hst := ds_step c
        have hf2 := factor_ge c
        have hlt : m / Sp18.factor m < m := Nat.div_lt_self (by omega) hf2
        have hfp : 0 < m / Sp18.factor m := Nat.div_pos (Nat.le_of_dvd hm0 (factor_dvd m)) (by omega)
        have hfm := Nat.le_of_dvd hm0 (factor_dvd m)
        refine ⟨_, rfl, m, rfl, ⟨c, hm⟩, hP2, _, rfl, .inl ⟨rfl, _, SqL.of hl⟩, _, rfl, p, _, _, rfl, rfl, hl, line_of_lt (by rw [List.length_map]; omega), _, rfl, _, rfl, _, _, rfl, rfl, ⟨by omega, log2_small (by omega)⟩, ⟨m / Sp18.factor m, l ++ [Sp18.factor m], _, rfl, hfp, by omega, fun b o e => ?_, hP2.lst, ?_, ?_, ?_⟩, ?_⟩
        · rw [upd_ne (ne_of_none e hp)]; exact s2 _ _ e
        · rw [upd_same, List.map_append]; rfl
        · rw [hd, hst, List.append_assoc]; rfl
        · rw [List.length_append]; show l.length + 1 + _ ≤ _; omega
        · exact hlt
      · rw [if_neg (by rw [decide_eq_true_eq]; omega)]
        refine ⟨_, rfl, k H2 p s2 hP2 ?_⟩
        rw [hd, ds_one (by omega), List.append_nil]; exact hl
    · rintro σ H2 Q1 Q2 hq ⟨v, h1, i, j, h3, h4, kb, h8, h9⟩
      exact ⟨v, h1, i, j, h3, h4, kb, h8, hq _ _ h9⟩
theorem sc_ag : FnScope ["numbers", "x", "y"] ["numbers", "x", "y"] (defScope s_pairs_added) := ⟨rfl, rfl, rfl, by decide +kernel, rfl, by decide +kernel, by decide +kernel⟩
theorem ok_ag {f : Addr} {fd : FuncData} (Fn : Fun K "pairs_added" "pairs_added" s_pairs_added f fd)  : FnOk P w K mg base CX0 11 f fd ["numbers", "x", "y"] (sp_ag P w K mg base) := by
  refine Fn.ok sc_ag (fun vs H Q E h => ?_) (fun cdv A outer s H vs Q E hr h => ?_)
  · obtain ⟨p, a, b, f, R, CR, T, n, m, c, d, rfl, _⟩ := h; rfl
  · obtain ⟨p, a, b, f, R, CR, T, n, m, c, d, rfl, hf, hA, hP, ⟨x1, x2, ea, r1, r2⟩, ⟨y1, y2, eb, s1, s2⟩, hL, k⟩ := h
    refine ⟨_, (pss_one (ps_ret (pe_tup (pa_cons (pe_methD (P := P) (w := w) (K := K) (mg := mg) (base := base) (kk := 10) rfl rfl rfl rfl rfl (hr.mono (by decide)) (pv 0) pass0 (pa_cons (pe_ix (ix_tupK (K := K) rfl) (pv 1) pe_int (fun _ _ => rfl)) (pa_cons (pe_ix (ix_tupK (K := K) rfl) (pv 2) pe_int (fun _ _ => rfl)) pa_nil))) (pa_cons (pe_methD (P := P) (w := w) (K := K) (mg := mg) (base := base) (kk := 10) rfl rfl rfl rfl rfl (hr.mono (by decide)) (pv 0) pass0 (pa_cons (pe_ix (ix_tupK (K := K) rfl) (pv 1) pe_int (fun _ _ => rfl)) (pa_cons (pe_ix (ix_tupK (K := K) rfl) (pv 2) pe_int (fun _ _ => rfl)) pa_nil))) pa_nil))))), ?_⟩
    rw [show start ["numbers", "x", "y"] [V.ref p, V.ref a, V.ref b] = [some (V.ref p), some (V.ref a), some (V.ref b)] from rfl]
    simp only [tRet, tVar, tC, tOp, tCons, tNil, tTup, tMethD, List.getElem?_cons_zero, List.getElem?_cons_succ, Option.some.injEq, V.ref.injEq, exists_eq_left', exists_and_left]
    exact ⟨_, hA.plus, a, _, _, _, rfl, rfl, SqT.of ea, rfl, b, _, _, _, rfl, rfl, SqT.of eb, rfl, Same.refl _, x1, y1, c.1, d.1, n, m, rfl, hP, r1, s1, hL, fun w1 h1 => ⟨_, hA.plus, a, _, _, _, rfl, rfl, SqT.of ea, rfl, b, _, _, _, rfl, rfl, SqT.of eb, rfl, Same.refl _, x2, y2, c.2, d.2, n, m, rfl, hP, r2, s2, hL, fun w2 h2 => ⟨two_le_line, fun t ht => k _ t (Same.new ht) hP.tup ht ⟨w1, w2, upd_same, h1, h2⟩⟩⟩⟩
theorem sc_c : FnScope ["numbers", "x", "y"] ["numbers", "x", "y"] (defScope s_pairs_subtracted) := ⟨rfl, rfl, rfl, by decide +kernel, rfl, by decide +kernel, by decide +kernel⟩
theorem ok_c {f : Addr} {fd : FuncData} (Fn : Fun K "pairs_subtracted" "pairs_subtracted" s_pairs_subtracted f fd)  : FnOk P w K mg base CX0 11 f fd ["numbers", "x", "y"] (sp_c P w K mg base) := by
  refine Fn.ok sc_c (fun vs H Q E h => ?_) (fun cdv A outer s H vs Q E hr h => ?_)
  · obtain ⟨p, a, b, f, R, CR, T, n, m, c, d, rfl, _⟩ := h; rfl
  · obtain ⟨p, a, b, f, R, CR, T, n, m, c, d, rfl, hf, hA, hP, ⟨x1, x2, ea, r1, r2⟩, ⟨y1, y2, eb, s1, s2⟩, hL, k⟩ := h
    refine ⟨_, (pss_one (ps_ret (pe_tup (pa_cons (pe_methD (P := P) (w := w) (K := K) (mg := mg) (base := base) (kk := 10) rfl rfl rfl rfl rfl (hr.mono (by decide)) (pv 0) pass0 (pa_cons (pe_ix (ix_tupK (K := K) rfl) (pv 1) pe_int (fun _ _ => rfl)) (pa_cons (pe_ix (ix_tupK (K := K) rfl) (pv 2) pe_int (fun _ _ => rfl)) pa_nil))) (pa_cons (pe_methD (P := P) (w := w) (K := K) (mg := mg) (base := base) (kk := 10) rfl rfl rfl rfl rfl (hr.mono (by decide)) (pv 0) pass0 (pa_cons (pe_ix (ix_tupK (K := K) rfl) (pv 1) pe_int (fun _ _ => rfl)) (pa_cons (pe_ix (ix_tupK (K := K) rfl) (pv 2) pe_int (fun _ _ => rfl)) pa_nil))) pa_nil))))), ?_⟩
    rw [show start ["numbers", "x", "y"] [V.ref p, V.ref a, V.ref b] = [some (V.ref p), some (V.ref a), some (V.ref b)] from rfl]
    simp only [tRet, tVar, tC, tOp, tCons, tNil, tTup, tMethD, List.getElem?_cons_zero, List.getElem?_cons_succ, Option.some.injEq, V.ref.injEq, exists_eq_left', exists_and_left]
    exact ⟨_, hA.less, a, _, _, _, rfl, rfl, SqT.of ea, rfl, b, _, _, _, rfl, rfl, SqT.of eb, rfl, Same.refl _, x1, y1, c.1, d.1, n, m, rfl, hP, r1, s1, hL, fun w1 h1 => ⟨_, hA.less, a, _, _, _, rfl, rfl, SqT.of ea, rfl, b, _, _, _, rfl, rfl, SqT.of eb, rfl, Same.refl _, x2, y2, c.2, d.2, n, m, rfl, hP, r2, s2, hL, fun w2 h2 => ⟨two_le_line, fun t ht => k _ t (Same.new ht) hP.tup ht ⟨w1, w2, upd_same, h1, h2⟩⟩⟩⟩
theorem sc_ae : FnScope ["numbers", "part", "x1", "x2", "quarter", "c", "s", "first", "second"] ["numbers", "part", "x1", "x2"] (defScope s_turned_back) := ⟨rfl, rfl, rfl, by decide +kernel, rfl, by decide +kernel, by decide +kernel⟩
theorem ok_ae {f : Addr} {fd : FuncData} (Fn : Fun K "turned_back" "turned_back" s_turned_back f fd)  : FnOk P w K mg base CX0 11 f fd ["numbers", "part", "x1", "x2"] (sp_ae P w K mg base) := by
  refine Fn.ok sc_ae (fun vs H Q E h => ?_) (fun cdv A outer s H vs Q E hr h => ?_)
  · obtain ⟨p, a, z1, z2, f, R, CR, T, n, N, j, c, rfl, _⟩ := h; rfl
  · obtain ⟨p, a, z1, z2, f, R, CR, T, n, N, j, c, rfl, hf, hA, hP, hN0, hN, hp, r1, r2, hL, k⟩ := h
    refine ⟨_, (pss_cons (ps_asg (pv 1) (pg_tupK (K := K) rfl rfl (pgs_cons (pg_name (i := 4) sc_ae.nd rfl (by first | exact Or.inl rfl | exact Or.inr rfl)) (pgs_cons (pg_name (i := 5) sc_ae.nd rfl (by first | exact Or.inl rfl | exact Or.inr rfl)) (pgs_cons (pg_name (i := 6) sc_ae.nd rfl (by first | exact Or.inl rfl | exact Or.inr rfl)) pgs_nil)))))
      (pss_cons (ps_if (pt_cmpR op_isN (pv 4) pe_non (nomark _)) (pss_cons (ps_set (i := 7) sc_ae.nd rfl (by first | exact Or.inl rfl | exact Or.inr rfl) (pe_methD (P := P) (w := w) (K := K) (mg := mg) (base := base) (kk := 10) rfl rfl rfl rfl rfl (hr.mono (by decide)) (pv 0) pass0 (pa_cons (pe_methD (P := P) (w := w) (K := K) (mg := mg) (base := base) (kk := 10) rfl rfl rfl rfl rfl (hr.mono (by decide)) (pv 0) pass0 (pa_cons (pv 2) (pa_cons (pv 5) pa_nil))) (pa_cons (pe_methD (P := P) (w := w) (K := K) (mg := mg) (base := base) (kk := 10) rfl rfl rfl rfl rfl (hr.mono (by decide)) (pv 0) pass0 (pa_cons (pv 3) (pa_cons (pv 6) pa_nil))) pa_nil))))
      (pss_cons (ps_set (i := 8) sc_ae.nd rfl (by first | exact Or.inl rfl | exact Or.inr rfl) (pe_methD (P := P) (w := w) (K := K) (mg := mg) (base := base) (kk := 10) rfl rfl rfl rfl rfl (hr.mono (by decide)) (pv 0) pass0 (pa_cons (pe_methD (P := P) (w := w) (K := K) (mg := mg) (base := base) (kk := 10) rfl rfl rfl rfl rfl (hr.mono (by decide)) (pv 0) pass0 (pa_cons (pv 3) (pa_cons (pv 5) pa_nil))) (pa_cons (pe_methD (P := P) (w := w) (K := K) (mg := mg) (base := base) (kk := 10) rfl rfl rfl rfl rfl (hr.mono (by decide)) (pv 0) pass0 (pa_cons (pv 2) (pa_cons (pv 6) pa_nil))) pa_nil))))
      (pss_one (ps_ret (pe_tup (pa_cons (pv 7) (pa_cons (pv 8) pa_nil))))))) pss_nil)
      (pss_cons (ps_if (pt_cmpR op_eq (pv 4) pe_int (nomark _)) (pss_one (ps_ret (pe_tup (pa_cons (pv 2) (pa_cons (pv 3) pa_nil))))) pss_nil)
      (pss_cons (ps_if (pt_cmpR op_eq (pv 4) pe_int (nomark _)) (pss_one (ps_ret (pe_tup (pa_cons (pv 3) (pa_cons (pe_methD (P := P) (w := w) (K := K) (mg := mg) (base := base) (kk := 10) rfl rfl rfl rfl rfl (hr.mono (by decide)) (pv 0) pass0 (pa_cons (pv 2) pa_nil)) pa_nil))))) pss_nil)
      (pss_cons (ps_if (pt_cmpR op_eq (pv 4) pe_int (nomark _)) (pss_one (ps_ret (pe_tup (pa_cons (pe_methD (P := P) (w := w) (K := K) (mg := mg) (base := base) (kk := 10) rfl rfl rfl rfl rfl (hr.mono (by decide)) (pv 0) pass0 (pa_cons (pv 2) pa_nil)) (pa_cons (pe_methD (P := P) (w := w) (K := K) (mg := mg) (base := base) (kk := 10) rfl rfl rfl rfl rfl (hr.mono (by decide)) (pv 0) pass0 (pa_cons (pv 3) pa_nil)) pa_nil))))) pss_nil)
      (pss_one (ps_ret (pe_tup (pa_cons (pe_methD (P := P) (w := w) (K := K) (mg := mg) (base := base) (kk := 10) rfl rfl rfl rfl rfl (hr.mono (by decide)) (pv 0) pass0 (pa_cons (pv 3) pa_nil)) (pa_cons (pv 2) pa_nil)))))))))), ?_⟩
    rw [show start ["numbers", "part", "x1", "x2", "quarter", "c", "s", "first", "second"] [V.ref p, V.ref a, V.int z1, V.int z2] = [some (V.ref p), some (V.ref a), some (V.int z1), some (V.int z2), none, none, none, none, none] from rfl]
    simp only [tSeq, tAsg, gName, tRet, tIfS, tNext, tVar, tC, tOp, tTest, tCons, tNil, tTup, gTup, gCons, gNil, rEq, scal, tMethD, List.set_cons_zero, List.set_cons_succ, List.getElem?_cons_zero, List.getElem?_cons_succ, Option.some.injEq, V.bl.injEq, V.ref.injEq, exists_eq_left', exists_and_left, true_and, decide_eq_true_eq]
    unfold PartAt at hp
    have m1 := hA.mono _ _ n (n + n) r1 (by omega)
    have m2 := hA.mono _ _ n (n + n) r2 (by omega)
    by_cases cq : 4 * j % N = 0
    · rw [if_pos cq] at hp
      have ht := turned_q (F := fmt f) cq c
      have hq4 : 4 * j / N % 4 < 4 := Nat.mod_lt _ (by decide)
      generalize 4 * j / N % 4 = q at hp ht hq4
      refine ⟨_, SqT.of hp, rfl, _, _, rfl, _, _, rfl, _, _, rfl, rfl, ?_⟩
      rw [if_neg (by intro z; cases z)]
      refine ⟨rfl, ?_⟩
      by_cases d0 : q = 0
      · rw [if_pos d0] at ht; rw [if_pos (show V.int ((q : Nat) : Int) = V.int 0 by rw [d0]; rfl)]; rw [ht] at k
        exact ⟨two_le_line, fun t ht => k _ t (Same.new ht) hP.tup ht ⟨z1, z2, upd_same, m1, m2⟩⟩
      rw [if_neg (vint_ne (by omega))]; rw [if_neg d0] at ht
      refine ⟨rfl, ?_⟩
      by_cases d1 : q = 1
      · rw [if_pos d1] at ht; rw [if_pos (show V.int ((q : Nat) : Int) = V.int 1 by rw [d1]; rfl)]; rw [ht] at k
        exact ⟨_, hA.minus, Same.refl _, z1, c.1, n + n, rfl, hP, m1, fun u1 h1 => ⟨two_le_line, fun t ht => k _ t (Same.new ht) hP.tup ht ⟨z2, u1, upd_same, m2, h1⟩⟩⟩
      rw [if_neg (vint_ne (by omega))]; rw [if_neg d1] at ht
      refine ⟨rfl, ?_⟩
      by_cases d2 : q = 2
      · rw [if_pos d2] at ht; rw [if_pos (show V.int ((q : Nat) : Int) = V.int 2 by rw [d2]; rfl)]; rw [ht] at k
        exact ⟨_, hA.minus, Same.refl _, z1, c.1, n + n, rfl, hP, m1, fun u1 h1 => ⟨_, hA.minus, Same.refl _, z2, c.2, n + n, rfl, hP, m2, fun u2 h2 => ⟨two_le_line, fun t ht => k _ t (Same.new ht) hP.tup ht ⟨u1, u2, upd_same, h1, h2⟩⟩⟩⟩
      rw [if_neg (vint_ne (by omega))]; rw [if_neg d2] at ht; rw [ht] at k
      exact ⟨_, hA.minus, Same.refl _, z2, c.2, n + n, rfl, hP, m2, fun u1 h1 => ⟨two_le_line, fun t ht => k _ t (Same.new ht) hP.tup ht ⟨u1, z1, upd_same, h1, m1⟩⟩⟩
    · rw [if_neg cq] at hp
      obtain ⟨cz, sz, ep, hc, hs⟩ := hp
      rw [turned_gen hf hN0 hN cq c] at k
      refine ⟨_, SqT.of ep, rfl, _, _, rfl, _, _, rfl, _, _, rfl, rfl, ?_⟩
      rw [if_pos rfl]
      exact ⟨_, hA.plus, _, hA.times, Same.refl _, z1, cz, c.1, _, n, rfl, hP, r1, hc, fun u1 h1 => ⟨_, hA.times, Same.refl _, z2, sz, c.2, _, n, rfl, hP, r2, hs, fun u2 h2 => ⟨Same.refl _, u1, u2, _, _, n, n, rfl, hP, h1, h2, hL, fun u3 h3 => ⟨_, hA.less, _, hA.times, Same.refl _, z2, cz, c.2, _, n, rfl, hP, r2, hc, fun u4 h4 => ⟨_, hA.times, Same.refl _, z1, sz, c.1, _, n, rfl, hP, r1, hs, fun u5 h5 => ⟨Same.refl _, u4, u5, _, _, n, n, rfl, hP, h4, h5, hL, fun u6 h6 => ⟨two_le_line, fun t ht => k _ t (Same.new ht) hP.tup ht ⟨u3, u6, upd_same, h3, h6⟩⟩⟩⟩⟩⟩⟩⟩
theorem sc_o : FnScope ["numbers", "f", "n", "j", "quarter", "rest", "c", "s"] ["numbers", "f", "n", "j"] (defScope s_part_of_turn) := ⟨rfl, rfl, rfl, by decide +kernel, rfl, by decide +kernel, by decide +kernel⟩
theorem ok_o {f : Addr} {fd : FuncData} (Fn : Fun K "part_of_turn" "part_of_turn" s_part_of_turn f fd) (D_a : Def P w K mg base "quarters_and_rest" 1 ["n", "j"] sp_a) (D_e : Def P w K mg base "cosine_and_sine" 7 ["n", "j"] (sp_e K)) (D_ar : Def P w K mg base "of_double" 4 ["f", "a"] sp_ar) : FnOk P w K mg base CX0 11 f fd ["numbers", "f", "n", "j"] (sp_o P w K mg base) := by
  refine Fn.ok sc_o (fun vs H Q E h => ?_) (fun cdv A outer s H vs Q E hr h => ?_)
  · obtain ⟨p, f, R, CR, T, n, j, rfl, _⟩ := h; rfl
  · obtain ⟨p, f, R, CR, T, n, j, rfl, hf, hA, hP, hn0, hn, k⟩ := h
    refine ⟨_, (pss_cons (ps_asg (pe_def D_a rfl (hr.mono (by decide)) pass0 (pa_cons (pv 2) (pa_cons (pv 3) pa_nil))) (pg_pairK (K := K) rfl rfl (pg_name (i := 4) sc_o.nd rfl (by first | exact Or.inl rfl | exact Or.inr rfl)) (pg_name (i := 5) sc_o.nd rfl (by first | exact Or.inl rfl | exact Or.inr rfl))))
      (pss_cons (ps_if (pt_cmpR op_eq (pv 5) pe_int (nomark _)) (pss_one (ps_ret (pe_tup (pa_cons (pv 4) (pa_cons pe_non (pa_cons pe_non pa_nil)))))) pss_nil)
      (pss_cons (ps_asg (pe_def D_e rfl (hr.mono (by decide)) pass0 (pa_cons (pv 2) (pa_cons (pv 3) pa_nil))) (pg_pairK (K := K) rfl rfl (pg_name (i := 6) sc_o.nd rfl (by first | exact Or.inl rfl | exact Or.inr rfl)) (pg_name (i := 7) sc_o.nd rfl (by first | exact Or.inl rfl | exact Or.inr rfl))))
      (pss_one (ps_ret (pe_tup (pa_cons pe_non (pa_cons (pe_methD (P := P) (w := w) (K := K) (mg := mg) (base := base) (kk := 10) rfl rfl rfl rfl rfl (hr.mono (by decide)) (pv 0) pass0 (pa_cons (pe_def D_ar rfl (hr.mono (by decide)) pass0 (pa_cons (pv 1) (pa_cons (pv 6) pa_nil))) pa_nil)) (pa_cons (pe_methD (P := P) (w := w) (K := K) (mg := mg) (base := base) (kk := 10) rfl rfl rfl rfl rfl (hr.mono (by decide)) (pv 0) pass0 (pa_cons (pe_def D_ar rfl (hr.mono (by decide)) pass0 (pa_cons (pv 1) (pa_cons (pv 7) pa_nil))) pa_nil)) pa_nil))))))))), ?_⟩
    rw [show start ["numbers", "f", "n", "j", "quarter", "rest", "c", "s"] [V.ref p, V.int f, V.int (n : Nat), V.int (j : Nat)] = [some (V.ref p), some (V.int f), some (V.int (n : Nat)), some (V.int (j : Nat)), none, none, none, none] from rfl]
    simp only [tSeq, tAsg, tRet, tIfS, tNext, tVar, tC, tOp, tTest, tCall, tCons, tNil, tTup, gTupK, rEq, scal, tMethD, List.append_nil, List.set_cons_zero, List.set_cons_succ, List.getElem?_cons_zero, List.getElem?_cons_succ, Option.some.injEq, V.int.injEq, V.bl.injEq, V.ref.injEq, List.cons.injEq, and_assoc, exists_eq_left', exists_and_left, and_true, true_and, decide_eq_true_eq, hP, Int.natCast_inj, sp_a, L2.spT]
    refine ⟨(n, j), rfl, rfl, hn0, hn, fun p1 hp1 => ⟨_, _, SqT.of upd_same, rfl, ?_⟩⟩
    dsimp only
    by_cases cq : 4 * j % n = 0
    · rw [if_pos (by rw [cq]; rfl)]
      refine ⟨line_of_le (by decide : 3 ≤ 100000), fun t ht => k _ t ((Same.new hp1).trans (Same.new ht)) hP.tup.tup (none_of_upd ht) ?_⟩
      unfold PartAt; rw [if_pos cq, upd_same]
    · rw [if_neg (vint_ne (by omega))]
      obtain ⟨f1, f2⟩ := angle_fac hn0 hn cq
      have g1 := fac_conv hf f1
      have g2 := fac_conv hf f2
      refine ⟨n, j, rfl, hn0, hn, hP.tup, fun H2 a s2 hP2 ha => ⟨a, rfl, _, _, ha, ?_⟩⟩
      have hA2 := (hA.same (Same.new hp1)).same s2
      refine ⟨_, hA2.factor, (f, _), rfl, ⟨hf, f1.1, fun _ => f1.ok.2⟩, hP2, Same.refl _, _, rfl, hP2, g1, fun u1 h1 => ⟨_, hA2.factor, (f, _), rfl, ⟨hf, f2.1, fun _ => f2.ok.2⟩, hP2, Same.refl _, _, rfl, hP2, g2, fun u2 h2 => ⟨line_of_le (by decide : 3 ≤ 100000), fun t ht => k _ t (((Same.new hp1).trans s2).trans (Same.new ht)) hP2.tup (fresh_of ((Same.new hp1).trans s2) ht) ?_⟩⟩⟩
      unfold PartAt; rw [if_neg cq]; exact ⟨u1, u2, upd_same, h1, h2⟩
theorem sc_q : FnScope ["numbers", "parts", "rows", "lower", "upper", "k", "t0", "x1", "x2", "t1"] ["numbers", "parts", "rows"] (defScope s_two_together) := ⟨rfl, rfl, rfl, by decide +kernel, rfl, by decide +kernel, by decide +kernel⟩
theorem ok_q {f : Addr} {fd : FuncData} (Fn : Fun K "two_together" "two_together" s_two_together f fd) (D_ae : Def P w K mg base "turned_back" 11 ["numbers", "part", "x1", "x2"] (sp_ae P w K mg base)) (D_ag : Def P w K mg base "pairs_added" 11 ["numbers", "x", "y"] (sp_ag P w K mg base)) (D_c : Def P w K mg base "pairs_subtracted" 11 ["numbers", "x", "y"] (sp_c P w K mg base)) (B_enumerate : mg "enumerate" = none) : FnOk P w K mg base CX0 12 f fd ["numbers", "parts", "rows"] (sp_q P w K mg base) := by
  refine Fn.ok sc_q (fun vs H Q E h => ?_) (fun cdv A outer s H vs Q E hr h => ?_)
  · obtain ⟨p, la, lr, f, R, CR, T, n, q, l, css, rfl, _⟩ := h; rfl
  · obtain ⟨p, la, lr, f, R, CR, Tk, n, q, l, css, rfl, hf, hA, hP, hX, hq2, hl, hql, ⟨ps, hps, hpl, hpp⟩, ⟨rs, hrs, hrl, hrr⟩, hcl, hcs, hL, k⟩ := h
    refine ⟨_, (pss_cons (ps_set (i := 3) sc_q.nd rfl (by first | exact Or.inl rfl | exact Or.inr rfl) (pe_lst pa_nil))
      (pss_cons (ps_set (i := 4) sc_q.nd rfl (by first | exact Or.inl rfl | exact Or.inr rfl) (pe_lst pa_nil))
      (pss_cons (ps_for PassesOwn.never rfl (pi_enum rfl B_enumerate (pa_cons (pe_ix (ix_listK (K := K) rfl) (pv 2) pe_int (fun _ _ => rfl)) pa_nil)) (pg_pair rfl (pg_name (i := 5) sc_q.nd rfl (by first | exact Or.inl rfl | exact Or.inr rfl)) (pg_name (i := 6) sc_q.nd rfl (by first | exact Or.inl rfl | exact Or.inr rfl))) (pss_cons (ps_asg (pe_ix (ix_listK (K := K) rfl) (pe_ix (ix_listK (K := K) rfl) (pv 2) pe_int (fun _ _ => rfl)) (pv 5) (fun _ _ => rfl)) (pg_pair rfl (pg_name (i := 7) sc_q.nd rfl (by first | exact Or.inl rfl | exact Or.inr rfl)) (pg_name (i := 8) sc_q.nd rfl (by first | exact Or.inl rfl | exact Or.inr rfl))))
      (pss_cons (ps_set (i := 9) sc_q.nd rfl (by first | exact Or.inl rfl | exact Or.inr rfl) (pe_def D_ae rfl (hr.mono (by decide)) pass0 (pa_cons (pv 0) (pa_cons (pe_ix (ix_listK (K := K) rfl) (pv 1) (pv 5) (fun _ _ => rfl)) (pa_cons (pv 7) (pa_cons (pv 8) pa_nil))))))
      (pss_cons (ps_expr (pe_bm PySem.F.plainAttrs_list PySem.F.slot_list_append PySem.F.type_list_append mt_append (pv 3) (pa_cons (pe_def D_ag rfl (hr.mono (by decide)) pass0 (pa_cons (pv 0) (pa_cons (pv 6) (pa_cons (pv 9) pa_nil)))) pa_nil)))
      (pss_one (ps_expr (pe_bm PySem.F.plainAttrs_list PySem.F.slot_list_append PySem.F.type_list_append mt_append (pv 4) (pa_cons (pe_def D_c rfl (hr.mono (by decide)) pass0 (pa_cons (pv 0) (pa_cons (pv 6) (pa_cons (pv 9) pa_nil)))) pa_nil))))))))
      (pss_one (ps_ret (pe_op op_cat (pv 3) (pv 4))))))), ?_⟩
    rw [show start ["numbers", "parts", "rows", "lower", "upper", "k", "t0", "x1", "x2", "t1"] [V.ref p, V.ref la, V.ref lr] = [some (V.ref p), some (V.ref la), some (V.ref lr), none, none, none, none, none, none, none] from rfl]
    simp only [tSeq, tAsg, gName, tNil, List.set_cons_zero, List.set_cons_succ, tLst]
    subst hX
    obtain ⟨y0, y1, rfl⟩ := two_of hcl
    obtain ⟨r0, r1, rfl⟩ := two_of (show rs.length = 2 by rw [hrl]; rfl)
    obtain ⟨as0, hx0, hp0⟩ := hrr 0 r0 y0 rfl rfl
    obtain ⟨as1, hx1, hp1⟩ := hrr 1 r1 y1 rfl rfl
    have l0 : y0.length = l := hcs _ (by simp)
    have l1 : y1.length = l := hcs _ (by simp)
    have a0l := hp0.1
    have a1l := hp1.1
    have hn3 : n + (n + n) = n * (2 * 2 - 1) := by omega
    refine ⟨line_of_le (by decide : 0 ≤ 100000), fun p1 np1 => ⟨line_of_le (by decide : 0 ≤ 100000), fun p2 np2 => ?_⟩⟩
    have p12 : p1 ≠ p2 := ne_of_none upd_same np2
    have np2H : H p2 = none := none_of_upd np2
    refine tFor_enum (la := r0) (xs := as0.map V.ref) (fun R r => ⟨_, rfl, lr, _, _, _, rfl, rfl, ((Same.new np1).trans (Same.new np2)).seq hrs, rfl, r⟩) (fun i σ H1 => ∃ v1 v2 v3 v4 v5 : Option V, σ = [some (V.ref p), some (V.ref la), some (V.ref lr), some (V.ref p1), some (V.ref p2), v1, v2, v3, v4, v5] ∧ Same H H1 ∧ Pl H1 ∧ ∃ ls us : List Addr, H1 p1 = some (.lst (ls.map V.ref)) ∧ H1 p2 = some (.lst (us.map V.ref)) ∧ Prs H1 ls R (n * (2 * 2 - 1)) ((List.range i).map (Sp18.joined (fmt f) (2 * l) 2 [y0, y1])) ∧ Prs H1 us R (n * (2 * 2 - 1)) ((List.range i).map fun k => Sp18.joined (fmt f) (2 * l) 2 [y0, y1] (l + k))) ⟨none, none, none, none, none, rfl, (Same.new np1).trans (Same.new np2), hP.lst.lst, [], [], (by rw [upd_ne p12]; exact upd_same), upd_same, ⟨rfl, fun i a c e => by simp at e⟩, ⟨rfl, fun i a c e => by simp at e⟩⟩ ?_ ?_ ?_
    · rintro i σ H1 ⟨v1, v2, v3, v4, v5, rfl, s1, hP1, _⟩
      exact s1.seq hx0
    · rintro i x T σ H1 ex ⟨v1, v2, v3, v4, v5, rfl, s1, hP1, ls, us, hls, hus, hlo, hup⟩ hT
      obtain ⟨a0, e0, rfl⟩ := map_at ex
      have hi : i < l := by have := (List.getElem?_eq_some_iff.mp e0).1; omega
      have ea1 := List.getElem?_eq_getElem (l := as1) (i := i) (by omega)
      have ey0 := List.getElem?_eq_getElem (l := y0) (i := i) (by omega)
      have ey1 := List.getElem?_eq_getElem (l := y1) (i := i) (by omega)
      have ept := List.getElem?_eq_getElem (l := ps) (i := i) (by omega)
      have sT : Same H (upd H1 T (.tup [.int (i : Nat), .ref a0])) := s1.trans (Same.new hT)
      have q0 := (hp0.2 i a0 _ e0 ey0).same sT
      obtain ⟨z1, z2, ez, rz1, rz2⟩ := (hp1.2 i _ _ ea1 ey1).same sT
      obtain ⟨j1, j2⟩ := joined_two (F := fmt f) (y0 := y0) (y1 := y1) hi
      rw [cell_of ey0, cell_of ey1] at j1 j2
      refine ⟨T, _, _, rfl, upd_same, _, rfl, lr, _, _, _, rfl, rfl, sT.seq hrs, rfl, _, rfl, r1, _, _, _, rfl, rfl, sT.seq hx1, at_ref ea1, _, .int z1, .int z2, rfl, ez, ?_⟩
      refine ⟨_, rfl, _, rfl, _, rfl, la, _, _, _, rfl, rfl, sT.seq hps, at_ref ept, _, rfl, _, rfl, p, _, z1, z2, f, R, CR, Tk, n, 2 * l, i, _, rfl, hf, hA.same sT, hP1.tup, by omega, hql, (hpp i _ ept).keep (fun b xs e => sT _ _ e), rz1, rz2, by omega, fun H2 t1 s2 hP2 nt1 hpr1 => ?_⟩
      have s02 := sT.trans s2
      have hls2 := s2 _ _ ((Same.new (o := .tup [.int (i : Nat), .ref a0]) hT) _ _ hls)
      have hus2 := s2 _ _ ((Same.new (o := .tup [.int (i : Nat), .ref a0]) hT) _ _ hus)
      refine ⟨_, rfl, .inl ⟨rfl, _, SqL.of hls2⟩, _, rfl, _, rfl, _, rfl, p, a0, t1, f, R, CR, Tk, n, n + n, _, _, rfl, hf, hA.same s02, hP2, q0.same s2, hpr1, by omega, fun H3 t2 s3 hP3 nt2 hpr2 => ?_⟩
      have hls3 := s3 _ _ hls2
      have hus3 := s3 _ _ hus2
      have lsl := hlo.1
      have usl := hup.1
      rw [List.length_map, List.length_range] at lsl usl
      refine ⟨p1, _, _, rfl, rfl, hls3, line_of_lt (by rw [List.length_map]; omega), ?_⟩
      have s04 : Same H (upd H3 p1 (.lst (ls.map V.ref ++ [V.ref t2]))) := fun b o e => by rw [upd_ne (ne_of_none e np1)]; exact s3 _ _ (s02 _ _ e)
      have k34 : ∀ b xs, H3 b = some (.tup xs) → upd H3 p1 (.lst (ls.map V.ref ++ [V.ref t2])) b = some (.tup xs) := fun b xs e => by rw [upd_ne (tups_ne hls3 e)]; exact e
      have hus4 : upd H3 p1 (.lst (ls.map V.ref ++ [V.ref t2])) p2 = some (.lst (us.map V.ref)) := by rw [upd_ne (Ne.symm p12)]; exact hus3
      refine ⟨_, rfl, .inl ⟨rfl, _, SqL.of hus4⟩, _, rfl, _, rfl, _, rfl, p, a0, t1, f, R, CR, Tk, n, n + n, _, _, rfl, hf, hA.same s04, hP3.lst, ((q0.same s2).same s3).keep k34, (hpr1.same s3).keep k34, by omega, fun H5 t3 s5 hP5 nt3 hpr3 => ?_⟩
      have hus5 := s5 _ _ hus4
      have k56 : ∀ b xs, H5 b = some (.tup xs) → upd H5 p2 (.lst (us.map V.ref ++ [V.ref t3])) b = some (.tup xs) := fun b xs e => by rw [upd_ne (tups_ne hus5 e)]; exact e
      have k16 : ∀ b xs, H1 b = some (.tup xs) → upd H5 p2 (.lst (us.map V.ref ++ [V.ref t3])) b = some (.tup xs) := fun b xs e => k56 _ _ (s5 _ _ (k34 _ _ (s3 _ _ (s2 _ _ ((Same.new hT) _ _ e)))))
      refine ⟨p2, _, _, rfl, rfl, hus5, line_of_lt (by rw [List.length_map]; omega), _, _, _, _, _, rfl, fun b o e => ?_, hP5.lst, ls ++ [t2], us ++ [t3], ?_, ?_, ?_, ?_⟩
      · rw [upd_ne (ne_of_none e np2H)]; exact s5 _ _ (s04 _ _ e)
      · rw [upd_ne p12, s5 _ _ upd_same, List.map_append]; rfl
      · rw [upd_same, List.map_append]; rfl
      · rw [map_snoc, j1, ← hn3]; rw [← hn3] at hlo; exact (hlo.keep k16).snoc (((hpr2.keep k34).same s5).keep k56)
      · rw [map_snoc, j2, ← hn3]; rw [← hn3] at hup; exact (hup.keep k16).snoc (hpr3.keep k56)
    · rintro σ H1 ⟨v1, v2, v3, v4, v5, rfl, s1, hP1, ls, us, hls, hus, hlo, hup⟩
      rw [List.length_map, a0l, l0] at hlo hup
      have lsl := hlo.1
      have usl := hup.1
      rw [List.length_map, List.length_range] at lsl usl
      refine ⟨_, rfl, _, rfl, p1, p2, _, _, rfl, rfl, hls, hus, line_of_le (by rw [List.length_map, List.length_map]; omega), fun t ht => k _ t (s1.trans (Same.new ht)) hP1.lst (fresh_of s1 ht) ?_⟩
      rw [range_two]
      refine ⟨ls ++ us, SqL.of (by rw [upd_same, List.map_append]), (hlo.append hup).keep fun b xs e => (Same.new ht) _ _ e⟩
theorem sc_l : FnScope ["numbers", "parts", "rows", "quarters", "k", "t0", "t", "a", "b", "c", "d", "i"] ["numbers", "parts", "rows"] (defScope s_four_together) := ⟨rfl, rfl, rfl, by decide +kernel, rfl, by decide +kernel, by decide +kernel⟩
theorem ok_l {f : Addr} {fd : FuncData} (Fn : Fun K "four_together" "four_together" s_four_together f fd) (D_ae : Def P w K mg base "turned_back" 11 ["numbers", "part", "x1", "x2"] (sp_ae P w K mg base)) (D_ag : Def P w K mg base "pairs_added" 11 ["numbers", "x", "y"] (sp_ag P w K mg base)) (D_c : Def P w K mg base "pairs_subtracted" 11 ["numbers", "x", "y"] (sp_c P w K mg base)) (B_enumerate : mg "enumerate" = none) : FnOk P w K mg base CX0 12 f fd ["numbers", "parts", "rows"] (sp_l P w K mg base) := by
  refine Fn.ok sc_l (fun vs H Q E h => ?_) (fun cdv A outer s H vs Q E hr h => ?_)
  · obtain ⟨p, la, lr, f, R, CR, T, n, q, l, css, rfl, _⟩ := h; rfl
  · obtain ⟨p, la, lr, f, R, CR, Tk, n, q, l, css, rfl, hf, hA, hP, hX, hq2, hl, hql, ⟨ps, hps, hpl, hpp⟩, ⟨rs, hrs, hrl, hrr⟩, hcl, hcs, hL, k⟩ := h
    refine ⟨_, (pss_cons (ps_set (i := 3) sc_l.nd rfl (by first | exact Or.inl rfl | exact Or.inr rfl) (pe_tup (pa_cons (pe_lst pa_nil) (pa_cons (pe_lst pa_nil) (pa_cons (pe_lst pa_nil) (pa_cons (pe_lst pa_nil) pa_nil))))))
      (pss_cons (ps_for PassesOwn.never rfl (pi_enum rfl B_enumerate (pa_cons (pe_ix (ix_listK (K := K) rfl) (pv 2) pe_int (fun _ _ => rfl)) pa_nil)) (pg_pair rfl (pg_name (i := 4) sc_l.nd rfl (by first | exact Or.inl rfl | exact Or.inr rfl)) (pg_name (i := 5) sc_l.nd rfl (by first | exact Or.inl rfl | exact Or.inr rfl))) (pss_cons (ps_setLc (own := [("i", 11)]) (i := 6) rfl sc_l.nd rfl rfl (sw_true rfl rfl rfl rfl) (pi_tupK (K := K) rfl (pe_tup (pa_cons pe_int (pa_cons pe_int (pa_cons pe_int pa_nil))))) (blkOk_by rfl) (fun _ _ _ _ _ => (pg_name (i := 11) sc_l.nd rfl (by first | exact Or.inl rfl | exact Or.inr rfl))) (fun _ _ _ _ _ => pts_nil) (fun _ _ _ _ _ => (pe_def D_ae rfl (hr.mono (by decide)) pass0 (pa_cons (pv 0) (pa_cons (pe_ix (ix_listK (K := K) rfl) (pv 1) (pe_op op_mul (pv 11) (pv 4)) (fun _ _ => rfl)) (pa_cons (pe_ix (ix_tupK (K := K) rfl) (pe_ix (ix_listK (K := K) rfl) (pe_ix (ix_listK (K := K) rfl) (pv 2) (pv 11) (fun _ _ => rfl)) (pv 4) (fun _ _ => rfl)) pe_int (fun _ _ => rfl)) (pa_cons (pe_ix (ix_tupK (K := K) rfl) (pe_ix (ix_listK (K := K) rfl) (pe_ix (ix_listK (K := K) rfl) (pv 2) (pv 11) (fun _ _ => rfl)) (pv 4) (fun _ _ => rfl)) pe_int (fun _ _ => rfl)) pa_nil)))))))
      (pss_cons (ps_set (i := 7) sc_l.nd rfl (by first | exact Or.inl rfl | exact Or.inr rfl) (pe_def D_ag rfl (hr.mono (by decide)) pass0 (pa_cons (pv 0) (pa_cons (pv 5) (pa_cons (pe_ix (ix_listK (K := K) rfl) (pv 6) pe_int (fun _ _ => rfl)) pa_nil)))))
      (pss_cons (ps_set (i := 8) sc_l.nd rfl (by first | exact Or.inl rfl | exact Or.inr rfl) (pe_def D_c rfl (hr.mono (by decide)) pass0 (pa_cons (pv 0) (pa_cons (pv 5) (pa_cons (pe_ix (ix_listK (K := K) rfl) (pv 6) pe_int (fun _ _ => rfl)) pa_nil)))))
      (pss_cons (ps_set (i := 9) sc_l.nd rfl (by first | exact Or.inl rfl | exact Or.inr rfl) (pe_def D_ag rfl (hr.mono (by decide)) pass0 (pa_cons (pv 0) (pa_cons (pe_ix (ix_listK (K := K) rfl) (pv 6) pe_int (fun _ _ => rfl)) (pa_cons (pe_ix (ix_listK (K := K) rfl) (pv 6) pe_int (fun _ _ => rfl)) pa_nil)))))
      (pss_cons (ps_set (i := 10) sc_l.nd rfl (by first | exact Or.inl rfl | exact Or.inr rfl) (pe_def D_c rfl (hr.mono (by decide)) pass0 (pa_cons (pv 0) (pa_cons (pe_ix (ix_listK (K := K) rfl) (pv 6) pe_int (fun _ _ => rfl)) (pa_cons (pe_ix (ix_listK (K := K) rfl) (pv 6) pe_int (fun _ _ => rfl)) pa_nil)))))
      (pss_cons (ps_expr (pe_bm PySem.F.plainAttrs_list PySem.F.slot_list_append PySem.F.type_list_append mt_append (pe_ix (ix_tupK (K := K) rfl) (pv 3) pe_int (fun _ _ => rfl)) (pa_cons (pe_def D_ag rfl (hr.mono (by decide)) pass0 (pa_cons (pv 0) (pa_cons (pv 7) (pa_cons (pv 9) pa_nil)))) pa_nil)))
      (pss_cons (ps_expr (pe_bm PySem.F.plainAttrs_list PySem.F.slot_list_append PySem.F.type_list_append mt_append (pe_ix (ix_tupK (K := K) rfl) (pv 3) pe_int (fun _ _ => rfl)) (pa_cons (pe_tup (pa_cons (pe_methD (P := P) (w := w) (K := K) (mg := mg) (base := base) (kk := 10) rfl rfl rfl rfl rfl (hr.mono (by decide)) (pv 0) pass0 (pa_cons (pe_ix (ix_tupK (K := K) rfl) (pv 8) pe_int (fun _ _ => rfl)) (pa_cons (pe_ix (ix_tupK (K := K) rfl) (pv 10) pe_int (fun _ _ => rfl)) pa_nil))) (pa_cons (pe_methD (P := P) (w := w) (K := K) (mg := mg) (base := base) (kk := 10) rfl rfl rfl rfl rfl (hr.mono (by decide)) (pv 0) pass0 (pa_cons (pe_ix (ix_tupK (K := K) rfl) (pv 8) pe_int (fun _ _ => rfl)) (pa_cons (pe_ix (ix_tupK (K := K) rfl) (pv 10) pe_int (fun _ _ => rfl)) pa_nil))) pa_nil))) pa_nil)))
      (pss_cons (ps_expr (pe_bm PySem.F.plainAttrs_list PySem.F.slot_list_append PySem.F.type_list_append mt_append (pe_ix (ix_tupK (K := K) rfl) (pv 3) pe_int (fun _ _ => rfl)) (pa_cons (pe_def D_c rfl (hr.mono (by decide)) pass0 (pa_cons (pv 0) (pa_cons (pv 7) (pa_cons (pv 9) pa_nil)))) pa_nil)))
      (pss_one (ps_expr (pe_bm PySem.F.plainAttrs_list PySem.F.slot_list_append PySem.F.type_list_append mt_append (pe_ix (ix_tupK (K := K) rfl) (pv 3) pe_int (fun _ _ => rfl)) (pa_cons (pe_tup (pa_cons (pe_methD (P := P) (w := w) (K := K) (mg := mg) (base := base) (kk := 10) rfl rfl rfl rfl rfl (hr.mono (by decide)) (pv 0) pass0 (pa_cons (pe_ix (ix_tupK (K := K) rfl) (pv 8) pe_int (fun _ _ => rfl)) (pa_cons (pe_ix (ix_tupK (K := K) rfl) (pv 10) pe_int (fun _ _ => rfl)) pa_nil))) (pa_cons (pe_methD (P := P) (w := w) (K := K) (mg := mg) (base := base) (kk := 10) rfl rfl rfl rfl rfl (hr.mono (by decide)) (pv 0) pass0 (pa_cons (pe_ix (ix_tupK (K := K) rfl) (pv 8) pe_int (fun _ _ => rfl)) (pa_cons (pe_ix (ix_tupK (K := K) rfl) (pv 10) pe_int (fun _ _ => rfl)) pa_nil))) pa_nil))) pa_nil)))))))))))))
      (pss_one (ps_ret (pe_op op_cat (pe_op op_cat (pe_op op_cat (pe_ix (ix_tupK (K := K) rfl) (pv 3) pe_int (fun _ _ => rfl)) (pe_ix (ix_tupK (K := K) rfl) (pv 3) pe_int (fun _ _ => rfl))) (pe_ix (ix_tupK (K := K) rfl) (pv 3) pe_int (fun _ _ => rfl))) (pe_ix (ix_tupK (K := K) rfl) (pv 3) pe_int (fun _ _ => rfl))))))), ?_⟩
    rw [show start ["numbers", "parts", "rows", "quarters", "k", "t0", "t", "a", "b", "c", "d", "i"] [V.ref p, V.ref la, V.ref lr] = [some (V.ref p), some (V.ref la), some (V.ref lr), none, none, none, none, none, none, none, none, none] from rfl]
    simp only [tSeq, tAsg, gName, tCons, tNil, tTup, List.set_cons_zero, List.set_cons_succ, tLst]
    subst hX
    have hn7 : n * (2 * 4 - 1) = n * 7 := rfl
    rw [hn7] at hL k
    obtain ⟨r0, r1, r2, r3, rfl⟩ := four_of (show rs.length = 4 by omega)
    obtain ⟨y0, y1, y2, y3, hcss⟩ := four_of hcl
    have hy0 : css[0]? = some y0 := by rw [hcss]; rfl
    obtain ⟨as0, hx0, hp0⟩ := hrr 0 r0 y0 rfl hy0
    have l0 : y0.length = l := hcs _ (List.mem_of_getElem? hy0)
    have a0l := hp0.1
    refine ⟨line_of_le (by decide : 0 ≤ 100000), fun p1 np1 => ⟨line_of_le (by decide : 0 ≤ 100000), fun p2 np2 => ⟨line_of_le (by decide : 0 ≤ 100000), fun p3 np3 => ⟨line_of_le (by decide : 0 ≤ 100000), fun p4 np4 => ⟨line_of_le (by decide : 4 ≤ 100000), fun pq npq => ?_⟩⟩⟩⟩⟩
    have s1_ := Same.new (o := .lst []) np1
    have s2_ := Same.new (o := .lst []) np2
    have s3_ := Same.new (o := .lst []) np3
    have s4_ := Same.new (o := .lst []) np4
    have s5_ := Same.new (o := .tup [V.ref p1, V.ref p2, V.ref p3, V.ref p4]) npq
    have s12 := s1_.trans s2_
    have s13 := s12.trans s3_
    have s14 := s13.trans s4_
    have s00 := s14.trans s5_
    have d12 : p1 ≠ p2 := ne_of_none upd_same np2
    have d13 : p1 ≠ p3 := ne_of_none (s2_ _ _ upd_same) np3
    have d23 : p2 ≠ p3 := ne_of_none upd_same np3
    have d14 : p1 ≠ p4 := ne_of_none (s3_ _ _ (s2_ _ _ upd_same)) np4
    have d24 : p2 ≠ p4 := ne_of_none (s3_ _ _ upd_same) np4
    have d34 : p3 ≠ p4 := ne_of_none upd_same np4
    have n2 := fresh_of s1_ np2
    have n3 := fresh_of s12 np3
    have n4 := fresh_of s13 np4
    have nq := fresh_of s14 npq
    have g1 := s5_ _ _ (s4_ _ _ (s3_ _ _ (s2_ _ _ (upd_same (H := H) (a := p1) (o := .lst [])))))
    have g2 := s5_ _ _ (s4_ _ _ (s3_ _ _ (upd_same (H := upd H p1 (.lst [])) (a := p2) (o := .lst []))))
    have g3 := s5_ _ _ (s4_ _ _ (upd_same (H := upd (upd H p1 (.lst [])) p2 (.lst [])) (a := p3) (o := .lst [])))
    have g4 := s5_ _ _ (upd_same (H := upd (upd (upd H p1 (.lst [])) p2 (.lst [])) p3 (.lst [])) (a := p4) (o := .lst []))
    refine tFor_enum (la := r0) (xs := as0.map V.ref) (fun R r => ⟨_, rfl, lr, _, _, _, rfl, rfl, s00.seq hrs, rfl, r⟩) (fun i σ H1 => ∃ v4 v5 v6 v7 v8 v9 v10 v11 : Option V, σ = [some (V.ref p), some (V.ref la), some (V.ref lr), some (V.ref pq), v4, v5, v6, v7, v8, v9, v10, v11] ∧ Same H H1 ∧ Pl H1 ∧ H1 pq = some (.tup [V.ref p1, V.ref p2, V.ref p3, V.ref p4]) ∧ ∃ l1 l2 l3 l4 : List Addr, H1 p1 = some (.lst (l1.map V.ref)) ∧ H1 p2 = some (.lst (l2.map V.ref)) ∧ H1 p3 = some (.lst (l3.map V.ref)) ∧ H1 p4 = some (.lst (l4.map V.ref)) ∧ Prs H1 l1 R (n * 7) ((List.range i).map fun k => Sp18.joined (fmt f) (4 * l) 4 css (0 * l + k)) ∧ Prs H1 l2 R (n * 7) ((List.range i).map fun k => Sp18.joined (fmt f) (4 * l) 4 css (1 * l + k)) ∧ Prs H1 l3 R (n * 7) ((List.range i).map fun k => Sp18.joined (fmt f) (4 * l) 4 css (2 * l + k)) ∧ Prs H1 l4 R (n * 7) ((List.range i).map fun k => Sp18.joined (fmt f) (4 * l) 4 css (3 * l + k))) ⟨none, none, none, none, none, none, none, none, rfl, s00, hP.lst.lst.lst.lst.tup, upd_same, [], [], [], [], g1, g2, g3, g4, ⟨rfl, fun i a c e => by simp at e⟩, ⟨rfl, fun i a c e => by simp at e⟩, ⟨rfl, fun i a c e => by simp at e⟩, ⟨rfl, fun i a c e => by simp at e⟩⟩ ?_ ?_ ?_
    · rintro i σ H1 ⟨v4, v5, v6, v7, v8, v9, v10, v11, rfl, s1, hP1, _⟩
      exact s1.seq hx0
    · rintro i x T σ H1 ex ⟨v4, v5, v6, v7, v8, v9, v10, v11, rfl, s1, hP1, hq, l1, l2, l3, l4, e1, e2, e3, e4, P1, P2, P3, P4⟩ hT
      obtain ⟨a0, ea0, rfl⟩ := map_at ex
      have hi : i < l := by have := (List.getElem?_eq_some_iff.mp ea0).1; omega
      have ey0 := List.getElem?_eq_getElem (l := y0) (i := i) (by omega)
      have nT := Same.new (o := .tup [.int (i : Nat), .ref a0]) hT
      have sT := s1.trans nT
      have q0 := (hp0.2 i a0 _ ea0 ey0).same sT
      refine ⟨T, _, _, rfl, upd_same, ?_⟩
      dsimp only [tSeq, tAsg]
      refine tLc_tupG (xs := [V.int 1, V.int 2, V.int 3]) (fun D j z H4 => ∃ t, z = V.ref t ∧ t ≠ D ∧ PrAt H4 t R (n + n) (Sp18.turned (fmt f) (4 * l) ((j + 1) * i) (Sp18.cell (css.getD (j + 1) []) i))) ?_ (fun R r => ⟨line_of_le (by decide : 3 ≤ 100000), fun tt htt => r tt _ (Same.new htt) hP1.tup.tup (SqT.of upd_same)⟩) (line_of_le (by decide : 3 ≤ 100000)) ?_ ?_
      · rintro D j z H4 H5 sx ⟨t, rfl, nD, z1, z2, et, r⟩
        exact ⟨t, rfl, nD, z1, z2, sx _ _ nD et, r⟩
      · intro D j x H4 Nx ex4 s4 hP4 hacc kN
        obtain ⟨acc, hacc⟩ := hacc
        obtain ⟨hj, rfl⟩ := three_at ex4
        have er := List.getElem?_eq_getElem (l := [r0, r1, r2, r3]) (i := j + 1) (by simp; omega)
        have ey := List.getElem?_eq_getElem (l := css) (i := j + 1) (by omega)
        obtain ⟨asj, hxj, hpj⟩ := hrr (j + 1) _ _ er ey
        have lj : (css[j + 1]).length = l := hcs _ (List.mem_of_getElem? ey)
        have ajl := hpj.1
        have ea := List.getElem?_eq_getElem (l := asj) (i := i) (by omega)
        have ec := List.getElem?_eq_getElem (l := css[j + 1]) (i := i) (by omega)
        have sH4 := sT.trans s4
        obtain ⟨z1, z2, ez, rz1, rz2⟩ := (hpj.2 i _ _ ea ec).same sH4
        have hpi : (j + 1) * i < 4 * l := Nat.lt_of_le_of_lt (Nat.mul_le_mul_right i (show j + 1 ≤ 3 by omega)) (by omega)
        have ept := List.getElem?_eq_getElem (l := ps) (i := (j + 1) * i) (by omega)
        have ecell : Sp18.cell (css.getD (j + 1) []) i = (css[j + 1])[i] := by rw [List.getD_eq_getElem?_getD, ey]; exact cell_of ec
        refine ⟨rfl, _, rfl, _, rfl, _, rfl, _, rfl, _, _, rfl, rfl, .inl ⟨by omega, by omega⟩, la, _, _, _, rfl, rfl, sH4.seq hps, (by rw [← Int.natCast_mul]; exact at_ref ept), _, rfl, _, rfl, lr, _, _, _, rfl, rfl, sH4.seq hrs, at_ref er, _, rfl, _, _, _, _, rfl, rfl, sH4.seq hxj, at_ref ea, _, _, _, _, rfl, rfl, SqT.of ez, rfl, _, rfl, _, rfl, lr, _, _, _, rfl, rfl, sH4.seq hrs, at_ref er, _, rfl, _, _, _, _, rfl, rfl, sH4.seq hxj, at_ref ea, _, _, _, _, rfl, rfl, SqT.of ez, rfl, ?_⟩
        refine ⟨p, _, z1, z2, f, R, CR, Tk, n, 4 * l, (j + 1) * i, _, rfl, hf, hA.same sH4, hP4, by omega, hql, (hpp _ _ ept).keep (fun b xs e => sH4 _ _ e), rz1, rz2, by omega, fun H5 t s5 hP5 nt hpr => kN _ _ s5 hP5 ⟨t, rfl, ?_, ?_⟩⟩
        · exact Ne.symm (ne_of_none hacc nt)
        · rw [ecell]; exact hpr
      intro D H2 zs s2 hP2 hzl hzs nD hD
      have hz0 := List.getElem?_eq_getElem (l := zs) (i := 0) (by rw [hzl]; decide)
      have hz1 := List.getElem?_eq_getElem (l := zs) (i := 1) (by rw [hzl]; decide)
      have hz2 := List.getElem?_eq_getElem (l := zs) (i := 2) (by rw [hzl]; decide)
      obtain ⟨t1, f1, _, w1⟩ := hzs 0 _ hz0
      obtain ⟨t2, f2, _, w2⟩ := hzs 1 _ hz1
      obtain ⟨t3, f3, _, w3⟩ := hzs 2 _ hz2
      rw [f1] at hz0
      rw [f2] at hz1
      rw [f3] at hz2
      have hY1 : css.getD 1 [] = y1 := by rw [hcss]; rfl
      have hY2 : css.getD 2 [] = y2 := by rw [hcss]; rfl
      have hY3 : css.getD 3 [] = y3 := by rw [hcss]; rfl
      rw [show 0 + 1 = 1 from rfl, hY1, Nat.one_mul] at w1
      rw [show 1 + 1 = 2 from rfl, hY2] at w2
      rw [show 2 + 1 = 3 from rfl, hY3] at w3
      have J := fun v (hv : v < 4) => joined_four (F := fmt f) (y0 := y0) (y1 := y1) (y2 := y2) (y3 := y3) hi hv
      rw [← hcss, cell_of ey0] at J
      generalize Sp18.turned (fmt f) (4 * l) i (Sp18.cell y1 i) = c1 at w1 J
      generalize Sp18.turned (fmt f) (4 * l) (2 * i) (Sp18.cell y2 i) = c2 at w2 J
      generalize Sp18.turned (fmt f) (4 * l) (3 * i) (Sp18.cell y3 i) = c3 at w3 J
      generalize y0[i] = c0 at q0 J
      have u2 := sT.trans s2
      have at0 : atI zs 0 = some (V.ref t1) := atI_nat hz0
      have at1 : atI zs 1 = some (V.ref t2) := atI_nat hz1
      have at2 : atI zs 2 = some (V.ref t3) := atI_nat hz2
      refine ⟨_, rfl, _, rfl, _, rfl, D, _, _, _, rfl, rfl, SqL.of hD, at1, p, a0, t2, f, R, CR, Tk, n, n + n, c0, c2, rfl, hf, hA.same u2, hP2, q0.same s2, w2, by omega, fun H3 ta s3 hP3 nta ha => ?_⟩
      have u3 := u2.trans s3
      refine ⟨_, rfl, _, rfl, _, rfl, D, _, _, _, rfl, rfl, SqL.of (s3 _ _ hD), at1, p, a0, t2, f, R, CR, Tk, n, n + n, c0, c2, rfl, hf, hA.same u3, hP3, (q0.same s2).same s3, w2.same s3, by omega, fun H4 tb s4 hP4 ntb hb => ?_⟩
      have u4 := u3.trans s4
      have s34 := s3.trans s4
      refine ⟨_, rfl, _, rfl, D, _, _, _, rfl, rfl, SqL.of (s34 _ _ hD), at0, _, rfl, D, _, _, _, rfl, rfl, SqL.of (s34 _ _ hD), at2, p, t1, t3, f, R, CR, Tk, n + n, n + n, c1, c3, rfl, hf, hA.same u4, hP4, w1.same s34, w3.same s34, by omega, fun H5 tc s5 hP5 ntc hc => ?_⟩
      have u5 := u4.trans s5
      have s35 := s34.trans s5
      refine ⟨_, rfl, _, rfl, D, _, _, _, rfl, rfl, SqL.of (s35 _ _ hD), at0, _, rfl, D, _, _, _, rfl, rfl, SqL.of (s35 _ _ hD), at2, p, t1, t3, f, R, CR, Tk, n + n, n + n, c1, c3, rfl, hf, hA.same u5, hP5, w1.same s35, w3.same s35, by omega, fun H6 td s6 hP6 ntd hd => ?_⟩
      have u6 := u5.trans s6
      have t16 := nT.trans (s2.trans (s35.trans s6))
      have lens : l1.length = i ∧ l2.length = i ∧ l3.length = i ∧ l4.length = i := by have := P1.1; have := P2.1; have := P3.1; have := P4.1; simp at *; omega
      have hq6 := t16 _ _ hq
      have e16 := t16 _ _ e1
      have e26 := t16 _ _ e2
      have e36 := t16 _ _ e3
      have e46 := t16 _ _ e4
      have ha6 := ((ha.same s4).same s5).same s6
      have hb6 := (hb.same s5).same s6
      have hc6 := hc.same s6
      clear ha hb hc
      have b7 : n + (n + n) + (n + n + (n + n)) = n * 7 := by omega
      have K6 : TK H6 H6 := TK.refl _
      refine ⟨_, rfl, pq, _, _, _, rfl, rfl, SqT.of hq6, rfl, .inl ⟨rfl, _, SqL.of e16⟩, _, rfl, _, rfl, _, rfl, p, ta, tc, f, R, CR, Tk, _, _, _, _, rfl, hf, hA.same u6, hP6, ha6.keep K6, hc6.keep K6, by omega, fun H7 m1 s7 hP7 nm1 hm1 => ?_⟩
      have u7 := u6.trans s7
      have K7 : TK H6 H7 := K6.trans (TK.of s7)
      have xq_7 := s7 _ _ hq6
      have x1_7 := s7 _ _ e16
      have x2_7 := s7 _ _ e26
      have x3_7 := s7 _ _ e36
      have x4_7 := s7 _ _ e46
      refine ⟨p1, _, _, rfl, rfl, x1_7, line_of_lt (by rw [List.length_map]; omega), ?_⟩
      have k8 := TK.put (o := .lst (l1.map V.ref ++ [V.ref m1])) x1_7
      have u8 : Same H (upd H7 p1 (.lst (l1.map V.ref ++ [V.ref m1]))) := same_put u7 np1
      have hP8 := hP7.lst (p := p1) (xs := l1.map V.ref ++ [V.ref m1])
      have xq_8 : upd H7 p1 (.lst (l1.map V.ref ++ [V.ref m1])) pq = _ := k8 _ _ xq_7
      have x1_8 : upd H7 p1 (.lst (l1.map V.ref ++ [V.ref m1])) p1 = _ := upd_same
      have x2_8 : upd H7 p1 (.lst (l1.map V.ref ++ [V.ref m1])) p2 = _ := (upd_ne (Ne.symm d12)).trans x2_7
      have x3_8 : upd H7 p1 (.lst (l1.map V.ref ++ [V.ref m1])) p3 = _ := (upd_ne (Ne.symm d13)).trans x3_7
      have x4_8 : upd H7 p1 (.lst (l1.map V.ref ++ [V.ref m1])) p4 = _ := (upd_ne (Ne.symm d14)).trans x4_7
      obtain ⟨H8, hH8⟩ : ∃ H8, H8 = upd H7 p1 (.lst (l1.map V.ref ++ [V.ref m1])) := ⟨_, rfl⟩
      rw [← hH8] at k8 u8 hP8 xq_8 x1_8 x2_8 x3_8 x4_8 ⊢
      have K8 : TK H6 H8 := K7.trans k8
      have m1at : TK H7 H8 := k8
      have hm1_8 := hm1.keep k8
      obtain ⟨bz1, bz2, eb, rb1, rb2⟩ := hb6.keep K8
      obtain ⟨dz1, dz2, ed, rd1, rd2⟩ := hd.keep K8
      refine ⟨_, rfl, pq, _, _, _, rfl, rfl, SqT.of xq_8, rfl, .inl ⟨rfl, _, SqL.of x2_8⟩, _, rfl, p, _, rfl, (hA.same u8).plus, _, rfl, tb, _, _, _, rfl, rfl, SqT.of eb, rfl, _, rfl, td, _, _, _, rfl, rfl, SqT.of ed, rfl, Same.refl _, bz1, dz2, _, _, _, _, rfl, hP8, rb1, rd2, by omega, fun g1 hg1 => ⟨_, rfl, p, _, rfl, (hA.same u8).less, _, rfl, tb, _, _, _, rfl, rfl, SqT.of eb, rfl, _, rfl, td, _, _, _, rfl, rfl, SqT.of ed, rfl, Same.refl _, bz2, dz1, _, _, _, _, rfl, hP8, rb2, rd1, by omega, fun g2 hg2 => ⟨two_le_line, fun m2 nm2 => ?_⟩⟩⟩
      have s9 := Same.new (o := .tup [V.int g1, V.int g2]) nm2
      have hm2 : PrAt (upd H8 m2 (.tup [V.int g1, V.int g2])) m2 R _ (_, _) := ⟨g1, g2, upd_same, hg1, hg2⟩
      have hP9 := hP8.tup (p := m2) (xs := [V.int g1, V.int g2])
      obtain ⟨H9, hH9⟩ : ∃ H9, H9 = upd H8 m2 (.tup [V.int g1, V.int g2]) := ⟨_, rfl⟩
      rw [← hH9] at s9 hm2 hP9 ⊢
      have u9 := u8.trans s9
      have K9 : TK H6 H9 := K8.trans (TK.of s9)
      have xq_9 := s9 _ _ xq_8
      have x1_9 := s9 _ _ x1_8
      have x2_9 := s9 _ _ x2_8
      have x3_9 := s9 _ _ x3_8
      have x4_9 := s9 _ _ x4_8
      refine ⟨p2, _, _, rfl, rfl, x2_9, line_of_lt (by rw [List.length_map]; omega), ?_⟩
      have k10 := TK.put (o := .lst (l2.map V.ref ++ [V.ref m2])) x2_9
      have u10 : Same H (upd H9 p2 (.lst (l2.map V.ref ++ [V.ref m2]))) := same_put u9 n2
      have hP10 := hP9.lst (p := p2) (xs := l2.map V.ref ++ [V.ref m2])
      have xq_10 : upd H9 p2 (.lst (l2.map V.ref ++ [V.ref m2])) pq = _ := k10 _ _ xq_9
      have x1_10 : upd H9 p2 (.lst (l2.map V.ref ++ [V.ref m2])) p1 = _ := (upd_ne (d12)).trans x1_9
      have x2_10 : upd H9 p2 (.lst (l2.map V.ref ++ [V.ref m2])) p2 = _ := upd_same
      have x3_10 : upd H9 p2 (.lst (l2.map V.ref ++ [V.ref m2])) p3 = _ := (upd_ne (Ne.symm d23)).trans x3_9
      have x4_10 : upd H9 p2 (.lst (l2.map V.ref ++ [V.ref m2])) p4 = _ := (upd_ne (Ne.symm d24)).trans x4_9
      obtain ⟨H10, hH10⟩ : ∃ H10, H10 = upd H9 p2 (.lst (l2.map V.ref ++ [V.ref m2])) := ⟨_, rfl⟩
      rw [← hH10] at k10 u10 hP10 xq_10 x1_10 x2_10 x3_10 x4_10 ⊢
      have K10 : TK H6 H10 := K9.trans k10
      have m2at : TK H9 H10 := k10
      have hm2_10 := hm2.keep k10
      refine ⟨_, rfl, pq, _, _, _, rfl, rfl, SqT.of xq_10, rfl, .inl ⟨rfl, _, SqL.of x3_10⟩, _, rfl, _, rfl, _, rfl, p, ta, tc, f, R, CR, Tk, _, _, _, _, rfl, hf, hA.same u10, hP10, ha6.keep K10, hc6.keep K10, by omega, fun H11 m3 s11 hP11 nm3 hm3 => ?_⟩
      have u11 := u10.trans s11
      have K11 : TK H6 H11 := K10.trans (TK.of s11)
      have xq_11 := s11 _ _ xq_10
      have x1_11 := s11 _ _ x1_10
      have x2_11 := s11 _ _ x2_10
      have x3_11 := s11 _ _ x3_10
      have x4_11 := s11 _ _ x4_10
      refine ⟨p3, _, _, rfl, rfl, x3_11, line_of_lt (by rw [List.length_map]; omega), ?_⟩
      have k12 := TK.put (o := .lst (l3.map V.ref ++ [V.ref m3])) x3_11
      have u12 : Same H (upd H11 p3 (.lst (l3.map V.ref ++ [V.ref m3]))) := same_put u11 n3
      have hP12 := hP11.lst (p := p3) (xs := l3.map V.ref ++ [V.ref m3])
      have xq_12 : upd H11 p3 (.lst (l3.map V.ref ++ [V.ref m3])) pq = _ := k12 _ _ xq_11
      have x1_12 : upd H11 p3 (.lst (l3.map V.ref ++ [V.ref m3])) p1 = _ := (upd_ne (d13)).trans x1_11
      have x2_12 : upd H11 p3 (.lst (l3.map V.ref ++ [V.ref m3])) p2 = _ := (upd_ne (d23)).trans x2_11
      have x3_12 : upd H11 p3 (.lst (l3.map V.ref ++ [V.ref m3])) p3 = _ := upd_same
      have x4_12 : upd H11 p3 (.lst (l3.map V.ref ++ [V.ref m3])) p4 = _ := (upd_ne (Ne.symm d34)).trans x4_11
      obtain ⟨H12, hH12⟩ : ∃ H12, H12 = upd H11 p3 (.lst (l3.map V.ref ++ [V.ref m3])) := ⟨_, rfl⟩
      rw [← hH12] at k12 u12 hP12 xq_12 x1_12 x2_12 x3_12 x4_12 ⊢
      have K12 : TK H6 H12 := K11.trans k12
      have m3at : TK H11 H12 := k12
      have hm3_12 := hm3.keep k12
      obtain ⟨bz1, bz2, eb, rb1, rb2⟩ := hb6.keep K12
      obtain ⟨dz1, dz2, ed, rd1, rd2⟩ := hd.keep K12
      refine ⟨_, rfl, pq, _, _, _, rfl, rfl, SqT.of xq_12, rfl, .inl ⟨rfl, _, SqL.of x4_12⟩, _, rfl, p, _, rfl, (hA.same u12).less, _, rfl, tb, _, _, _, rfl, rfl, SqT.of eb, rfl, _, rfl, td, _, _, _, rfl, rfl, SqT.of ed, rfl, Same.refl _, bz1, dz2, _, _, _, _, rfl, hP12, rb1, rd2, by omega, fun g1 hg1 => ⟨_, rfl, p, _, rfl, (hA.same u12).plus, _, rfl, tb, _, _, _, rfl, rfl, SqT.of eb, rfl, _, rfl, td, _, _, _, rfl, rfl, SqT.of ed, rfl, Same.refl _, bz2, dz1, _, _, _, _, rfl, hP12, rb2, rd1, by omega, fun g2 hg2 => ⟨two_le_line, fun m4 nm4 => ?_⟩⟩⟩
      have s13 := Same.new (o := .tup [V.int g1, V.int g2]) nm4
      have hm4 : PrAt (upd H12 m4 (.tup [V.int g1, V.int g2])) m4 R _ (_, _) := ⟨g1, g2, upd_same, hg1, hg2⟩
      have hP13 := hP12.tup (p := m4) (xs := [V.int g1, V.int g2])
      obtain ⟨H13, hH13⟩ : ∃ H13, H13 = upd H12 m4 (.tup [V.int g1, V.int g2]) := ⟨_, rfl⟩
      rw [← hH13] at s13 hm4 hP13 ⊢
      have u13 := u12.trans s13
      have K13 : TK H6 H13 := K12.trans (TK.of s13)
      have xq_13 := s13 _ _ xq_12
      have x1_13 := s13 _ _ x1_12
      have x2_13 := s13 _ _ x2_12
      have x3_13 := s13 _ _ x3_12
      have x4_13 := s13 _ _ x4_12
      refine ⟨p4, _, _, rfl, rfl, x4_13, line_of_lt (by rw [List.length_map]; omega), ?_⟩
      have k14 := TK.put (o := .lst (l4.map V.ref ++ [V.ref m4])) x4_13
      have u14 : Same H (upd H13 p4 (.lst (l4.map V.ref ++ [V.ref m4]))) := same_put u13 n4
      have hP14 := hP13.lst (p := p4) (xs := l4.map V.ref ++ [V.ref m4])
      have xq_14 : upd H13 p4 (.lst (l4.map V.ref ++ [V.ref m4])) pq = _ := k14 _ _ xq_13
      have x1_14 : upd H13 p4 (.lst (l4.map V.ref ++ [V.ref m4])) p1 = _ := (upd_ne (d14)).trans x1_13
      have x2_14 : upd H13 p4 (.lst (l4.map V.ref ++ [V.ref m4])) p2 = _ := (upd_ne (d24)).trans x2_13
      have x3_14 : upd H13 p4 (.lst (l4.map V.ref ++ [V.ref m4])) p3 = _ := (upd_ne (d34)).trans x3_13
      have x4_14 : upd H13 p4 (.lst (l4.map V.ref ++ [V.ref m4])) p4 = _ := upd_same
      obtain ⟨H14, hH14⟩ : ∃ H14, H14 = upd H13 p4 (.lst (l4.map V.ref ++ [V.ref m4])) := ⟨_, rfl⟩
      rw [← hH14] at k14 u14 hP14 xq_14 x1_14 x2_14 x3_14 x4_14 ⊢
      have K14 : TK H6 H14 := K13.trans k14
      have m4at : TK H13 H14 := k14
      have hm4_14 := hm4.keep k14
      have k1f : TK H8 H14 := fun b xs e => k14 _ _ (s13 _ _ (k12 _ _ (s11 _ _ (k10 _ _ (s9 _ _ e)))))
      have k2f : TK H10 H14 := fun b xs e => k14 _ _ (s13 _ _ (k12 _ _ (s11 _ _ e)))
      have k3f : TK H12 H14 := fun b xs e => k14 _ _ (s13 _ _ e)
      have kF : TK H1 H14 := fun b xs e => K14 _ _ (t16 _ _ e)
      refine ⟨_, _, _, _, _, _, _, _, rfl, u14, hP14, xq_14, l1 ++ [m1], l2 ++ [m2], l3 ++ [m3], l4 ++ [m4], ?_, ?_, ?_, ?_, ?_, ?_, ?_, ?_⟩
      · rw [x1_14, List.map_append]; rfl
      · rw [x2_14, List.map_append]; rfl
      · rw [x3_14, List.map_append]; rfl
      · rw [x4_14, List.map_append]; rfl
      · rw [map_snoc, J 0 (by decide), ← b7]; rw [← b7] at P1; exact (P1.keep kF).snoc (hm1_8.keep k1f)
      · rw [map_snoc, J 1 (by decide), ← b7]; rw [← b7] at P2; exact (P2.keep kF).snoc (hm2_10.keep k2f)
      · rw [map_snoc, J 2 (by decide), ← b7]; rw [← b7] at P3; exact (P3.keep kF).snoc (hm3_12.keep k3f)
      · rw [map_snoc, J 3 (by decide), ← b7]; rw [← b7] at P4; exact (P4.keep kF).snoc hm4_14
    · rintro σ H1 ⟨v4, v5, v6, v7, v8, v9, v10, v11, rfl, s1, hP1, hq, l1, l2, l3, l4, e1, e2, e3, e4, P1, P2, P3, P4⟩
      rw [List.length_map, a0l, l0] at P1 P2 P3 P4
      have lens : l1.length = l ∧ l2.length = l ∧ l3.length = l ∧ l4.length = l := by have := P1.1; have := P2.1; have := P3.1; have := P4.1; simp at *; omega
      refine ⟨_, rfl, pq, _, _, _, rfl, rfl, SqT.of hq, rfl, _, rfl, pq, _, _, _, rfl, rfl, SqT.of hq, rfl, p1, p2, _, _, rfl, rfl, e1, e2, line_of_le (by rw [List.length_map, List.length_map]; omega), fun t1 n1 => ?_⟩
      have z1 := Same.new (o := .lst (l1.map V.ref ++ l2.map V.ref)) n1
      refine ⟨_, rfl, pq, _, _, _, rfl, rfl, SqT.of (z1 _ _ hq), rfl, t1, p3, _, _, rfl, rfl, upd_same, z1 _ _ e3, line_of_le (by rw [List.length_append, List.length_map, List.length_map, List.length_map]; omega), fun t2 n2 => ?_⟩
      have z2 := Same.new (o := .lst (l1.map V.ref ++ l2.map V.ref ++ l3.map V.ref)) n2
      refine ⟨_, rfl, pq, _, _, _, rfl, rfl, SqT.of (z2 _ _ (z1 _ _ hq)), rfl, t2, p4, _, _, rfl, rfl, upd_same, z2 _ _ (z1 _ _ e4), line_of_le (by rw [List.length_append, List.length_append, List.length_map, List.length_map, List.length_map, List.length_map]; omega), fun t3 n3 => ?_⟩
      have z3 := Same.new (o := .lst (l1.map V.ref ++ l2.map V.ref ++ l3.map V.ref ++ l4.map V.ref)) n3
      have z13 := z1.trans (z2.trans z3)
      refine k _ t3 (s1.trans z13) hP1.lst.lst.lst (fresh_of (s1.trans (z1.trans z2)) n3) ?_
      rw [range_four]
      refine ⟨l1 ++ l2 ++ l3 ++ l4, SqL.of (by rw [upd_same, List.map_append, List.map_append, List.map_append]), (((P1.append P2).append P3).append P4).keep fun b xs e => z13 _ _ e⟩
theorem sc_m : FnScope ["numbers", "parts", "rows", "n", "m", "joined", "j", "total", "i", "x1", "x2"] ["numbers", "parts", "rows"] (defScope s_many_together) := ⟨rfl, rfl, rfl, by decide +kernel, rfl, by decide +kernel, by decide +kernel⟩
theorem ok_m {f : Addr} {fd : FuncData} (Fn : Fun K "many_together" "many_together" s_many_together f fd) (D_ag : Def P w K mg base "pairs_added" 11 ["numbers", "x", "y"] (sp_ag P w K mg base)) (D_ae : Def P w K mg base "turned_back" 11 ["numbers", "part", "x1", "x2"] (sp_ae P w K mg base)) (B_len : mg "len" = none) (B_range : mg "range" = none) : FnOk P w K mg base CX0 12 f fd ["numbers", "parts", "rows"] (sp_m P w K mg base) := by
  refine Fn.ok sc_m (fun vs H Q E h => ?_) (fun cdv A outer s H vs Q E hr h => ?_)
  · obtain ⟨p, la, lr, f, R, CR, T, n, q, l, css, rfl, _⟩ := h; rfl
  · obtain ⟨p, la, lr, f, R, CR, Tk, n, q, l, css, rfl, hf, hA, hP, hX, hq2, hl, hql, ⟨ps, hps, hpl, hpp⟩, ⟨rs, hrs, hrl, hrr⟩, hcl, hcs, hL, k⟩ := h
    refine ⟨_, (pss_cons (ps_set (i := 3) sc_m.nd rfl (by first | exact Or.inl rfl | exact Or.inr rfl) (pe_callB (call_lenK (K := K) rfl) rfl B_len PySem.boot_len (pa_cons (pv 1) pa_nil)))
      (pss_cons (ps_set (i := 4) sc_m.nd rfl (by first | exact Or.inl rfl | exact Or.inr rfl) (pe_callB (call_lenK (K := K) rfl) rfl B_len PySem.boot_len (pa_cons (pe_ix (ix_listK (K := K) rfl) (pv 2) pe_int (fun _ _ => rfl)) pa_nil)))
      (pss_cons (ps_set (i := 5) sc_m.nd rfl (by first | exact Or.inl rfl | exact Or.inr rfl) (pe_lst pa_nil))
      (pss_cons (ps_for PassesOwn.never rfl (pi_range1 rfl B_range (pa_cons (pv 3) pa_nil)) (pg_name (i := 6) sc_m.nd rfl (by first | exact Or.inl rfl | exact Or.inr rfl)) (pss_cons (ps_set (i := 7) sc_m.nd rfl (by first | exact Or.inl rfl | exact Or.inr rfl) (pe_ix (ix_listK (K := K) rfl) (pe_ix (ix_listK (K := K) rfl) (pv 2) pe_int (fun _ _ => rfl)) (pe_op op_mod (pv 6) (pv 4)) (fun _ _ => rfl)))
      (pss_cons (ps_for PassesOwn.never rfl (pi_range2 rfl B_range (pa_cons pe_int (pa_cons (pe_callB (call_lenK (K := K) rfl) rfl B_len PySem.boot_len (pa_cons (pv 2) pa_nil)) pa_nil))) (pg_name (i := 8) sc_m.nd rfl (by first | exact Or.inl rfl | exact Or.inr rfl)) (pss_cons (ps_asg (pe_ix (ix_listK (K := K) rfl) (pe_ix (ix_listK (K := K) rfl) (pv 2) (pv 8) (fun _ _ => rfl)) (pe_op op_mod (pv 6) (pv 4)) (fun _ _ => rfl)) (pg_pair rfl (pg_name (i := 9) sc_m.nd rfl (by first | exact Or.inl rfl | exact Or.inr rfl)) (pg_name (i := 10) sc_m.nd rfl (by first | exact Or.inl rfl | exact Or.inr rfl))))
      (pss_one (ps_set (i := 7) sc_m.nd rfl (by first | exact Or.inl rfl | exact Or.inr rfl) (pe_def D_ag rfl (hr.mono (by decide)) pass0 (pa_cons (pv 0) (pa_cons (pv 7) (pa_cons (pe_def D_ae rfl (hr.mono (by decide)) pass0 (pa_cons (pv 0) (pa_cons (pe_ix (ix_listK (K := K) rfl) (pv 1) (pe_op op_mod (pe_op op_mul (pv 8) (pv 6)) (pv 3)) (fun _ _ => rfl)) (pa_cons (pv 9) (pa_cons (pv 10) pa_nil))))) pa_nil))))))))
      (pss_one (ps_expr (pe_bm PySem.F.plainAttrs_list PySem.F.slot_list_append PySem.F.type_list_append mt_append (pv 5) (pa_cons (pv 7) pa_nil)))))))
      (pss_one (ps_ret (pv 5))))))), ?_⟩
    rw [show start ["numbers", "parts", "rows", "n", "m", "joined", "j", "total", "i", "x1", "x2"] [V.ref p, V.ref la, V.ref lr] = [some (V.ref p), some (V.ref la), some (V.ref lr), none, none, none, none, none, none, none, none] from rfl]
    simp only [tSeq, tAsg, gName, tVar, tC, tOp, tCons, tNil, tCB, List.set_cons_zero, List.set_cons_succ, List.getElem?_cons_zero, List.getElem?_cons_succ, Option.some.injEq, List.cons.injEq, exists_eq_left', exists_and_left, and_true, tLst]
    obtain ⟨hX2, hX4⟩ := hX
    have hr0 := List.getElem?_eq_getElem (l := rs) (i := 0) (by omega)
    have hy0 := List.getElem?_eq_getElem (l := css) (i := 0) (by omega)
    obtain ⟨as0, hx0, hp0⟩ := hrr 0 _ _ hr0 hy0
    have l0 : (css[0]).length = l := hcs _ (List.mem_of_getElem? hy0)
    have a0l := hp0.1
    refine ⟨_, .inl ⟨_, hps, rfl⟩, lr, _, _, _, rfl, rfl, hrs, at_ref hr0, _, .inl ⟨_, hx0, rfl⟩, line_of_le (by decide : 0 ≤ 100000), fun p1 np1 => ?_⟩
    rw [List.length_map, List.length_map, hpl, a0l, l0]
    have hqp : 0 < q := by omega
    refine tFor_rng1 (n := q * l) (fun R r => ⟨_, rfl, r⟩) (by omega) (fun j σ H1 => ∃ v6 v7 v8 v9 v10 : Option V, σ = [some (V.ref p), some (V.ref la), some (V.ref lr), some (V.int (q * l : Nat)), some (V.int (l : Nat)), some (V.ref p1), v6, v7, v8, v9, v10] ∧ Same H H1 ∧ Pl H1 ∧ ∃ ls : List Addr, H1 p1 = some (.lst (ls.map V.ref)) ∧ Prs H1 ls R (n * (2 * q - 1)) ((List.range j).map (Sp18.joined (fmt f) (q * l) q css))) ⟨none, none, none, none, none, rfl, Same.new np1, hP.lst, [], upd_same, rfl, fun i a c e => by simp at e⟩ ?_ ?_
    · rintro j σ H1 hj ⟨v6, v7, v8, v9, v10, rfl, s1, hP1, ls, hls, hlo⟩
      have hjm : j % l < l := Nat.mod_lt _ hl
      have lsl := hlo.1
      rw [List.length_map, List.length_range] at lsl
      have ea0 := List.getElem?_eq_getElem (l := as0) (i := j % l) (by omega)
      have ec0 := List.getElem?_eq_getElem (l := css[0]) (i := j % l) (by omega)
      have ecell0 : Sp18.cell (css.getD 0 []) (j % l) = (css[0])[j % l] := by rw [List.getD_eq_getElem?_getD, hy0]; exact cell_of ec0
      have q0 := (hp0.2 _ _ _ ea0 ec0).same s1
      refine ⟨_, rfl, lr, _, _, _, rfl, rfl, s1.seq hrs, at_ref hr0, _, rfl, _, rfl, _, _, rfl, rfl, by omega, _, _, _, _, rfl, rfl, s1.seq hx0, (by rw [← Int.natCast_emod]; exact at_ref ea0), ?_⟩
      dsimp only [tSeq, tAsg, gName]
      have hq8 : q ≤ 8192 := Nat.le_trans (Nat.le_mul_of_pos_right q hl) hql
      refine tFor_rng2 (lo := 1) (hi := (q : Int)) (n := q - 1) (fun R r => ⟨_, rfl, _, rfl, _, .inl ⟨_, s1.seq hrs, by rw [List.length_map, hrl, hcl]⟩, r⟩) (by omega) (by omega) (by omega) (fun i σ H2 => ∃ (t : Addr) (v8 v9 v10 : Option V), σ = [some (V.ref p), some (V.ref la), some (V.ref lr), some (V.int (q * l : Nat)), some (V.int (l : Nat)), some (V.ref p1), some (V.int (j : Nat)), some (V.ref t), v8, v9, v10] ∧ Same H1 H2 ∧ Pl H2 ∧ PrAt H2 t R (n * (2 * i + 1)) (manyTo (fmt f) (q * l) l css j i)) ⟨_, _, _, _, rfl, Same.refl _, hP1, ?_⟩ ?_ ?_
      · show PrAt H1 _ R (n * (2 * 0 + 1)) (Sp18.cell (css.getD 0 []) (j % l))
        rw [ecell0, Nat.mul_zero, Nat.zero_add, Nat.mul_one]; exact q0
      · rintro i σ H2 hi ⟨t, v8, v9, v10, rfl, s2, hP2, ht⟩
        have s12 := s1.trans s2
        have er := List.getElem?_eq_getElem (l := rs) (i := i + 1) (by omega)
        have ey := List.getElem?_eq_getElem (l := css) (i := i + 1) (by omega)
        obtain ⟨asj, hxj, hpj⟩ := hrr (i + 1) _ _ er ey
        have lj : (css[i + 1]).length = l := hcs _ (List.mem_of_getElem? ey)
        have ajl := hpj.1
        have ea := List.getElem?_eq_getElem (l := asj) (i := j % l) (by omega)
        have ec := List.getElem?_eq_getElem (l := css[i + 1]) (i := j % l) (by omega)
        have ecell : Sp18.cell (css.getD (i + 1) []) (j % l) = (css[i + 1])[j % l] := by rw [List.getD_eq_getElem?_getD, ey]; exact cell_of ec
        obtain ⟨z1, z2, ez, rz1, rz2⟩ := (hpj.2 _ _ _ ea ec).same s12
        have hN0 : 0 < q * l := Nat.mul_pos hqp hl
        have hpi : (i + 1) * j % (q * l) < q * l := Nat.mod_lt _ hN0
        have ept := List.getElem?_eq_getElem (l := ps) (i := (i + 1) * j % (q * l)) (by omega)
        have e1i : (1 : Int) + (i : Nat) = ((i + 1 : Nat) : Int) := by omega
        rw [e1i]
        have bL : n * (2 * i + 1) + (n + n) ≤ LIM := by
          have : n * (2 * i + 1) + (n + n) = n * (2 * i + 3) := by rw [Nat.mul_add n (2 * i) 1, Nat.mul_add n (2 * i) 3]; omega
          rw [this]
          exact Nat.le_trans (Nat.mul_le_mul_left n (by omega)) hL
        refine ⟨_, rfl, _, rfl, lr, _, _, _, rfl, rfl, s12.seq hrs, at_ref er, _, rfl, _, rfl, _, _, rfl, rfl, by omega, _, _, _, _, rfl, rfl, s12.seq hxj, (by rw [← Int.natCast_emod]; exact at_ref ea), _, .int z1, .int z2, rfl, ez, ?_⟩
        refine ⟨_, rfl, _, rfl, _, rfl, _, rfl, _, rfl, _, rfl, _, _, rfl, rfl, .inl ⟨by omega, by omega⟩, _, rfl, _, _, rfl, rfl, by omega, la, _, _, _, rfl, rfl, s12.seq hps, (by rw [← Int.natCast_mul, ← Int.natCast_emod]; exact at_ref ept), _, rfl, _, rfl, p, _, z1, z2, f, R, CR, Tk, n, q * l, (i + 1) * j % (q * l), _, rfl, hf, hA.same s12, hP2, hN0, hql, (hpp _ _ ept).keep (fun b xs e => s12 _ _ e), rz1, rz2, by omega, fun H3 t1 s3 hP3 nt1 hpr => ?_⟩
        rw [turned_mod hN0] at hpr
        refine ⟨p, t, t1, f, R, CR, Tk, _, _, _, _, rfl, hf, hA.same (s12.trans s3), hP3, ht.same s3, hpr, bL, fun H4 t2 s4 hP4 nt2 hpr2 => ⟨t2, _, _, _, rfl, s2.trans (s3.trans s4), hP4, ?_⟩⟩
        rw [manyTo_succ, ecell]
        have : n * (2 * (i + 1) + 1) = n * (2 * i + 1) + (n + n) := by rw [show 2 * (i + 1) + 1 = 2 * i + 1 + 2 by omega, Nat.mul_add n (2 * i + 1) 2]; omega
        rw [this]; exact hpr2
      · rintro σ H2 ⟨t, v8, v9, v10, rfl, s2, hP2, ht⟩
        have hls2 := s2 _ _ hls
        refine ⟨_, rfl, .inl ⟨rfl, _, SqL.of hls2⟩, _, rfl, p1, _, _, rfl, rfl, hls2, line_of_lt (by rw [List.length_map]; omega), _, _, _, _, _, rfl, same_put (s1.trans s2) np1, hP2.lst, ls ++ [t], ?_, ?_⟩
        · rw [upd_same, List.map_append]; rfl
        · rw [map_snoc, joined_many hqp hX2 hX4]
          have e3 : 2 * (q - 1) + 1 = 2 * q - 1 := by omega
          rw [e3] at ht
          exact (hlo.keep (fun b xs e => (TK.put hls2) _ _ (s2 _ _ e))).snoc (ht.keep (TK.put hls2))
    · rintro σ H1 ⟨v6, v7, v8, v9, v10, rfl, s1, hP1, ls, hls, hlo⟩
      exact ⟨_, rfl, k H1 p1 s1 hP1 np1 ⟨ls, SqL.of hls, hlo⟩⟩
theorem sc_au : FnScope ["numbers", "parts", "rows"] ["numbers", "parts", "rows"] (defScope s_together) := ⟨rfl, rfl, rfl, by decide +kernel, rfl, by decide +kernel, by decide +kernel⟩
theorem ok_au {f : Addr} {fd : FuncData} (Fn : Fun K "together" "together" s_together f fd) (D_q : Def P w K mg base "two_together" 12 ["numbers", "parts", "rows"] (sp_q P w K mg base)) (D_l : Def P w K mg base "four_together" 12 ["numbers", "parts", "rows"] (sp_l P w K mg base)) (D_m : Def P w K mg base "many_together" 12 ["numbers", "parts", "rows"] (sp_m P w K mg base)) (B_len : mg "len" = none) : FnOk P w K mg base CX0 13 f fd ["numbers", "parts", "rows"] (sp_au P w K mg base) := by
  refine Fn.ok sc_au (fun vs H Q E h => ?_) (fun cdv A outer s H vs Q E hr h => ?_)
  · obtain ⟨p, la, lr, f, R, CR, T, n, q, l, css, rfl, _⟩ := h; rfl
  · obtain ⟨p, la, lr, f, R, CR, T, n, q, l, css, rfl, hf, hA, hP, hX, hq2, hl, hql, hps, hrs, hcl, hcs, hL, k⟩ := h
    refine ⟨_, (pss_cons (ps_if (pt_cmpR op_eq (pe_callB (call_lenK (K := K) rfl) rfl B_len PySem.boot_len (pa_cons (pv 2) pa_nil)) pe_int (nomark _)) (pss_one (ps_ret (pe_def D_q rfl (hr.mono (by decide)) pass0 (pa_cons (pv 0) (pa_cons (pv 1) (pa_cons (pv 2) pa_nil)))))) pss_nil)
      (pss_cons (ps_if (pt_cmpR op_eq (pe_callB (call_lenK (K := K) rfl) rfl B_len PySem.boot_len (pa_cons (pv 2) pa_nil)) pe_int (nomark _)) (pss_one (ps_ret (pe_def D_l rfl (hr.mono (by decide)) pass0 (pa_cons (pv 0) (pa_cons (pv 1) (pa_cons (pv 2) pa_nil)))))) pss_nil)
      (pss_one (ps_ret (pe_def D_m rfl (hr.mono (by decide)) pass0 (pa_cons (pv 0) (pa_cons (pv 1) (pa_cons (pv 2) pa_nil)))))))), ?_⟩
    rw [show start ["numbers", "parts", "rows"] [V.ref p, V.ref la, V.ref lr] = [some (V.ref p), some (V.ref la), some (V.ref lr)] from rfl]
    simp only [tSeq, tRet, tIfS, tNext, tVar, tC, tOp, tTest, tCall, tCons, tNil, tCB, rEq, scal, List.append_nil, List.getElem?_cons_zero, List.getElem?_cons_succ, Option.some.injEq, V.int.injEq, V.bl.injEq, List.cons.injEq, exists_eq_left', exists_and_left, and_true, true_and, decide_eq_true_eq, LenV]
    obtain ⟨rs, hr1, hr2, hr3⟩ := id hrs
    have hrq : rs.length = q := by omega
    refine ⟨q, .inl ⟨_, hr1, by rw [List.length_map]; omega⟩, ?_⟩
    by_cases c2 : q = 2
    · rw [if_pos (by omega)]; exact ⟨p, la, lr, f, R, CR, T, n, q, l, css, rfl, hf, hA, hP, c2, hq2, hl, hql, hps, hrs, hcl, hcs, hL, k⟩
    rw [if_neg (by omega)]
    refine ⟨q, .inl ⟨_, hr1, by rw [List.length_map]; omega⟩, ?_⟩
    by_cases c4 : q = 4
    · rw [if_pos (by omega)]; exact ⟨p, la, lr, f, R, CR, T, n, q, l, css, rfl, hf, hA, hP, c4, hq2, hl, hql, hps, hrs, hcl, hcs, hL, k⟩
    rw [if_neg (by omega)]
    exact ⟨p, la, lr, f, R, CR, T, n, q, l, css, rfl, hf, hA, hP, ⟨c2, c4⟩, hq2, hl, hql, hps, hrs, hcl, hcs, hL, k⟩
end
end Wk
set_option linter.all false
set_option Elab.async false
set_option maxRecDepth 100000
set_option maxHeartbeats 4000000
namespace Wk
open PySem PySem.Spec PyProof.Rows L2 Sig
open PySem.W (Codec)
open Sp18Neutral (fmt)
section
variable {P : Program} {w : World} {K : PySem.W.Frag} {mg : Str → Option Value} {base : Heap}
theorem sc_g : FnScope ["f", "row", "tame", "x1", "x2"] ["f", "row"] (defScope s_arithmetic_for) := ⟨rfl, rfl, rfl, by decide +kernel, rfl, by decide +kernel, by decide +kernel⟩
theorem ok_g {f : Addr} {fd : FuncData} (Fn : Fun K "arithmetic_for" "arithmetic_for" s_arithmetic_for f fd) {C_Plain : Addr} {C_Spread : Addr} (MH_x : MHeld P w K mg base 10 C_Plain "taken" (sp_x C_Plain)) (MH_ad : MHeld P w K mg base 10 C_Plain "given" (sp_ad C_Plain)) (MH_w : MHeld P w K mg base 10 C_Plain "factor" (sp_w C_Plain)) (MH_aj : MHeld P w K mg base 10 C_Plain "plus" (sp_aj C_Plain)) (MH_ai : MHeld P w K mg base 10 C_Plain "less" (sp_ai C_Plain)) (MH_aa : MHeld P w K mg base 10 C_Plain "times" (sp_aa C_Plain)) (MH_ac : MHeld P w K mg base 10 C_Plain "minus" (sp_ac C_Plain)) (MH_v : MHeld P w K mg base 10 C_Spread "taken" (sp_v C_Spread)) (MH_u : MHeld P w K mg base 10 C_Spread "given" (sp_u C_Spread)) (MH_k : MHeld P w K mg base 10 C_Spread "factor" (sp_k C_Spread)) (MH_y : MHeld P w K mg base 10 C_Spread "plus" (sp_y C_Spread)) (MH_af : MHeld P w K mg base 10 C_Spread "less" (sp_af C_Spread)) (MH_r : MHeld P w K mg base 10 C_Spread "times" (sp_r C_Spread)) (MH_n : MHeld P w K mg base 10 C_Spread "minus" (sp_n C_Spread)) (T_by : Tab K mg "TAME" (fun F => ((tameB F : Nat) : Int))) (D_aq : Def P w K mg base "all_below" 1 ["f", "row", "limit"] (sp_aq K)) {t_PLACES : Nat} (G_bl : mg "PLACES" = some (.int (80) t_PLACES)) (N_Spread : New P w K mg base "Spread" 1 C_Spread (sp_f C_Spread)) (N_Plain : New P w K mg base "Plain" 1 C_Plain (sp_h C_Plain)) : FnOk P w K mg base CX0 11 f fd ["f", "row"] (sp_g P w K mg base) := by
  refine Fn.ok sc_g (fun vs H Q E h => ?_) (fun cdv A outer s H vs Q E hr h => ?_)
  · obtain ⟨f, la, xs, rfl, _⟩ := h; rfl
  · obtain ⟨f, la, xs, rfl, hf, hP, hx, hl, hn, k⟩ := h
    refine ⟨_, (pss_cons (ps_set (i := 2) sc_g.nd rfl (by first | exact Or.inl rfl | exact Or.inr rfl) (pe_and (pe_def D_aq rfl (hr.mono (by decide)) pass0 (pa_cons (pv 0) (pa_cons (pe_lc (own := [("x1", 3), ("x2", 4)]) rfl sc_g.nd (pi_listK (K := K) rfl (pv 1)) (blkOk_by rfl) (fun _ _ _ _ _ => (pg_pair rfl (pg_name (i := 3) sc_g.nd rfl (by first | exact Or.inl rfl | exact Or.inr rfl)) (pg_name (i := 4) sc_g.nd rfl (by first | exact Or.inl rfl | exact Or.inr rfl)))) (fun _ _ _ _ _ => pts_nil) (fun _ _ _ _ _ => (pv 3))) (pa_cons (pe_tab T_by rfl (pv 0) (fun _ _ => rfl)) pa_nil)))) (pe_one (pe_def D_aq rfl (hr.mono (by decide)) pass0 (pa_cons (pv 0) (pa_cons (pe_lc (own := [("x1", 3), ("x2", 4)]) rfl sc_g.nd (pi_listK (K := K) rfl (pv 1)) (blkOk_by rfl) (fun _ _ _ _ _ => (pg_pair rfl (pg_name (i := 3) sc_g.nd rfl (by first | exact Or.inl rfl | exact Or.inr rfl)) (pg_name (i := 4) sc_g.nd rfl (by first | exact Or.inl rfl | exact Or.inr rfl)))) (fun _ _ _ _ _ => pts_nil) (fun _ _ _ _ _ => (pv 4))) (pa_cons (pe_tab T_by rfl (pv 0) (fun _ _ => rfl)) pa_nil)))))))
      (pss_one (ps_ret (pe_ifExp (pt_val (pv 2)) (pe_new N_Spread rfl (hr.mono (by decide)) pass0 (pa_cons (pv 0) (pa_cons (pe_glob (v := .int (80)) rfl G_bl ⟨_, rfl⟩) pa_nil))) (pe_new N_Plain rfl (hr.mono (by decide)) pass0 (pa_cons (pv 0) pa_nil)))))), ?_⟩
    rw [show start ["f", "row", "tame", "x1", "x2"] [V.int f, V.ref la] = [some (V.int f), some (V.ref la), none, none, none] from rfl]
    simp only [tSeq, tAsg, gName, tRet, tVar, tC, tB, tIf, tCons, tNil, tMake, List.append_nil, List.set_cons_zero, List.set_cons_succ, List.getElem?_cons_zero, List.getElem?_cons_succ, Option.some.injEq, exists_eq_left']
    obtain ⟨as, hxs, hal, hxt⟩ := id hx
    have n1 : ∀ z ∈ xs.map (fun x => x.1), Nm f z := fun z hz => by obtain ⟨x, hx2, rfl⟩ := List.mem_map.mp hz; exact (hn x hx2).1
    have n2 : ∀ z ∈ xs.map (fun x => x.2), Nm f z := fun z hz => by obtain ⟨x, hx2, rfl⟩ := List.mem_map.mp hz; exact (hn x hx2).2
    have plain_end : ∀ H1, Same H H1 → Pl H1 → ∀ (x dx : Addr), H1 x = none → H1 dx = none → dx ≠ x → sp_h C_Plain [V.ref x, V.int f] (upd (upd H1 dx (HO.own x)) x (HO.ins C_Plain dx [])) (fun v H2 => v = V.non ∧ Q (V.ref x) H2) E0 := by
      intro H1 s1 hP1 x dx nx nd ne
      refine ⟨x, dx, f, rfl, upd_same, rfl, k _ x _ _ _ (same_put (same_put (same_put s1 (fresh_of s1 nd)) (fresh_of s1 nx)) (fresh_of s1 nx)) hP1.own.ins.ins (ar_plain hf upd_same MH_x MH_ad MH_w MH_aj MH_ai MH_aa MH_ac) fun y hy => ?_⟩
      obtain ⟨q1, q2⟩ := hn y hy
      exact ⟨by show _ < _; omega, by show _ < _; omega⟩
    refine ⟨_, rfl, ?_⟩
    refine tLc_one (la := la) ((xs.map fun x => x.1).map V.int) (fun R r => ⟨_, rfl, r⟩) hP (hxs) (by rw [List.length_map, List.length_map, List.length_map, hal]) (line_of_le (by rw [List.length_map]; omega)) ?_ ?_
    · intro i x z H1 Nx ex ez s1 hP1 kN
      obtain ⟨a, ea, rfl⟩ := map_at ex
      obtain ⟨t, et, rfl⟩ := map_at ez
      obtain ⟨u, eu, rfl⟩ := map_at et
      have tup := s1 _ _ (hxt i a u ea eu)
      exact ⟨a, _, _, rfl, tup, rfl, _, rfl, kN⟩
    intro D H1 s1 hP1 hD
    refine ⟨_, rfl, f, rfl, hf, f, D, xs.map (fun x => x.1), tameB (fmt f), rfl, hf, hP1, SqL.of hD, n1, _, rfl, ?_⟩
    by_cases c1 : ∀ z ∈ xs.map (fun x => x.1), mag (fmt f) z.toNat < tameB (fmt f)
    · rw [if_pos (decide_eq_true c1)]
      refine ⟨_, rfl, ?_⟩
      refine tLc_one (la := la) ((xs.map fun x => x.2).map V.int) (fun R r => ⟨_, rfl, r⟩) hP1 (s1.seq hxs) (by rw [List.length_map, List.length_map, List.length_map, hal]) (line_of_le (by rw [List.length_map]; omega)) ?_ ?_
      · intro i x z H9 Nx ex ez s2 hP9 kN
        obtain ⟨a, ea, rfl⟩ := map_at ex
        obtain ⟨t, et, rfl⟩ := map_at ez
        obtain ⟨u, eu, rfl⟩ := map_at et
        have tup := s2 _ _ (s1 _ _ (hxt i a u ea eu))
        exact ⟨a, _, _, rfl, tup, rfl, _, rfl, kN⟩
      intro D2 H2 s2 hP2 hD2
      refine ⟨_, rfl, f, rfl, hf, f, D2, xs.map (fun x => x.2), tameB (fmt f), rfl, hf, hP2, SqL.of hD2, n2, _, rfl, ?_⟩
      by_cases c2 : ∀ z ∈ xs.map (fun x => x.2), mag (fmt f) z.toNat < tameB (fmt f)
      · rw [if_pos (decide_eq_true c2)]
        intro x dx nx nd ne
        have s12 := s1.trans s2
        refine ⟨x, dx, f, 80, rfl, hf, upd_same, fun H3 k1 k2 e3 => ⟨rfl, ?_⟩⟩
        have s3 : Same H H3 := fun b o e => k1 b o (ne_of_none e (fresh_of s12 nx)) (by rw [upd_ne (ne_of_none e (fresh_of s12 nx)), upd_ne (ne_of_none e (fresh_of s12 nd))]; exact s12 _ _ e)
        have hP3 : Pl H3 := fun b o e => by
          by_cases cb : b = x
          · subst cb; rw [e3] at e; cases e; trivial
          · cases c : upd (upd H2 dx (.own x)) x (.ins C_Spread dx []) b with
            | none => rw [k2 b cb c] at e; cases e
            | some u => rw [k1 b u cb c] at e; cases e; exact hP2.own.ins b _ c
        refine k _ x _ _ _ s3 hP3 (ar_spread hf e3 MH_v MH_u MH_k MH_y MH_af MH_r MH_n) fun y hy => ?_
        obtain ⟨q1, q2⟩ := hn y hy
        exact ⟨tame_T hf.std (by omega) (c1 _ (List.mem_map.mpr ⟨y, hy, rfl⟩)), tame_T hf.std (by omega) (c2 _ (List.mem_map.mpr ⟨y, hy, rfl⟩))⟩
      · rw [if_neg (by rw [decide_eq_true_eq]; exact c2)]
        exact plain_end _ (s1.trans s2) hP2
    · rw [if_neg (by rw [decide_eq_true_eq]; exact c1)]
      exact ⟨_, rfl, by rw [if_neg (by decide)]; exact plain_end _ s1 hP1⟩
theorem sc_at : FnScope ["f", "row", "numbers", "n", "table", "rows", "p", "count", "parts", "j", "x1", "x2", "i"] ["f", "row"] (defScope s_transform) := ⟨rfl, rfl, rfl, by decide +kernel, rfl, by decide +kernel, by decide +kernel⟩
theorem ok_at {f : Addr} {fd : FuncData} (Fn : Fun K "transform" "transform" s_transform f fd) (D_g : Def P w K mg base "arithmetic_for" 11 ["f", "row"] (sp_g P w K mg base)) (D_o : Def P w K mg base "part_of_turn" 11 ["numbers", "f", "n", "j"] (sp_o P w K mg base)) (D_ba : Def P w K mg base "divisors" 2 ["n"] (sp_ba K)) (D_au : Def P w K mg base "together" 13 ["numbers", "parts", "rows"] (sp_au P w K mg base)) (B_len : mg "len" = none) (B_range : mg "range" = none) (B_reversed : mg "reversed" = none) : FnOk P w K mg base CX0 14 f fd ["f", "row"] (sp_at K) := by
  refine Fn.ok sc_at (fun vs H Q E h => ?_) (fun cdv A outer s H vs Q E hr h => ?_)
  · obtain ⟨f, la, xs, rfl, _⟩ := h; rfl
  · obtain ⟨f, la, xs, rfl, hf, hP, hx, hl1, hl, hn, k⟩ := h
    refine ⟨_, (pss_cons (ps_set (i := 2) sc_at.nd rfl (by first | exact Or.inl rfl | exact Or.inr rfl) (pe_def D_g rfl (hr.mono (by decide)) pass0 (pa_cons (pv 0) (pa_cons (pv 1) pa_nil))))
      (pss_cons (ps_set (i := 3) sc_at.nd rfl (by first | exact Or.inl rfl | exact Or.inr rfl) (pe_callB (call_lenK (K := K) rfl) rfl B_len PySem.boot_len (pa_cons (pv 1) pa_nil)))
      (pss_cons (ps_setLc (own := [("j", 9)]) (i := 4) rfl sc_at.nd rfl rfl (sw_true rfl rfl rfl rfl) (pi_range1 rfl B_range (pa_cons (pv 3) pa_nil)) (blkOk_by rfl) (fun _ _ _ _ _ => (pg_name (i := 9) sc_at.nd rfl (by first | exact Or.inl rfl | exact Or.inr rfl))) (fun _ _ _ _ _ => pts_nil) (fun _ _ _ _ _ => (pe_def D_o rfl (hr.mono (by decide)) pass0 (pa_cons (pv 2) (pa_cons (pv 0) (pa_cons (pv 3) (pa_cons (pv 9) pa_nil)))))))
      (pss_cons (ps_set (i := 5) sc_at.nd rfl (by first | exact Or.inl rfl | exact Or.inr rfl) (pe_lc (own := [("x1", 10), ("x2", 11)]) rfl sc_at.nd (pi_listK (K := K) rfl (pv 1)) (blkOk_by rfl) (fun _ _ _ _ _ => (pg_pair rfl (pg_name (i := 10) sc_at.nd rfl (by first | exact Or.inl rfl | exact Or.inr rfl)) (pg_name (i := 11) sc_at.nd rfl (by first | exact Or.inl rfl | exact Or.inr rfl)))) (fun _ _ _ _ _ => pts_nil) (fun _ _ _ _ _ => (pe_lst (pa_cons (pe_tup (pa_cons (pe_methD (P := P) (w := w) (K := K) (mg := mg) (base := base) (kk := 10) rfl rfl rfl rfl rfl (hr.mono (by decide)) (pv 2) pass0 (pa_cons (pv 10) pa_nil)) (pa_cons (pe_methD (P := P) (w := w) (K := K) (mg := mg) (base := base) (kk := 10) rfl rfl rfl rfl rfl (hr.mono (by decide)) (pv 2) pass0 (pa_cons (pv 11) pa_nil)) pa_nil))) pa_nil)))))
      (pss_cons (ps_for PassesOwn.never rfl (pi_reversed rfl B_reversed (pa_cons (pe_def D_ba rfl (hr.mono (by decide)) pass0 (pa_cons (pv 3) pa_nil)) pa_nil)) (pg_name (i := 6) sc_at.nd rfl (by first | exact Or.inl rfl | exact Or.inr rfl)) (pss_cons (ps_set (i := 7) sc_at.nd rfl (by first | exact Or.inl rfl | exact Or.inr rfl) (pe_op op_fdivB (pe_callB (call_lenK (K := K) rfl) rfl B_len PySem.boot_len (pa_cons (pv 5) pa_nil)) (pv 6)))
      (pss_cons (ps_set (i := 8) sc_at.nd rfl (by first | exact Or.inl rfl | exact Or.inr rfl) (pe_slice3K (K := K) rfl (pv 4) po_none po_none (po_some (pv 7))))
      (pss_one (ps_set (i := 5) sc_at.nd rfl (by first | exact Or.inl rfl | exact Or.inr rfl) (pe_lc (own := [("i", 12)]) rfl sc_at.nd (pi_range1 rfl B_range (pa_cons (pv 7) pa_nil)) (blkOk_by rfl) (fun _ _ _ _ _ => (pg_name (i := 12) sc_at.nd rfl (by first | exact Or.inl rfl | exact Or.inr rfl))) (fun _ _ _ _ _ => pts_nil) (fun _ _ _ _ _ => (pe_def D_au rfl (hr.mono (by decide)) pass0 (pa_cons (pv 2) (pa_cons (pv 8) (pa_cons (pe_slice3K (K := K) rfl (pv 5) (po_some (pv 12)) po_none (po_some (pv 7))) pa_nil)))))))))))
      (pss_one (ps_ret (pe_lc (own := [("x1", 10), ("x2", 11)]) rfl sc_at.nd (pi_listK (K := K) rfl (pe_ix (ix_listK (K := K) rfl) (pv 5) pe_int (fun _ _ => rfl))) (blkOk_by rfl) (fun _ _ _ _ _ => (pg_pair rfl (pg_name (i := 10) sc_at.nd rfl (by first | exact Or.inl rfl | exact Or.inr rfl)) (pg_name (i := 11) sc_at.nd rfl (by first | exact Or.inl rfl | exact Or.inr rfl)))) (fun _ _ _ _ _ => pts_nil) (fun _ _ _ _ _ => (pe_tup (pa_cons (pe_methD (P := P) (w := w) (K := K) (mg := mg) (base := base) (kk := 10) rfl rfl rfl rfl rfl (hr.mono (by decide)) (pv 2) pass0 (pa_cons (pv 10) pa_nil)) (pa_cons (pe_methD (P := P) (w := w) (K := K) (mg := mg) (base := base) (kk := 10) rfl rfl rfl rfl rfl (hr.mono (by decide)) (pv 2) pass0 (pa_cons (pv 11) pa_nil)) pa_nil)))))))))))), ?_⟩
    rw [show start ["f", "row", "numbers", "n", "table", "rows", "p", "count", "parts", "j", "x1", "x2", "i"] [V.int f, V.ref la] = [some (V.int f), some (V.ref la), none, none, none, none, none, none, none, none, none, none, none] from rfl]
    simp only [tSeq, tAsg, gName, tVar, tCall, tCons, tNil, tCB, List.append_nil, List.set_cons_zero, List.set_cons_succ, List.getElem?_cons_zero, List.getElem?_cons_succ, Option.some.injEq, List.cons.injEq, exists_eq_left', exists_and_left, and_true]
    obtain ⟨as, hxs, hal, hxt⟩ := id hx
    obtain ⟨n, hnn⟩ : ∃ n, n = xs.length := ⟨_, rfl⟩
    rw [← hnn] at hl1 hl hal
    obtain ⟨X, hX⟩ : ∃ X, X = plC (fmt f) xs := ⟨_, rfl⟩
    have hXl : X.length = n := by rw [hX]; unfold plC; rw [List.length_map, hnn]
    have hXi : ∀ (i : Nat) (x : Int × Int), xs[i]? = some x → X[i]? = some (Sp18.plain (fmt f) x.1.toNat, Sp18.plain (fmt f) x.2.toNat) := fun i x e => by rw [hX]; unfold plC; rw [List.getElem?_map, e]; rfl
    rw [← hX] at k
    refine ⟨f, la, xs, rfl, hf, hP, hx, by omega, hn, fun H1 p R CR T s1 hP1 hA hT => ⟨_, .inl ⟨_, s1.seq hxs, rfl⟩, ?_⟩⟩
    rw [List.length_map, hal]
    refine tLc_rngG (n := n) (fun D j z H4 => ∃ t, z = V.ref t ∧ t ≠ D ∧ PartAt H4 t (fmt f) CR n j) ?_ (fun R r => ⟨_, rfl, r⟩) hP1 (by omega) ?_ ?_
    · rintro D j z H4 H5 sx ⟨t, rfl, nD, hp⟩
      refine ⟨t, rfl, nD, ?_⟩
      unfold PartAt at hp ⊢
      split
      · next c => rw [if_pos c] at hp; exact sx _ _ nD hp
      · next c => rw [if_neg c] at hp; obtain ⟨cz, sz, e, r⟩ := hp; exact ⟨cz, sz, sx _ _ nD e, r⟩
    · rintro D j H4 Nx hj s4 hP4 ⟨acc, hacc⟩ kN
      exact ⟨rfl, _, rfl, _, rfl, _, rfl, _, rfl, p, f, R, CR, T, n, j, rfl, hf, hA.same s4, hP4, by omega, by omega, fun H5 t s5 hP5 nt hpt => kN _ _ s5 hP5 ⟨t, rfl, Ne.symm (ne_of_none hacc nt), hpt⟩⟩
    intro pt H2 zs s2 hP2 hzl hzs npt hpt
    obtain ⟨ts, rfl, hts⟩ := refs_of (Φ := fun j t => t ≠ pt ∧ PartAt H2 t (fmt f) CR n j) hzs
    rw [List.length_map] at hzl
    have hPT : PartsAt K H2 pt (fmt f) CR n := ⟨ts, SqL.of hpt, hzl, fun j a e => (hts j a e).2⟩
    have s12 := s1.trans s2
    refine tLc_listG (xs := as.map V.ref) (fun D i z H4 => ∃ r a : Addr, z = V.ref r ∧ r ≠ D ∧ a ≠ D ∧ H4 r = some (.lst [V.ref a]) ∧ ∀ x, xs[i]? = some x → PrAt H4 a R 1 (Sp18.plain (fmt f) x.1.toNat, Sp18.plain (fmt f) x.2.toNat)) ?_ (fun R r => ⟨_, rfl, r _ _ (Same.refl _) hP2 (s12.seq hxs)⟩) (line_of_le (by rw [List.length_map]; omega)) ?_ ?_
    · rintro D j z H4 H5 sx ⟨r, a, rfl, nD, nD2, e, q⟩
      refine ⟨r, a, rfl, nD, nD2, sx _ _ nD e, fun x ex => ?_⟩
      obtain ⟨z1, z2, et, rr⟩ := q x ex
      exact ⟨z1, z2, sx _ _ nD2 et, rr⟩
    · rintro D i x H4 Nx ex s4 hP4 ⟨acc, hacc⟩ kN
      obtain ⟨a, ea, rfl⟩ := map_at ex
      have hi : i < xs.length := by rw [← hnn, ← hal]; exact (List.getElem?_eq_some_iff.mp ea).1
      have ex2 := List.getElem?_eq_getElem hi
      have s14 := s12.trans s4
      have tup := s14 _ _ (hxt i a _ ea ex2)
      have hmem := List.mem_of_getElem? ex2
      obtain ⟨q1, q2⟩ := hn _ hmem
      obtain ⟨t1, t2⟩ := hT _ hmem
      have e1 : (xs[i]).1 = (((xs[i]).1.toNat : Nat) : Int) := by omega
      have e2 : (xs[i]).2 = (((xs[i]).2.toNat : Nat) : Int) := by omega
      have hA4 := (hA.same s2).same s4
      refine ⟨a, _, _, rfl, tup, rfl, _, rfl, p, _, rfl, hA4.taken, _, rfl, Same.refl _, (xs[i]).1.toNat, 1, by rw [← e1], hP4, t1, fun z1 h1 => ⟨_, rfl, p, _, rfl, hA4.taken, _, rfl, Same.refl _, (xs[i]).2.toNat, 1, by rw [← e2], hP4, t2, fun z2 h2 => ⟨two_le_line, fun t nt => ⟨line_of_le (by decide : 1 ≤ 100000), fun r nr => kN _ _ ((Same.new nt).trans (Same.new nr)) hP4.tup.lst ⟨r, t, rfl, ?_, ?_, upd_same, fun x ex3 => ?_⟩⟩⟩⟩⟩
      · exact Ne.symm (ne_of_none ((Same.new nt) _ _ hacc) nr)
      · exact Ne.symm (ne_of_none hacc nt)
      · cases Option.some.inj (ex2.symm.trans ex3)
        exact ⟨z1, z2, (Same.new nr) _ _ upd_same, h1, h2⟩
    intro pr H3 zs s3 hP3 hzl2 hzs2 npr hpr
    have s13 := s12.trans s3
    obtain ⟨rs, rfl, hrs⟩ := refs_of (Φ := fun i r => ∃ a : Addr, r ≠ pr ∧ a ≠ pr ∧ H3 r = some (.lst [V.ref a]) ∧ ∀ x, xs[i]? = some x → PrAt H3 a R 1 (Sp18.plain (fmt f) x.1.toNat, Sp18.plain (fmt f) x.2.toNat)) (fun i z e => by obtain ⟨r, a, e1, e2⟩ := hzs2 i z e; exact ⟨r, e1, a, e2⟩)
    rw [List.length_map, List.length_map, hal] at hzl2
    have e1f : ∀ a, a < n → Sp18.forth (fmt f) (every X n 1 a) = [Sp18.cell X a] := fun a ha => by rw [forth_one _ (every_len _ _ _ _)]; show [Sp18.cell X (n * 0 + a)] = _; rw [Nat.mul_zero, Nat.zero_add]
    have hR0 : CRows K H3 pr R 1 ((List.range n).map fun a => Sp18.forth (fmt f) (every X n 1 a)) := by
      refine ⟨rs, SqL.of hpr, by rw [hzl2, List.length_map, List.length_range], fun i r cs er ecs => ?_⟩
      have hi : i < n := by rw [← hzl2]; exact (List.getElem?_eq_some_iff.mp er).1
      rw [List.getElem?_map, List.getElem?_range hi] at ecs
      have ecs2 := (Option.some.inj ecs).symm
      dsimp only at ecs2
      rw [e1f i hi] at ecs2
      subst ecs2
      obtain ⟨a, _, _, e3, q⟩ := hrs i r er
      have ex2 := List.getElem?_eq_getElem (l := xs) (i := i) (by omega)
      refine ⟨[a], SqL.of e3, rfl, fun j b c eb ec => ?_⟩
      match j, eb, ec with
      | 0, eb, ec =>
        cases eb; cases ec
        rw [cell_of (hXi i _ ex2)]; exact q _ ex2
      | j + 1, eb, ec => simp at eb
    refine tFor_rev (xs := (ds n).map fun (m : Nat) => V.int (m : Nat)) (fun ld i σ H5 => ∃ (pr : Addr) (v6 v7 v8 v9 v10 v11 v12 : Option V), σ = [some (V.int f), some (V.ref la), some (V.ref p), some (V.int (n : Nat)), some (V.ref pt), some (V.ref pr), v6, v7, v8, v9, v10, v11, v12] ∧ Same H H5 ∧ Pl H5 ∧ SqL K H5 ld ((ds n).map fun (m : Nat) => V.int (m : Nat)) ∧ PartsAt K H5 pt (fmt f) CR n ∧ AR P w K mg base (fmt f) R CR T H5 p ∧ ∃ B l c : Nat, l = prod ((ds n).drop ((ds n).length - i)) ∧ n = c * l ∧ B ^ 10 ≤ l ^ 17 ∧ CRows K H5 pr R B ((List.range c).map fun a => Sp18.forth (fmt f) (every X c l a))) (fun R r => ⟨_, rfl, n, rfl, by omega, by omega, hP3, fun H4 ld s4 hP4 hld => r ld H4 (SqL.of hld) ⟨pr, none, none, none, none, none, none, none, rfl, s13.trans s4, hP4, SqL.of hld, (hPT.same s3).same s4, ((hA.same s2).same s3).same s4, 1, 1, n, by rw [Nat.sub_zero, List.drop_length]; rfl, (Nat.mul_one n).symm, by decide, hR0.same s4⟩⟩) ?_ ?_ ?_
    · rintro ld i σ H5 ⟨pr, v6, v7, v8, v9, v10, v11, v12, rfl, s5, hP5, hld, _⟩
      exact hld
    · rintro ld i x σ H5 hi ex ⟨pr5, v6, v7, v8, v9, v10, v11, v12, rfl, s5, hP5, hld, hPT5, hA5, B, l, c, hlp, hcl, hB, hR5⟩
      rw [List.length_map] at hi ex
      obtain ⟨q, eq, rfl⟩ := map_at ex
      obtain ⟨g1, g2, g3⟩ := ds_at (by omega) eq
      rw [show (ds n).length - 1 - i + 1 = (ds n).length - i by omega, ← hlp] at g3
      have gd := (ds_drop ((ds n).length - 1 - i) n (by omega) (by omega)).2.2
      have hq2 : 2 ≤ q := by rw [g2]; exact factor_ge g1
      rw [g3] at gd g1 g2
      have hl0 : 0 < l := by rcases Nat.eq_zero_or_pos l with z | z; (rw [z, Nat.mul_zero] at g1; omega); exact z
      obtain ⟨c', hc'⟩ : ∃ c', n = c' * (q * l) := by obtain ⟨z, hz⟩ := gd; exact ⟨z, by rw [Nat.mul_comm]; exact hz⟩
      have hc'0 : 0 < c' := by rcases Nat.eq_zero_or_pos c' with z | z; (rw [z, Nat.zero_mul] at hc'; omega); exact z
      have hcc : c = c' * q := by rw [hcl, ← Nat.mul_assoc] at hc'; exact Nat.eq_of_mul_eq_mul_right hl0 hc'
      have hql8 : q * l ≤ 8192 := Nat.le_trans (Nat.le_mul_of_pos_left _ hc'0) (by omega)
      obtain ⟨rs5, hrs5, hrl5, hrr5⟩ := id hR5
      rw [List.length_map, List.length_range] at hrl5
      have hcn : c' ≤ n := by rw [hc']; exact Nat.le_mul_of_pos_right _ (by omega)
      obtain ⟨ps, hps, hpl, hpp⟩ := id hPT5
      have ecount : (((rs5.map V.ref).length : Nat) : Int) / ((q : Nat) : Int) = ((c' : Nat) : Int) := by rw [List.length_map, hrl5, hcc]; show ((c' * q / q : Nat) : Int) = _; rw [Nat.mul_div_cancel _ (by omega)]
      refine ⟨_, rfl, _, rfl, _, .inl ⟨_, hrs5, rfl⟩, _, rfl, _, _, rfl, rfl, ⟨by omega, log2_small (Nat.le_trans (Nat.le_mul_of_pos_right q hl0) hql8)⟩, ?_⟩
      dsimp only
      rw [ecount]
      refine ⟨_, rfl, _, rfl, _, rfl, pt, _, rfl, hps, (by intro z; injection z with z; omega), fun pp npp => ?_⟩
      have hpk := pick_none (xs := ps.map V.ref) hc'0
      obtain ⟨us, eus, husl, hus⟩ := pick_refs (ts := ps) (i := 0) (c := c') (m := q * l) hc'0 (Nat.zero_le _) (by rw [hpl, hc', Nat.sub_zero, Nat.mul_comm c', Nat.add_sub_assoc hc'0, Nat.mul_comm (q * l) c', Nat.mul_add_div hc'0, Nat.div_eq_of_lt (by omega), Nat.add_zero])
      rw [hpk, eus]
      have s6 := Same.new (o := .lst (us.map V.ref)) npp
      have hPT6 : PartsAt K (upd H5 pp (.lst (us.map V.ref))) pp (fmt f) CR (q * l) := by
        refine ⟨us, SqL.of upd_same, husl, fun j a ea => ?_⟩
        have h9 := (hpp _ _ (hus j a ea)).keep (fun b xs e => s6 _ _ e)
        refine part_scale (c := c') (by omega) hc'0 (by rw [Nat.mul_comm, ← hc']; exact hl) ?_
        rw [Nat.mul_comm (q * l), ← hc', Nat.mul_comm j]
        rw [Nat.zero_add] at h9; exact h9
      have hA6 := hA5.same s6
      have hP6 : Pl (upd H5 pp (.lst (us.map V.ref))) := hP5.lst
      have s06 := s5.trans s6
      generalize upd H5 pp (.lst (us.map V.ref)) = H6 at s6 hPT6 hA6 hP6 s06 ⊢
      have hB' := bnd_step hB hq2
      have hBL := bnd_lim hB' hql8
      have hlev : ∀ a, a < c' → Sp18.forth (fmt f) (every X c' (q * l) a) = (List.range (q * l)).map (Sp18.joined (fmt f) (q * l) q ((List.range q).map fun r => Sp18.forth (fmt f) (every X c l (a + r * c')))) := fun a ha => by rw [hcc]; exact level hXl hc' hl0 g2 g1 ha
      dsimp only [gName, tAsg]
      refine tLc_rngG (n := c') (fun D a z H7 => ∃ t, z = V.ref t ∧ CRowD D K H7 t R (B * (2 * q - 1)) (Sp18.forth (fmt f) (every X c' (q * l) a))) ?_ (fun R r => ⟨_, rfl, r⟩) hP6 (by omega) ?_ ?_
      · rintro D j z H7 H8 sx ⟨t, rfl, hc⟩
        exact ⟨t, rfl, hc.mono sx⟩
      · rintro D a H7 Nx ha s7 hP7 ⟨acc, hacc⟩ kN
        obtain ⟨ws, ews, hwl, hws⟩ := pick_refs (ts := rs5) (i := a) (c := c') (m := q) hc'0 (by rw [hrl5, hcc]; exact Nat.le_trans (Nat.le_of_lt ha) (Nat.le_mul_of_pos_right _ (by omega))) (by rw [hrl5, hcc]; exact (cnt_div ha hq2).symm)
        have s57 := s6.trans s7
        refine ⟨rfl, _, rfl, _, rfl, _, rfl, _, rfl, _, rfl, _, rfl, _, rfl, pr5, _, rfl, s57.seq hrs5, (by intro z; injection z with z; omega), fun rr nrr => ?_⟩
        rw [ews]
        have s8 := Same.new (o := .lst (ws.map V.ref)) nrr
        have s78 := s7.trans s8
        refine ⟨p, pp, rr, f, R, CR, T, B, q, l, (List.range q).map fun r => Sp18.forth (fmt f) (every X c l (a + r * c')), rfl, hf, hA6.same s78, hP7.lst, trivial, hq2, hl0, hql8, hPT6.same s78, ⟨ws, SqL.of upd_same, by rw [hwl, List.length_map, List.length_range], fun i wa cs ew ecs => ?_⟩, by rw [List.length_map, List.length_range], fun cs hcs => ?_, hBL, fun H9 t s9 hP9 nt hrow => kN _ _ (s8.trans s9) hP9 ⟨t, rfl, ?_⟩⟩
        · have hir : i < q := by rw [← hwl]; exact (List.getElem?_eq_some_iff.mp ew).1
          rw [List.getElem?_map, List.getElem?_range hir] at ecs
          have ecs2 := (Option.some.inj ecs).symm
          dsimp only at ecs2
          subst ecs2
          have er := hws i wa ew
          have hlt : a + c' * i < c := by rw [← hrl5]; exact (List.getElem?_eq_some_iff.mp er).1
          refine ((hrr5 _ _ _ er ?_).same s57).same s8
          rw [List.getElem?_map, List.getElem?_range hlt, Nat.mul_comm i c']; rfl
        · obtain ⟨r, _, rfl⟩ := List.mem_map.mp hcs; rw [forth_len, every_len]
        · rw [hlev a ha]; exact CRowD.of (s9 _ _ (s8 _ _ hacc)) (Ne.symm (ne_of_none (s8 _ _ hacc) nt)) hrow
      intro pr7 H7 zs s7 hP7 hzl7 hzs7 npr7 hpr7
      obtain ⟨rs7, rfl, hrs7⟩ := refs_of (Φ := fun a t => CRowD pr7 K H7 t R (B * (2 * q - 1)) (Sp18.forth (fmt f) (every X c' (q * l) a))) hzs7
      rw [List.length_map] at hzl7
      refine ⟨pr7, _, _, _, _, _, _, _, rfl, s06.trans s7, hP7, (s6.trans s7).seq hld, (hPT5.same s6).same s7, hA6.same s7, B * (2 * q - 1), q * l, c', ?_, hc', hB', ⟨rs7, SqL.of hpr7, by rw [hzl7, List.length_map, List.length_range], fun i r cs er ecs => ?_⟩⟩
      · rw [← g3, show (ds n).length - (i + 1) = (ds n).length - 1 - i by omega]
      · have hir : i < c' := by rw [← hzl7]; exact (List.getElem?_eq_some_iff.mp er).1
        rw [List.getElem?_map, List.getElem?_range hir] at ecs
        have ecs2 := (Option.some.inj ecs).symm
        dsimp only at ecs2
        subst ecs2
        exact (hrs7 i r er).row
    · rintro ld σ H5 ⟨pr5, v6, v7, v8, v9, v10, v11, v12, rfl, s5, hP5, hld, hPT5, hA5, B, l, c, hlp, hcl, hB, hR5⟩
      rw [List.length_map, Nat.sub_self, List.drop_zero, prod_ds n n (Nat.le_refl _) (by omega)] at hlp
      subst hlp
      have hc1 : c = 1 := Nat.eq_of_mul_eq_mul_right (show 0 < l by omega) (by rw [Nat.one_mul]; exact hcl.symm)
      subst hc1
      obtain ⟨rs5, hrs5, hrl5, hrr5⟩ := hR5
      rw [List.length_map, List.length_range] at hrl5
      have er := List.getElem?_eq_getElem (l := rs5) (i := 0) (by omega)
      have hrow := hrr5 0 _ _ er rfl
      dsimp only at hrow
      rw [every_all hXl] at hrow
      obtain ⟨bs, hbs, hbl, hbb⟩ := hrow
      have hfl := forth_len (F := fmt f) X
      dsimp only [tRet]
      refine tLc_listG (xs := bs.map V.ref) (fun D i z H6 => ∃ t, z = V.ref t ∧ t ≠ D ∧ ∀ x, (intC (Sp18.forth (fmt f) X))[i]? = some x → H6 t = some (.tup [.int x.1, .int x.2])) ?_ (fun R r => ⟨_, rfl, pr5, _, _, _, rfl, rfl, hrs5, at_ref er, r _ _ (Same.refl _) hP5 hbs⟩) (line_of_le (by rw [List.length_map]; omega)) ?_ ?_
      · rintro D j z H6 H7 sx ⟨t, rfl, nD, q⟩
        exact ⟨t, rfl, nD, fun x ex => sx _ _ nD (q x ex)⟩
      · rintro D i x H6 Nx ex s6 hP6 ⟨acc, hacc⟩ kN
        obtain ⟨b, eb, rfl⟩ := map_at ex
        have hi : i < (Sp18.forth (fmt f) X).length := by rw [← hbl]; exact (List.getElem?_eq_some_iff.mp eb).1
        have ec := List.getElem?_eq_getElem hi
        obtain ⟨z1, z2, ez, r1, r2⟩ := (hbb i b _ eb ec).same s6
        have hA6 := hA5.same s6
        have hcan : Canon (fmt f) ((Sp18.forth (fmt f) X)[i]) := canon_forth hf.std (fun c hc => by rw [hX] at hc; obtain ⟨y, hy, rfl⟩ := List.mem_map.mp hc; obtain ⟨q1, q2⟩ := hn y hy; exact ⟨plain_plain hf.ok (by omega), plain_plain hf.ok (by omega)⟩) _ (List.mem_of_getElem? ec)
        refine ⟨b, _, _, rfl, ez, rfl, _, rfl, p, _, rfl, hA6.given, _, rfl, Same.refl _, z1, _, _, rfl, hP6, r1, _, rfl, p, _, rfl, hA6.given, _, rfl, Same.refl _, z2, _, _, rfl, hP6, r2, two_le_line, fun t nt => kN _ _ (Same.new nt) hP6.tup ⟨t, rfl, Ne.symm (ne_of_none hacc nt), fun x ex3 => ?_⟩⟩
        unfold intC at ex3
        rw [List.getElem?_map, ec] at ex3
        have := (Option.some.inj ex3).symm
        dsimp only at this
        subst this
        rw [upd_same, hcan.1, hcan.2]
      intro D H6 zs s6 hP6 hzl6 hzs6 nD hD
      obtain ⟨os, rfl, hos⟩ := refs_of (Φ := fun i t => t ≠ D ∧ ∀ x, (intC (Sp18.forth (fmt f) X))[i]? = some x → H6 t = some (.tup [.int x.1, .int x.2])) hzs6
      rw [List.length_map, List.length_map] at hzl6
      refine k H6 D (s5.trans s6) hP6 (fresh_of s5 nD) ⟨os, SqL.of hD, ?_, fun i a x e1 e2 => (hos i a e1).2 x e2⟩
      unfold intC; rw [List.length_map, hzl6, hbl]
theorem sc_j : FnScope ["f", "row", "x1", "x2"] ["f", "row"] (defScope s_with_opposites) := ⟨rfl, rfl, rfl, by decide +kernel, rfl, by decide +kernel, by decide +kernel⟩
theorem ok_j {f : Addr} {fd : FuncData} (Fn : Fun K "with_opposites" "with_opposites" s_with_opposites f fd) (D_ax : Def P w K mg base "opposite" 3 ["f", "a"] sp_ax) : FnOk P w K mg base CX0 4 f fd ["f", "row"] (sp_j K) := by
  refine Fn.ok sc_j (fun vs H Q E h => ?_) (fun cdv A outer s H vs Q E hr h => ?_)
  · obtain ⟨f, la, xs, rfl, _⟩ := h; rfl
  · obtain ⟨f, la, xs, rfl, hf, hP, hx, hl, hn, k⟩ := h
    refine ⟨_, (pss_one (ps_ret (pe_lc (own := [("x1", 2), ("x2", 3)]) rfl sc_j.nd (pi_listK (K := K) rfl (pv 1)) (blkOk_by rfl) (fun _ _ _ _ _ => (pg_pair rfl (pg_name (i := 2) sc_j.nd rfl (by first | exact Or.inl rfl | exact Or.inr rfl)) (pg_name (i := 3) sc_j.nd rfl (by first | exact Or.inl rfl | exact Or.inr rfl)))) (fun _ _ _ _ _ => pts_nil) (fun _ _ _ _ _ => (pe_tup (pa_cons (pv 2) (pa_cons (pe_def D_ax rfl (hr.mono (by decide)) pass0 (pa_cons (pv 0) (pa_cons (pv 3) pa_nil))) pa_nil))))))), ?_⟩
    rw [show start ["f", "row", "x1", "x2"] [V.int f, V.ref la] = [some (V.int f), some (V.ref la), none, none] from rfl]
    simp only [tRet]
    obtain ⟨as, hxs, hal, hxt⟩ := id hx
    refine tLc_listG (xs := as.map V.ref) (fun D i z H4 => ∃ t, z = V.ref t ∧ t ≠ D ∧ ∀ x, (opps (fmt f) xs)[i]? = some x → H4 t = some (.tup [.int x.1, .int x.2])) ?_ (fun R r => ⟨_, rfl, r _ _ (Same.refl _) hP hxs⟩) (line_of_le (by rw [List.length_map]; omega)) ?_ ?_
    · rintro D j z H6 H7 sx ⟨t, rfl, nD, q⟩
      exact ⟨t, rfl, nD, fun x ex => sx _ _ nD (q x ex)⟩
    · rintro D i x H6 Nx ex s6 hP6 ⟨acc, hacc⟩ kN
      obtain ⟨b, eb, rfl⟩ := map_at ex
      have hi : i < xs.length := by rw [← hal]; exact (List.getElem?_eq_some_iff.mp eb).1
      have ex2 := List.getElem?_eq_getElem hi
      have tup := s6 _ _ (hxt i b _ eb ex2)
      refine ⟨b, _, _, rfl, tup, rfl, _, rfl, _, rfl, _, rfl, f, _, rfl, hf, hn _ (List.mem_of_getElem? ex2), hP6, two_le_line, fun t nt => kN _ _ (Same.new nt) hP6.tup ⟨t, rfl, Ne.symm (ne_of_none hacc nt), fun x ex3 => ?_⟩⟩
      unfold opps at ex3
      rw [List.getElem?_map, ex2] at ex3
      cases ex3
      exact upd_same
    intro D H1 zs s1 hP1 hzl hzs nD hD
    obtain ⟨ts, rfl, hts⟩ := refs_of (Φ := fun i t => t ≠ D ∧ ∀ x, (opps (fmt f) xs)[i]? = some x → H1 t = some (.tup [.int x.1, .int x.2])) hzs
    rw [List.length_map, List.length_map] at hzl
    exact k H1 D s1 hP1 ⟨ts, SqL.of hD, by unfold opps; rw [List.length_map, hzl, hal], fun i t y e1 e2 => (hts i t e1).2 y e2⟩
theorem sc_be : FnScope ["f", "row"] ["f", "row"] (defScope s_way_back) := ⟨rfl, rfl, rfl, by decide +kernel, rfl, by decide +kernel, by decide +kernel⟩
theorem ok_be {f : Addr} {fd : FuncData} (Fn : Fun K "way_back" "way_back" s_way_back f fd) (D_j : Def P w K mg base "with_opposites" 4 ["f", "row"] (sp_j K)) (D_at : Def P w K mg base "transform" 14 ["f", "row"] (sp_at K)) : FnOk P w K mg base CX0 15 f fd ["f", "row"] (sp_be K) := by
  refine Fn.ok sc_be (fun vs H Q E h => ?_) (fun cdv A outer s H vs Q E hr h => ?_)
  · obtain ⟨f, la, xs, rfl, _⟩ := h; rfl
  · obtain ⟨f, la, xs, rfl, hf, hP, hx, hl1, hl, hn, k⟩ := h
    refine ⟨_, (pss_one (ps_ret (pe_def D_j rfl (hr.mono (by decide)) pass0 (pa_cons (pv 0) (pa_cons (pe_def D_at rfl (hr.mono (by decide)) pass0 (pa_cons (pv 0) (pa_cons (pe_def D_j rfl (hr.mono (by decide)) pass0 (pa_cons (pv 0) (pa_cons (pv 1) pa_nil))) pa_nil))) pa_nil))))), ?_⟩
    rw [show start ["f", "row"] [V.int f, V.ref la] = [some (V.int f), some (V.ref la)] from rfl]
    simp only [tRet, tVar, tCall, tCons, tNil, List.append_nil, List.getElem?_cons_zero, List.getElem?_cons_succ, Option.some.injEq, exists_eq_left']
    have hol : (opps (fmt f) xs).length = xs.length := by unfold opps; rw [List.length_map]
    have hcj := plC_opps hf.std (xs := xs) (fun x hx2 => (hn x hx2).2)
    have hon : ∀ x ∈ opps (fmt f) xs, Nm f x.1 ∧ Nm f x.2 := fun x hx2 => by obtain ⟨y, hy, rfl⟩ := List.mem_map.mp hx2; obtain ⟨q1, q2⟩ := hn y hy; exact ⟨q1, nm_of (neg_lt hf.ok (by omega))⟩
    have hfl := forth_len (F := fmt f) (plC (fmt f) (opps (fmt f) xs))
    have hpl : (plC (fmt f) (opps (fmt f) xs)).length = xs.length := by unfold plC; rw [List.length_map, hol]
    refine ⟨f, la, xs, rfl, hf, hP, hx, by omega, fun x hx2 => (hn x hx2).2, fun H1 t1 s1 hP1 h1 => ⟨f, t1, _, rfl, hf, hP1, h1, by omega, by omega, hon, fun H2 t2 s2 hP2 nt h2 => ⟨f, t2, _, rfl, hf, hP2, h2, ?_, fun x hx2 => (intC_nm hf (canon_forth hf.std (canon_plC hf hon)) x hx2).2, fun H3 t3 s3 hP3 h3 => k H3 t3 (s1.trans (s2.trans s3)) hP3 ?_⟩⟩⟩
    · unfold intC; rw [List.length_map]; omega
    · rw [opps_intC, hcj] at h3; exact h3
theorem sc_aw : FnScope ["x"] ["x"] (defScope s_in_pairs) := ⟨rfl, rfl, rfl, by decide +kernel, rfl, by decide +kernel, by decide +kernel⟩
theorem ok_aw {f : Addr} {fd : FuncData} (Fn : Fun K "in_pairs" "in_pairs" s_in_pairs f fd) (B_list : mg "list" = none) (B_zip : mg "zip" = none) : FnOk P w K mg base CX0 1 f fd ["x"] (sp_aw K) := by
  refine Fn.ok sc_aw (fun vs H Q E h => ?_) (fun cdv A outer s H vs Q E hr h => ?_)
  · obtain ⟨la, a, rfl, _⟩ := h; rfl
  · obtain ⟨la, a, rfl, hP, hx, hev, hl, k⟩ := h
    refine ⟨_, (pss_one (ps_ret (pe_list_zipK (K := K) rfl rfl rfl B_list rfl B_zip (pa_cons (pe_slice3K (K := K) rfl (pv 0) (po_some pe_int) po_none (po_some pe_int)) (pa_cons (pe_slice3K (K := K) rfl (pv 0) (po_some pe_int) po_none (po_some pe_int)) pa_nil))))), ?_⟩
    rw [show start ["x"] [V.ref la] = [some (V.ref la)] from rfl]
    simp only [tRet, tVar, tC, tCons, tNil, tSl3, tPart, tNoPart, List.getElem?_cons_zero, Option.some.injEq, V.int.injEq, V.ref.injEq, List.cons.injEq, and_assoc, exists_eq_left', exists_and_left, and_true, tLZ]
    have tp := twos_pick hev
    refine ⟨_, hx, by decide, fun p hp => ⟨_, (Same.new hp).seq hx, by decide, fun p1 hp1 => ?_⟩⟩
    simp only [tp.1, tp.2] at hp1 ⊢
    have ne : p ≠ p1 := fun z => by subst z; rw [upd_same] at hp1; cases hp1
    refine ⟨_, SqL.of (by rw [upd_ne ne, upd_same]), _, SqL.of upd_same, by rw [List.length_map, List.length_map], fun l ts H2 hN => k H2 l ((Same.new hp).trans ((Same.new hp1).trans hN.same)) (hN.pl hP.lst.lst) hN.pairs⟩
theorem sc_br : FnScope ["f", "way", "row"] ["f", "way", "row"] (defScope s_turned) := ⟨rfl, rfl, rfl, by decide +kernel, rfl, by decide +kernel, by decide +kernel⟩
theorem ok_br {f : Addr} {fd : FuncData} (Fn : Fun K "turned" "turned" s_turned f fd) (D_at : Def P w K mg base "transform" 14 ["f", "row"] (sp_at K)) (D_be : Def P w K mg base "way_back" 15 ["f", "row"] (sp_be K)) : FnOk P w K mg base CX0 16 f fd ["f", "way", "row"] (sp_br K) := by
  refine Fn.ok sc_br (fun vs H Q E h => ?_) (fun cdv A outer s H vs Q E hr h => ?_)
  · obtain ⟨f, way, la, xs, rfl, _⟩ := h; rfl
  · obtain ⟨f, way, la, xs, rfl, hf, hP, hx, hl1, hl, hn, k⟩ := h
    refine ⟨_, (pss_one (ps_ret (pe_ifExp (pt_cmpR op_eq (pv 1) pe_int (nomark _)) (pe_def D_at rfl (hr.mono (by decide)) pass0 (pa_cons (pv 0) (pa_cons (pv 2) pa_nil))) (pe_def D_be rfl (hr.mono (by decide)) pass0 (pa_cons (pv 0) (pa_cons (pv 2) pa_nil)))))), ?_⟩
    rw [show start ["f", "way", "row"] [V.int f, V.int way, V.ref la] = [some (V.int f), some (V.int way), some (V.ref la)] from rfl]
    simp only [tRet, tVar, tC, tOp, tTest, tIf, tCall, tCons, tNil, rEq, scal, List.append_nil, List.getElem?_cons_zero, List.getElem?_cons_succ, Option.some.injEq, V.int.injEq, V.bl.injEq, exists_eq_left', true_and, decide_eq_true_eq]
    split
    · next c => exact ⟨f, la, xs, rfl, hf, hP, hx, hl1, hl, hn, fun H1 t s1 hP1 nt h1 => k H1 t s1 hP1 (by rw [if_pos c]; exact h1)⟩
    · next c => exact ⟨f, la, xs, rfl, hf, hP, hx, hl1, hl, hn, fun H1 t s1 hP1 h1 => k H1 t s1 hP1 (by rw [if_neg c]; exact h1)⟩
theorem sc_b : FnScope ["row", "flat", "x"] ["row"] (defScope s_one_after_another) := ⟨rfl, rfl, rfl, by decide +kernel, rfl, by decide +kernel, by decide +kernel⟩
theorem ok_b {f : Addr} {fd : FuncData} (Fn : Fun K "one_after_another" "one_after_another" s_one_after_another f fd)  : FnOk P w K mg base CX0 1 f fd ["row"] (sp_b K) := by
  refine Fn.ok sc_b (fun vs H Q E h => ?_) (fun cdv A outer s H vs Q E hr h => ?_)
  · obtain ⟨p, l, rfl, _⟩ := h; rfl
  · obtain ⟨p, l, rfl, ⟨as, hx, hal, hT⟩, hl, hP, k⟩ := h
    refine ⟨_, (pss_cons (ps_set (i := 1) sc_b.nd rfl (by first | exact Or.inl rfl | exact Or.inr rfl) (pe_lst pa_nil))
      (pss_cons (ps_for PassesOwn.never rfl (pi_listK (K := K) rfl (pv 0)) (pg_name (i := 2) sc_b.nd rfl (by first | exact Or.inl rfl | exact Or.inr rfl)) (pss_one (ps_expr (pe_bm PySem.F.plainAttrs_list PySem.F.slot_list_extend PySem.F.type_list_extend mt_extendT (pv 1) (pa_cons (pv 2) pa_nil)))))
      (pss_one (ps_ret (pv 1))))), ?_⟩
    rw [show start ["row", "flat", "x"] [V.ref p] = [some (V.ref p), none, none] from rfl]
    simp only [tSeq, tAsg, gName, tNil, List.set_cons_zero, List.set_cons_succ, tLst]
    refine ⟨line_of_le (by decide : 0 ≤ 100000), fun q hq => ?_⟩
    have s0 : Same H (upd H q (.lst [])) := Same.new hq
    refine tFor_list (la := p) (xs := as.map V.ref) (fun R r => ⟨_, rfl, r⟩) (fun i σ H1 => ∃ v : Option V, σ = [some (V.ref p), some (V.ref q), v] ∧ Same H H1 ∧ Pl H1 ∧ H1 q = some (.lst (((l.take i).flatMap fun x => [x.1, x.2]).map V.int))) ⟨none, rfl, s0, hP.lst, upd_same⟩ ?_ ?_ ?_
    · rintro i σ H1 ⟨v, rfl, s1, hP1, hA⟩
      exact s1.seq hx
    · rintro i x σ H1 ex ⟨v, rfl, s1, hP1, hA⟩
      obtain ⟨a, ea, rfl⟩ := map_at ex
      have hi : i < l.length := by rw [← hal]; exact (List.getElem?_eq_some_iff.mp ea).1
      have ey := List.getElem?_eq_getElem hi
      have hta := s1 _ _ (hT i a _ ea ey)
      have hfl : ((l.take i).flatMap fun x => [x.1, x.2]).length = 2 * (l.take i).length := by generalize l.take i = z; induction z with | nil => rfl | cons x z ih => rw [List.flatMap_cons, List.length_append, ih]; simp; omega
      refine ⟨_, rfl, .inl ⟨rfl, _, SqL.of hA⟩, _, rfl, q, a, _, _, rfl, rfl, hA, hta, ?_, _, rfl, fun b o e => ?_, hP1.lst, ?_⟩
      · rw [List.length_map, hfl, List.length_take]; exact line_of_le (by show 2 * min i l.length + 2 ≤ 100000; omega)
      · rw [upd_ne (ne_of_none e hq)]; exact s1 _ _ e
      · rw [upd_same, List.take_add_one, ey, List.flatMap_append, List.map_append]; rfl
    · rintro σ H1 ⟨v, rfl, s1, hP1, hA⟩
      refine ⟨_, rfl, k H1 q s1 hP1 hq ?_⟩
      rw [hA, List.length_map, hal, List.take_length]
theorem sc_bv : FnScope ["f", "way", "x"] ["f", "way", "x"] (defScope s_turn) := ⟨rfl, rfl, rfl, by decide +kernel, rfl, by decide +kernel, by decide +kernel⟩
theorem ok_bv {f : Addr} {fd : FuncData} (Fn : Fun K "turn" "turn" s_turn f fd) (D_b : Def P w K mg base "one_after_another" 1 ["row"] (sp_b K)) (D_br : Def P w K mg base "turned" 16 ["f", "way", "row"] (sp_br K)) (D_aw : Def P w K mg base "in_pairs" 1 ["x"] (sp_aw K)) {t_WAYS : Nat} (G_bw : mg "WAYS" = some (.int (2) t_WAYS)) {t_REFUSED : Nat} (G_bk : mg "REFUSED" = some (.int (-2) t_REFUSED)) {t_DONE : Nat} (G_bz : mg "DONE" = some (.int (0) t_DONE)) : FnOk P w K mg base CX0 17 f fd ["f", "way", "x"] (sp_bv K) := by
  refine Fn.ok sc_bv (fun vs H Q E h => ?_) (fun cdv A outer s H vs Q E hr h => ?_)
  · obtain ⟨f, way, la, a, rfl, _⟩ := h; rfl
  · obtain ⟨f, way, la, a, rfl, hf, hw, hP, hx, hev, hl1, hl, hn, k⟩ := h
    refine ⟨_, (pss_cons (ps_if (pt_cmpR op_ge (pv 1) (pe_glob (v := .int (2)) rfl G_bw ⟨_, rfl⟩) (nomark _)) (pss_one (ps_ret (pe_lst (pa_cons (pe_glob (v := .int (-2)) rfl G_bk ⟨_, rfl⟩) pa_nil)))) pss_nil)
      (pss_one (ps_ret (pe_op op_cat (pe_lst (pa_cons (pe_glob (v := .int (0)) rfl G_bz ⟨_, rfl⟩) pa_nil)) (pe_def D_b rfl (hr.mono (by decide)) pass0 (pa_cons (pe_def D_br rfl (hr.mono (by decide)) pass0 (pa_cons (pv 0) (pa_cons (pv 1) (pa_cons (pe_def D_aw rfl (hr.mono (by decide)) pass0 (pa_cons (pv 2) pa_nil)) pa_nil)))) pa_nil)))))), ?_⟩
    rw [show start ["f", "way", "x"] [V.int f, V.int way, V.ref la] = [some (V.int f), some (V.int way), some (V.ref la)] from rfl]
    simp only [tSeq, tRet, tIfS, tNext, tVar, tC, tOp, rI0, tTest, tCall, tCons, tNil, List.append_nil, List.getElem?_cons_zero, List.getElem?_cons_succ, Option.some.injEq, V.int.injEq, V.bl.injEq, exists_eq_left', exists_and_left, decide_eq_true_eq, tLst]
    have hsp := turn_spec (f := f) (way := way) (x := a)
    have htl := twos_len (a.length / 2) a (by omega)
    split
    · next c =>
      refine ⟨line_of_le (by decide : 1 ≤ 100000), fun p hp => k _ p ?_⟩
      rw [upd_same, hsp, if_neg (by omega)]
      rfl
    next c =>
    rw [if_pos ⟨hw, by omega⟩] at hsp
    obtain ⟨Z, hZ⟩ : ∃ Z, Z = (if way = 0 then Sp18.forth (fmt f) (plC (fmt f) (twos a)) else Sp18.back (fmt f) (plC (fmt f) (twos a))) := ⟨_, rfl⟩
    have hZl : (intC Z).length ≤ 8192 := by
      have hp : (plC (fmt f) (twos a)).length = a.length / 2 := by unfold plC; rw [List.length_map, htl]
      unfold intC
      rw [List.length_map, hZ]
      split
      · rw [forth_len, hp]; exact hl
      · rw [back_len, hp]; exact hl
    have hsp2 : PySp18.turn f way a = 0 :: flats Z := by rw [hsp, hZ]; rfl
    refine ⟨line_of_le (by decide : 1 ≤ 100000), fun p hp => ⟨la, a, rfl, hP.lst, (Same.new hp).seq hx, hev, by omega, fun H1 t s1 hP1 ht => ⟨f, way, t, twos a, rfl, hf, hP1, ht, by omega, by omega, twos_nm hn, fun H2 t2 s2 hP2 ht2 => ?_⟩⟩⟩
    rw [← hZ] at ht2
    refine ⟨t2, _, rfl, ht2, by omega, hP2, fun H3 r s3 hP3 nr hr => ⟨p, r, _, _, rfl, rfl, s3 _ _ (s2 _ _ (s1 _ _ upd_same)), hr, ?_, fun u hu => k _ u ?_⟩⟩
    · rw [List.length_map, flat_len]; exact line_of_le (by show 1 + 2 * _ ≤ 100000; omega)
    · rw [upd_same, hsp2, flats_flat]; rfl
end
end Wk
set_option linter.all false
set_option Elab.async false
set_option maxRecDepth 100000
set_option maxHeartbeats 4000000
namespace Wk
open PySem PySem.Spec PyProof.Rows L2 Sig
open PySem.W (Codec)
open Sp18Neutral (fmt)
theorem all_mk {P : Program} {w : World} {K : PySem.W.Frag} {h : Heap} {mg : Str → Option Value} {fa : Addr} (X : K.In h) (G : h.Ns mainGlobals mg) (hfa : mg "turn" = some (.ref fa))
    {p_av : Addr} {od_av : Option Addr} {sl_av : Array (Option Value)} {ta_av tb_av nn_av : Nat} {p_ao : Addr} {od_ao : Option Addr} {sl_ao : Array (Option Value)} {ta_ao tb_ao nn_ao : Nat} {p_bc : Addr} {od_bc : Option Addr} {sl_bc : Array (Option Value)} {ta_bc tb_bc nn_bc : Nat} {p_cd : Addr} {od_cd : Option Addr} {sl_cd : Array (Option Value)} {ta_cd tb_cd nn_cd : Nat} {p_i : Addr} {od_i : Option Addr} {sl_i : Array (Option Value)} {ta_i tb_i nn_i : Nat} {p_ah : Addr} {od_ah : Option Addr} {sl_ah : Array (Option Value)} {ta_ah tb_ah nn_ah : Nat} {p_ab : Addr} {od_ab : Option Addr} {sl_ab : Array (Option Value)} {ta_ab tb_ab nn_ab : Nat} {p_by : Addr} {od_by : Option Addr} {sl_by : Array (Option Value)} {ta_by tb_by nn_by : Nat} {C_Plain : Addr} {C_Spread : Addr} {f_bp : Addr} {od_bp an_bp : Option Addr} {sl_bp : Array (Option Value)} {oc_bp kV_bp dc_bp pm_bp cd_bp ct_bp : Value} {f_bt : Addr} {od_bt an_bt : Option Addr} {sl_bt : Array (Option Value)} {oc_bt kV_bt dc_bt pm_bt cd_bt ct_bt : Value} {f_bj : Addr} {od_bj an_bj : Option Addr} {sl_bj : Array (Option Value)} {oc_bj kV_bj dc_bj pm_bj cd_bj ct_bj : Value} {f_an : Addr} {od_an an_an : Option Addr} {sl_an : Array (Option Value)} {oc_an kV_an dc_an pm_an cd_an ct_an : Value} {f_h : Addr} {od_h an_h : Option Addr} {sl_h : Array (Option Value)} {oc_h kV_h dc_h pm_h cd_h ct_h : Value} {f_aq : Addr} {od_aq an_aq : Option Addr} {sl_aq : Array (Option Value)} {oc_aq kV_aq dc_aq pm_aq cd_aq ct_aq : Value} {f_f : Addr} {od_f an_f : Option Addr} {sl_f : Array (Option Value)} {oc_f kV_f dc_f pm_f cd_f ct_f : Value} {f_bo : Addr} {od_bo an_bo : Option Addr} {sl_bo : Array (Option Value)} {oc_bo kV_bo dc_bo pm_bo cd_bo ct_bo : Value} {f_a : Addr} {od_a an_a : Option Addr} {sl_a : Array (Option Value)} {oc_a kV_a dc_a pm_a cd_a ct_a : Value} {f_bs : Addr} {od_bs an_bs : Option Addr} {sl_bs : Array (Option Value)} {oc_bs kV_bs dc_bs pm_bs cd_bs ct_bs : Value} {f_bg : Addr} {od_bg an_bg : Option Addr} {sl_bg : Array (Option Value)} {oc_bg kV_bg dc_bg pm_bg cd_bg ct_bg : Value} {f_aw : Addr} {od_aw an_aw : Option Addr} {sl_aw : Array (Option Value)} {oc_aw kV_aw dc_aw pm_aw cd_aw ct_aw : Value} {f_b : Addr} {od_b an_b : Option Addr} {sl_b : Array (Option Value)} {oc_b kV_b dc_b pm_b cd_b ct_b : Value} {f_ca : Addr} {od_ca an_ca : Option Addr} {sl_ca : Array (Option Value)} {oc_ca kV_ca dc_ca pm_ca cd_ca ct_ca : Value} {f_z : Addr} {od_z an_z : Option Addr} {sl_z : Array (Option Value)} {oc_z kV_z dc_z pm_z cd_z ct_z : Value} {f_az : Addr} {od_az an_az : Option Addr} {sl_az : Array (Option Value)} {oc_az kV_az dc_az pm_az cd_az ct_az : Value} {f_bm : Addr} {od_bm an_bm : Option Addr} {sl_bm : Array (Option Value)} {oc_bm kV_bm dc_bm pm_bm cd_bm ct_bm : Value} {f_as : Addr} {od_as an_as : Option Addr} {sl_as : Array (Option Value)} {oc_as kV_as dc_as pm_as cd_as ct_as : Value} {f_al : Addr} {od_al an_al : Option Addr} {sl_al : Array (Option Value)} {oc_al kV_al dc_al pm_al cd_al ct_al : Value} {f_bi : Addr} {od_bi an_bi : Option Addr} {sl_bi : Array (Option Value)} {oc_bi kV_bi dc_bi pm_bi cd_bi ct_bi : Value} {f_ba : Addr} {od_ba an_ba : Option Addr} {sl_ba : Array (Option Value)} {oc_ba kV_ba dc_ba pm_ba cd_ba ct_ba : Value} {f_cb : Addr} {od_cb an_cb : Option Addr} {sl_cb : Array (Option Value)} {oc_cb kV_cb dc_cb pm_cb cd_cb ct_cb : Value} {f_ax : Addr} {od_ax an_ax : Option Addr} {sl_ax : Array (Option Value)} {oc_ax kV_ax dc_ax pm_ax cd_ax ct_ax : Value} {f_bb : Addr} {od_bb an_bb : Option Addr} {sl_bb : Array (Option Value)} {oc_bb kV_bb dc_bb pm_bb cd_bb ct_bb : Value} {f_bu : Addr} {od_bu an_bu : Option Addr} {sl_bu : Array (Option Value)} {oc_bu kV_bu dc_bu pm_bu cd_bu ct_bu : Value} {f_bd : Addr} {od_bd an_bd : Option Addr} {sl_bd : Array (Option Value)} {oc_bd kV_bd dc_bd pm_bd cd_bd ct_bd : Value} {f_ar : Addr} {od_ar an_ar : Option Addr} {sl_ar : Array (Option Value)} {oc_ar kV_ar dc_ar pm_ar cd_ar ct_ar : Value} {f_bn : Addr} {od_bn an_bn : Option Addr} {sl_bn : Array (Option Value)} {oc_bn kV_bn dc_bn pm_bn cd_bn ct_bn : Value} {f_j : Addr} {od_j an_j : Option Addr} {sl_j : Array (Option Value)} {oc_j kV_j dc_j pm_j cd_j ct_j : Value} {f_ak : Addr} {od_ak an_ak : Option Addr} {sl_ak : Array (Option Value)} {oc_ak kV_ak dc_ak pm_ak cd_ak ct_ak : Value} {f_p : Addr} {od_p an_p : Option Addr} {sl_p : Array (Option Value)} {oc_p kV_p dc_p pm_p cd_p ct_p : Value} {f_d : Addr} {od_d an_d : Option Addr} {sl_d : Array (Option Value)} {oc_d kV_d dc_d pm_d cd_d ct_d : Value} {f_e : Addr} {od_e an_e : Option Addr} {sl_e : Array (Option Value)} {oc_e kV_e dc_e pm_e cd_e ct_e : Value} {f_x : Addr} {od_x an_x : Option Addr} {sl_x : Array (Option Value)} {oc_x kV_x dc_x pm_x cd_x ct_x : Value} {f_ad : Addr} {od_ad an_ad : Option Addr} {sl_ad : Array (Option Value)} {oc_ad kV_ad dc_ad pm_ad cd_ad ct_ad : Value} {f_w : Addr} {od_w an_w : Option Addr} {sl_w : Array (Option Value)} {oc_w kV_w dc_w pm_w cd_w ct_w : Value} {f_aj : Addr} {od_aj an_aj : Option Addr} {sl_aj : Array (Option Value)} {oc_aj kV_aj dc_aj pm_aj cd_aj ct_aj : Value} {f_ai : Addr} {od_ai an_ai : Option Addr} {sl_ai : Array (Option Value)} {oc_ai kV_ai dc_ai pm_ai cd_ai ct_ai : Value} {f_aa : Addr} {od_aa an_aa : Option Addr} {sl_aa : Array (Option Value)} {oc_aa kV_aa dc_aa pm_aa cd_aa ct_aa : Value} {f_ac : Addr} {od_ac an_ac : Option Addr} {sl_ac : Array (Option Value)} {oc_ac kV_ac dc_ac pm_ac cd_ac ct_ac : Value} {f_v : Addr} {od_v an_v : Option Addr} {sl_v : Array (Option Value)} {oc_v kV_v dc_v pm_v cd_v ct_v : Value} {f_u : Addr} {od_u an_u : Option Addr} {sl_u : Array (Option Value)} {oc_u kV_u dc_u pm_u cd_u ct_u : Value} {f_k : Addr} {od_k an_k : Option Addr} {sl_k : Array (Option Value)} {oc_k kV_k dc_k pm_k cd_k ct_k : Value} {f_y : Addr} {od_y an_y : Option Addr} {sl_y : Array (Option Value)} {oc_y kV_y dc_y pm_y cd_y ct_y : Value} {f_af : Addr} {od_af an_af : Option Addr} {sl_af : Array (Option Value)} {oc_af kV_af dc_af pm_af cd_af ct_af : Value} {f_r : Addr} {od_r an_r : Option Addr} {sl_r : Array (Option Value)} {oc_r kV_r dc_r pm_r cd_r ct_r : Value} {f_n : Addr} {od_n an_n : Option Addr} {sl_n : Array (Option Value)} {oc_n kV_n dc_n pm_n cd_n ct_n : Value} {f_g : Addr} {od_g an_g : Option Addr} {sl_g : Array (Option Value)} {oc_g kV_g dc_g pm_g cd_g ct_g : Value} {f_o : Addr} {od_o an_o : Option Addr} {sl_o : Array (Option Value)} {oc_o kV_o dc_o pm_o cd_o ct_o : Value} {f_ae : Addr} {od_ae an_ae : Option Addr} {sl_ae : Array (Option Value)} {oc_ae kV_ae dc_ae pm_ae cd_ae ct_ae : Value} {f_ag : Addr} {od_ag an_ag : Option Addr} {sl_ag : Array (Option Value)} {oc_ag kV_ag dc_ag pm_ag cd_ag ct_ag : Value} {f_c : Addr} {od_c an_c : Option Addr} {sl_c : Array (Option Value)} {oc_c kV_c dc_c pm_c cd_c ct_c : Value} {f_q : Addr} {od_q an_q : Option Addr} {sl_q : Array (Option Value)} {oc_q kV_q dc_q pm_q cd_q ct_q : Value} {f_l : Addr} {od_l an_l : Option Addr} {sl_l : Array (Option Value)} {oc_l kV_l dc_l pm_l cd_l ct_l : Value} {f_m : Addr} {od_m an_m : Option Addr} {sl_m : Array (Option Value)} {oc_m kV_m dc_m pm_m cd_m ct_m : Value} {f_au : Addr} {od_au an_au : Option Addr} {sl_au : Array (Option Value)} {oc_au kV_au dc_au pm_au cd_au ct_au : Value} {f_at : Addr} {od_at an_at : Option Addr} {sl_at : Array (Option Value)} {oc_at kV_at dc_at pm_at cd_at ct_at : Value} {f_be : Addr} {od_be an_be : Option Addr} {sl_be : Array (Option Value)} {oc_be kV_be dc_be pm_be cd_be ct_be : Value} {f_br : Addr} {od_br an_br : Option Addr} {sl_br : Array (Option Value)} {oc_br kV_br dc_br pm_br cd_br ct_br : Value} {f_bv : Addr} {od_bv an_bv : Option Addr} {sl_bv : Array (Option Value)} {oc_bv kV_bv dc_bv pm_bv cd_bv ct_bv : Value} {t_ROOM : Nat} {t_DOUBLE : Nat} {t_ONE_HALF : Nat} {t_ONE_WHOLE : Nat} {t_HALF_PI : Nat} {t_ROOT_OF_HALF : Nat} {t_PLACES : Nat} {t_WAYS : Nat} {t_DONE : Nat} {t_REFUSED : Nat} {p_am : Addr} {od_am : Option Addr} {sl_am : Array (Option Value)} {nn_am t_SINE_TERMS_0 t_SINE_TERMS_1 t_SINE_TERMS_2 t_SINE_TERMS_3 t_SINE_TERMS_4 t_SINE_TERMS_5 : Nat} {p_t : Addr} {od_t : Option Addr} {sl_t : Array (Option Value)} {nn_t t_COSINE_TERMS_0 t_COSINE_TERMS_1 t_COSINE_TERMS_2 t_COSINE_TERMS_3 t_COSINE_TERMS_4 t_COSINE_TERMS_5 : Nat} {p_ay : Addr} {od_ay : Option Addr} {sl_ay : Array (Option Value)} {nn_ay : Nat} {q_QUARTERS_0 q_QUARTERS_1 q_QUARTERS_2 q_QUARTERS_3 : Addr} {od_QUARTERS_0 : Option Addr} {sl_QUARTERS_0 : Array (Option Value)} {nn_QUARTERS_0 ta_QUARTERS_0 tb_QUARTERS_0 : Nat} {od_QUARTERS_1 : Option Addr} {sl_QUARTERS_1 : Array (Option Value)} {nn_QUARTERS_1 ta_QUARTERS_1 tb_QUARTERS_1 : Nat} {od_QUARTERS_2 : Option Addr} {sl_QUARTERS_2 : Array (Option Value)} {nn_QUARTERS_2 ta_QUARTERS_2 tb_QUARTERS_2 : Nat} {od_QUARTERS_3 : Option Addr} {sl_QUARTERS_3 : Array (Option Value)} {nn_QUARTERS_3 ta_QUARTERS_3 tb_QUARTERS_3 : Nat}
    (n_av : PySem.W.nsIn K mainGlobals "SIGN_BIT" = some (some (.ref p_av)))
    (l_av : K.lookup p_av = some ⟨.type "tuple", od_av, .seq #[.int (2147483648) ta_av, .int (9223372036854775808) tb_av] nn_av, sl_av⟩)
    (n_ao : PySem.W.nsIn K mainGlobals "SIZE_BITS" = some (some (.ref p_ao)))
    (l_ao : K.lookup p_ao = some ⟨.type "tuple", od_ao, .seq #[.int (2147483647) ta_ao, .int (9223372036854775807) tb_ao] nn_ao, sl_ao⟩)
    (n_bc : PySem.W.nsIn K mainGlobals "INFINITY" = some (some (.ref p_bc)))
    (l_bc : K.lookup p_bc = some ⟨.type "tuple", od_bc, .seq #[.int (2139095040) ta_bc, .int (9218868437227405312) tb_bc] nn_bc, sl_bc⟩)
    (n_cd : PySem.W.nsIn K mainGlobals "NAN" = some (some (.ref p_cd)))
    (l_cd : K.lookup p_cd = some ⟨.type "tuple", od_cd, .seq #[.int (2143289344) ta_cd, .int (9221120237041090560) tb_cd] nn_cd, sl_cd⟩)
    (n_i : PySem.W.nsIn K mainGlobals "FRACTION_WIDTH" = some (some (.ref p_i)))
    (l_i : K.lookup p_i = some ⟨.type "tuple", od_i, .seq #[.int (23) ta_i, .int (52) tb_i] nn_i, sl_i⟩)
    (n_ah : PySem.W.nsIn K mainGlobals "HIDDEN_BIT" = some (some (.ref p_ah)))
    (l_ah : K.lookup p_ah = some ⟨.type "tuple", od_ah, .seq #[.int (8388608) ta_ah, .int (4503599627370496) tb_ah] nn_ah, sl_ah⟩)
    (n_ab : PySem.W.nsIn K mainGlobals "LEAST_POWER" = some (some (.ref p_ab)))
    (l_ab : K.lookup p_ab = some ⟨.type "tuple", od_ab, .seq #[.int (-149) ta_ab, .int (-1074) tb_ab] nn_ab, sl_ab⟩)
    (n_by : PySem.W.nsIn K mainGlobals "TAME" = some (some (.ref p_by)))
    (l_by : K.lookup p_by = some ⟨.type "tuple", od_by, .seq #[.int (1904214016) ta_by, .int (9110782046170513408) tb_by] nn_by, sl_by⟩)
    (aC_Plain : PySem.W.nsIn K mainGlobals "Plain" = some (some (.ref C_Plain)))
    (pg_Plain : PySem.W.plainGet K C_Plain Str.empty = true)
    (hd_Plain : PySem.W.hasDictIn K C_Plain = true)
    (po_Plain : PySem.W.plainOver K C_Plain = true)
    (sa_Plain : PySem.W.findIn K (.ref C_Plain) "__setattr__" = some (some (.builtin "object.__setattr__")))
    (mk_Plain : PySem.W.makesIn K C_Plain = true)
    (kc_Plain : PySem.W.keepIn K (.ref C_Plain) = true)
    (NA_Plain_f : PySem.W.findIn K (.ref C_Plain) "f" = some none)
    (aC_Spread : PySem.W.nsIn K mainGlobals "Spread" = some (some (.ref C_Spread)))
    (pg_Spread : PySem.W.plainGet K C_Spread Str.empty = true)
    (hd_Spread : PySem.W.hasDictIn K C_Spread = true)
    (po_Spread : PySem.W.plainOver K C_Spread = true)
    (sa_Spread : PySem.W.findIn K (.ref C_Spread) "__setattr__" = some (some (.builtin "object.__setattr__")))
    (mk_Spread : PySem.W.makesIn K C_Spread = true)
    (kc_Spread : PySem.W.keepIn K (.ref C_Spread) = true)
    (NA_Spread_f : PySem.W.findIn K (.ref C_Spread) "f" = some none)
    (NA_Spread_factor_places : PySem.W.findIn K (.ref C_Spread) "factor_places" = some none)
    (NA_Spread_places : PySem.W.findIn K (.ref C_Spread) "places" = some none)
    (NA_Spread_width : PySem.W.findIn K (.ref C_Spread) "width" = some none)
    (a_bp : PySem.W.nsIn K mainGlobals "is_nan" = some (some (.ref f_bp)))
    (l_bp : K.lookup f_bp = some ⟨oc_bp, od_bp, .func (PySem.W.fnOf "is_nan" "is_nan" (defArgs s_is_nan) (defBody s_is_nan) (defScope s_is_nan) .none kV_bp dc_bp pm_bp an_bp cd_bp ct_bp), sl_bp⟩)
    (c_bp : PySem.W.codeIn K cd_bp "is_nan" = true)
    (k_bp : PySem.W.keepIn K (.ref f_bp) = true)
    (a_bt : PySem.W.nsIn K mainGlobals "parts" = some (some (.ref f_bt)))
    (l_bt : K.lookup f_bt = some ⟨oc_bt, od_bt, .func (PySem.W.fnOf "parts" "parts" (defArgs s_parts) (defBody s_parts) (defScope s_parts) .none kV_bt dc_bt pm_bt an_bt cd_bt ct_bt), sl_bt⟩)
    (c_bt : PySem.W.codeIn K cd_bt "parts" = true)
    (k_bt : PySem.W.keepIn K (.ref f_bt) = true)
    (a_bj : PySem.W.nsIn K mainGlobals "rounded" = some (some (.ref f_bj)))
    (l_bj : K.lookup f_bj = some ⟨oc_bj, od_bj, .func (PySem.W.fnOf "rounded" "rounded" (defArgs s_rounded) (defBody s_rounded) (defScope s_rounded) .none kV_bj dc_bj pm_bj an_bj cd_bj ct_bj), sl_bj⟩)
    (c_bj : PySem.W.codeIn K cd_bj "rounded" = true)
    (k_bj : PySem.W.keepIn K (.ref f_bj) = true)
    (a_an : PySem.W.nsIn K mainGlobals "with_rest" = some (some (.ref f_an)))
    (l_an : K.lookup f_an = some ⟨oc_an, od_an, .func (PySem.W.fnOf "with_rest" "with_rest" (defArgs s_with_rest) (defBody s_with_rest) (defScope s_with_rest) .none kV_an dc_an pm_an an_an cd_an ct_an), sl_an⟩)
    (c_an : PySem.W.codeIn K cd_an "with_rest" = true)
    (k_an : PySem.W.keepIn K (.ref f_an) = true)
    (a_h : PySem.W.findIn K (.ref C_Plain) "__init__" = some (some (.ref f_h)))
    (i_h : PySem.W.isFn K (.ref f_h) = true)
    (l_h : K.lookup f_h = some ⟨oc_h, od_h, .func (PySem.W.fnOf "__init__" "Plain.__init__" (defArgs s_Plain___init__) (defBody s_Plain___init__) (defScope s_Plain___init__) .none kV_h dc_h pm_h an_h cd_h ct_h), sl_h⟩)
    (c_h : PySem.W.codeIn K cd_h "Plain.__init__" = true)
    (k_h : PySem.W.keepIn K (.ref f_h) = true)
    (a_aq : PySem.W.nsIn K mainGlobals "all_below" = some (some (.ref f_aq)))
    (l_aq : K.lookup f_aq = some ⟨oc_aq, od_aq, .func (PySem.W.fnOf "all_below" "all_below" (defArgs s_all_below) (defBody s_all_below) (defScope s_all_below) .none kV_aq dc_aq pm_aq an_aq cd_aq ct_aq), sl_aq⟩)
    (c_aq : PySem.W.codeIn K cd_aq "all_below" = true)
    (k_aq : PySem.W.keepIn K (.ref f_aq) = true)
    (a_f : PySem.W.findIn K (.ref C_Spread) "__init__" = some (some (.ref f_f)))
    (i_f : PySem.W.isFn K (.ref f_f) = true)
    (l_f : K.lookup f_f = some ⟨oc_f, od_f, .func (PySem.W.fnOf "__init__" "Spread.__init__" (defArgs s_Spread___init__) (defBody s_Spread___init__) (defScope s_Spread___init__) .none kV_f dc_f pm_f an_f cd_f ct_f), sl_f⟩)
    (c_f : PySem.W.codeIn K cd_f "Spread.__init__" = true)
    (k_f : PySem.W.keepIn K (.ref f_f) = true)
    (a_bo : PySem.W.nsIn K mainGlobals "fitted" = some (some (.ref f_bo)))
    (l_bo : K.lookup f_bo = some ⟨oc_bo, od_bo, .func (PySem.W.fnOf "fitted" "fitted" (defArgs s_fitted) (defBody s_fitted) (defScope s_fitted) .none kV_bo dc_bo pm_bo an_bo cd_bo ct_bo), sl_bo⟩)
    (c_bo : PySem.W.codeIn K cd_bo "fitted" = true)
    (k_bo : PySem.W.keepIn K (.ref f_bo) = true)
    (a_a : PySem.W.nsIn K mainGlobals "quarters_and_rest" = some (some (.ref f_a)))
    (l_a : K.lookup f_a = some ⟨oc_a, od_a, .func (PySem.W.fnOf "quarters_and_rest" "quarters_and_rest" (defArgs s_quarters_and_rest) (defBody s_quarters_and_rest) (defScope s_quarters_and_rest) .none kV_a dc_a pm_a an_a cd_a ct_a), sl_a⟩)
    (c_a : PySem.W.codeIn K cd_a "quarters_and_rest" = true)
    (k_a : PySem.W.keepIn K (.ref f_a) = true)
    (a_bs : PySem.W.nsIn K mainGlobals "minus" = some (some (.ref f_bs)))
    (l_bs : K.lookup f_bs = some ⟨oc_bs, od_bs, .func (PySem.W.fnOf "minus" "minus" (defArgs s_minus) (defBody s_minus) (defScope s_minus) .none kV_bs dc_bs pm_bs an_bs cd_bs ct_bs), sl_bs⟩)
    (c_bs : PySem.W.codeIn K cd_bs "minus" = true)
    (k_bs : PySem.W.keepIn K (.ref f_bs) = true)
    (a_bg : PySem.W.nsIn K mainGlobals "divisor" = some (some (.ref f_bg)))
    (l_bg : K.lookup f_bg = some ⟨oc_bg, od_bg, .func (PySem.W.fnOf "divisor" "divisor" (defArgs s_divisor) (defBody s_divisor) (defScope s_divisor) .none kV_bg dc_bg pm_bg an_bg cd_bg ct_bg), sl_bg⟩)
    (c_bg : PySem.W.codeIn K cd_bg "divisor" = true)
    (k_bg : PySem.W.keepIn K (.ref f_bg) = true)
    (a_aw : PySem.W.nsIn K mainGlobals "in_pairs" = some (some (.ref f_aw)))
    (l_aw : K.lookup f_aw = some ⟨oc_aw, od_aw, .func (PySem.W.fnOf "in_pairs" "in_pairs" (defArgs s_in_pairs) (defBody s_in_pairs) (defScope s_in_pairs) .none kV_aw dc_aw pm_aw an_aw cd_aw ct_aw), sl_aw⟩)
    (c_aw : PySem.W.codeIn K cd_aw "in_pairs" = true)
    (k_aw : PySem.W.keepIn K (.ref f_aw) = true)
    (a_b : PySem.W.nsIn K mainGlobals "one_after_another" = some (some (.ref f_b)))
    (l_b : K.lookup f_b = some ⟨oc_b, od_b, .func (PySem.W.fnOf "one_after_another" "one_after_another" (defArgs s_one_after_another) (defBody s_one_after_another) (defScope s_one_after_another) .none kV_b dc_b pm_b an_b cd_b ct_b), sl_b⟩)
    (c_b : PySem.W.codeIn K cd_b "one_after_another" = true)
    (k_b : PySem.W.keepIn K (.ref f_b) = true)
    (a_ca : PySem.W.nsIn K mainGlobals "told" = some (some (.ref f_ca)))
    (l_ca : K.lookup f_ca = some ⟨oc_ca, od_ca, .func (PySem.W.fnOf "told" "told" (defArgs s_told) (defBody s_told) (defScope s_told) .none kV_ca dc_ca pm_ca an_ca cd_ca ct_ca), sl_ca⟩)
    (c_ca : PySem.W.codeIn K cd_ca "told" = true)
    (k_ca : PySem.W.keepIn K (.ref f_ca) = true)
    (a_z : PySem.W.nsIn K mainGlobals "add_endless" = some (some (.ref f_z)))
    (l_z : K.lookup f_z = some ⟨oc_z, od_z, .func (PySem.W.fnOf "add_endless" "add_endless" (defArgs s_add_endless) (defBody s_add_endless) (defScope s_add_endless) .none kV_z dc_z pm_z an_z cd_z ct_z), sl_z⟩)
    (c_z : PySem.W.codeIn K cd_z "add_endless" = true)
    (k_z : PySem.W.keepIn K (.ref f_z) = true)
    (a_az : PySem.W.nsIn K mainGlobals "multiply" = some (some (.ref f_az)))
    (l_az : K.lookup f_az = some ⟨oc_az, od_az, .func (PySem.W.fnOf "multiply" "multiply" (defArgs s_multiply) (defBody s_multiply) (defScope s_multiply) .none kV_az dc_az pm_az an_az cd_az ct_az), sl_az⟩)
    (c_az : PySem.W.codeIn K cd_az "multiply" = true)
    (k_az : PySem.W.keepIn K (.ref f_az) = true)
    (a_bm : PySem.W.nsIn K mainGlobals "divide" = some (some (.ref f_bm)))
    (l_bm : K.lookup f_bm = some ⟨oc_bm, od_bm, .func (PySem.W.fnOf "divide" "divide" (defArgs s_divide) (defBody s_divide) (defScope s_divide) .none kV_bm dc_bm pm_bm an_bm cd_bm ct_bm), sl_bm⟩)
    (c_bm : PySem.W.codeIn K cd_bm "divide" = true)
    (k_bm : PySem.W.keepIn K (.ref f_bm) = true)
    (a_as : PySem.W.nsIn K mainGlobals "in_format" = some (some (.ref f_as)))
    (l_as : K.lookup f_as = some ⟨oc_as, od_as, .func (PySem.W.fnOf "in_format" "in_format" (defArgs s_in_format) (defBody s_in_format) (defScope s_in_format) .none kV_as dc_as pm_as an_as cd_as ct_as), sl_as⟩)
    (c_as : PySem.W.codeIn K cd_as "in_format" = true)
    (k_as : PySem.W.keepIn K (.ref f_as) = true)
    (a_al : PySem.W.nsIn K mainGlobals "from_whole" = some (some (.ref f_al)))
    (l_al : K.lookup f_al = some ⟨oc_al, od_al, .func (PySem.W.fnOf "from_whole" "from_whole" (defArgs s_from_whole) (defBody s_from_whole) (defScope s_from_whole) .none kV_al dc_al pm_al an_al cd_al ct_al), sl_al⟩)
    (c_al : PySem.W.codeIn K cd_al "from_whole" = true)
    (k_al : PySem.W.keepIn K (.ref f_al) = true)
    (a_bi : PySem.W.nsIn K mainGlobals "counted" = some (some (.ref f_bi)))
    (l_bi : K.lookup f_bi = some ⟨oc_bi, od_bi, .func (PySem.W.fnOf "counted" "counted" (defArgs s_counted) (defBody s_counted) (defScope s_counted) .none kV_bi dc_bi pm_bi an_bi cd_bi ct_bi), sl_bi⟩)
    (c_bi : PySem.W.codeIn K cd_bi "counted" = true)
    (k_bi : PySem.W.keepIn K (.ref f_bi) = true)
    (a_ba : PySem.W.nsIn K mainGlobals "divisors" = some (some (.ref f_ba)))
    (l_ba : K.lookup f_ba = some ⟨oc_ba, od_ba, .func (PySem.W.fnOf "divisors" "divisors" (defArgs s_divisors) (defBody s_divisors) (defScope s_divisors) .none kV_ba dc_ba pm_ba an_ba cd_ba ct_ba), sl_ba⟩)
    (c_ba : PySem.W.codeIn K cd_ba "divisors" = true)
    (k_ba : PySem.W.keepIn K (.ref f_ba) = true)
    (a_cb : PySem.W.nsIn K mainGlobals "add" = some (some (.ref f_cb)))
    (l_cb : K.lookup f_cb = some ⟨oc_cb, od_cb, .func (PySem.W.fnOf "add" "add" (defArgs s_add) (defBody s_add) (defScope s_add) .none kV_cb dc_cb pm_cb an_cb cd_cb ct_cb), sl_cb⟩)
    (c_cb : PySem.W.codeIn K cd_cb "add" = true)
    (k_cb : PySem.W.keepIn K (.ref f_cb) = true)
    (a_ax : PySem.W.nsIn K mainGlobals "opposite" = some (some (.ref f_ax)))
    (l_ax : K.lookup f_ax = some ⟨oc_ax, od_ax, .func (PySem.W.fnOf "opposite" "opposite" (defArgs s_opposite) (defBody s_opposite) (defScope s_opposite) .none kV_ax dc_ax pm_ax an_ax cd_ax ct_ax), sl_ax⟩)
    (c_ax : PySem.W.codeIn K cd_ax "opposite" = true)
    (k_ax : PySem.W.keepIn K (.ref f_ax) = true)
    (a_bb : PySem.W.nsIn K mainGlobals "narrowed" = some (some (.ref f_bb)))
    (l_bb : K.lookup f_bb = some ⟨oc_bb, od_bb, .func (PySem.W.fnOf "narrowed" "narrowed" (defArgs s_narrowed) (defBody s_narrowed) (defScope s_narrowed) .none kV_bb dc_bb pm_bb an_bb cd_bb ct_bb), sl_bb⟩)
    (c_bb : PySem.W.codeIn K cd_bb "narrowed" = true)
    (k_bb : PySem.W.keepIn K (.ref f_bb) = true)
    (a_bu : PySem.W.nsIn K mainGlobals "angle" = some (some (.ref f_bu)))
    (l_bu : K.lookup f_bu = some ⟨oc_bu, od_bu, .func (PySem.W.fnOf "angle" "angle" (defArgs s_angle) (defBody s_angle) (defScope s_angle) .none kV_bu dc_bu pm_bu an_bu cd_bu ct_bu), sl_bu⟩)
    (c_bu : PySem.W.codeIn K cd_bu "angle" = true)
    (k_bu : PySem.W.keepIn K (.ref f_bu) = true)
    (a_bd : PySem.W.nsIn K mainGlobals "subtract" = some (some (.ref f_bd)))
    (l_bd : K.lookup f_bd = some ⟨oc_bd, od_bd, .func (PySem.W.fnOf "subtract" "subtract" (defArgs s_subtract) (defBody s_subtract) (defScope s_subtract) .none kV_bd dc_bd pm_bd an_bd cd_bd ct_bd), sl_bd⟩)
    (c_bd : PySem.W.codeIn K cd_bd "subtract" = true)
    (k_bd : PySem.W.keepIn K (.ref f_bd) = true)
    (a_ar : PySem.W.nsIn K mainGlobals "of_double" = some (some (.ref f_ar)))
    (l_ar : K.lookup f_ar = some ⟨oc_ar, od_ar, .func (PySem.W.fnOf "of_double" "of_double" (defArgs s_of_double) (defBody s_of_double) (defScope s_of_double) .none kV_ar dc_ar pm_ar an_ar cd_ar ct_ar), sl_ar⟩)
    (c_ar : PySem.W.codeIn K cd_ar "of_double" = true)
    (k_ar : PySem.W.keepIn K (.ref f_ar) = true)
    (a_bn : PySem.W.nsIn K mainGlobals "series" = some (some (.ref f_bn)))
    (l_bn : K.lookup f_bn = some ⟨oc_bn, od_bn, .func (PySem.W.fnOf "series" "series" (defArgs s_series) (defBody s_series) (defScope s_series) .none kV_bn dc_bn pm_bn an_bn cd_bn ct_bn), sl_bn⟩)
    (c_bn : PySem.W.codeIn K cd_bn "series" = true)
    (k_bn : PySem.W.keepIn K (.ref f_bn) = true)
    (a_j : PySem.W.nsIn K mainGlobals "with_opposites" = some (some (.ref f_j)))
    (l_j : K.lookup f_j = some ⟨oc_j, od_j, .func (PySem.W.fnOf "with_opposites" "with_opposites" (defArgs s_with_opposites) (defBody s_with_opposites) (defScope s_with_opposites) .none kV_j dc_j pm_j an_j cd_j ct_j), sl_j⟩)
    (c_j : PySem.W.codeIn K cd_j "with_opposites" = true)
    (k_j : PySem.W.keepIn K (.ref f_j) = true)
    (a_ak : PySem.W.nsIn K mainGlobals "small_sine" = some (some (.ref f_ak)))
    (l_ak : K.lookup f_ak = some ⟨oc_ak, od_ak, .func (PySem.W.fnOf "small_sine" "small_sine" (defArgs s_small_sine) (defBody s_small_sine) (defScope s_small_sine) .none kV_ak dc_ak pm_ak an_ak cd_ak ct_ak), sl_ak⟩)
    (c_ak : PySem.W.codeIn K cd_ak "small_sine" = true)
    (k_ak : PySem.W.keepIn K (.ref f_ak) = true)
    (a_p : PySem.W.nsIn K mainGlobals "small_cosine" = some (some (.ref f_p)))
    (l_p : K.lookup f_p = some ⟨oc_p, od_p, .func (PySem.W.fnOf "small_cosine" "small_cosine" (defArgs s_small_cosine) (defBody s_small_cosine) (defScope s_small_cosine) .none kV_p dc_p pm_p an_p cd_p ct_p), sl_p⟩)
    (c_p : PySem.W.codeIn K cd_p "small_cosine" = true)
    (k_p : PySem.W.keepIn K (.ref f_p) = true)
    (a_d : PySem.W.nsIn K mainGlobals "in_first_quarter" = some (some (.ref f_d)))
    (l_d : K.lookup f_d = some ⟨oc_d, od_d, .func (PySem.W.fnOf "in_first_quarter" "in_first_quarter" (defArgs s_in_first_quarter) (defBody s_in_first_quarter) (defScope s_in_first_quarter) .none kV_d dc_d pm_d an_d cd_d ct_d), sl_d⟩)
    (c_d : PySem.W.codeIn K cd_d "in_first_quarter" = true)
    (k_d : PySem.W.keepIn K (.ref f_d) = true)
    (a_e : PySem.W.nsIn K mainGlobals "cosine_and_sine" = some (some (.ref f_e)))
    (l_e : K.lookup f_e = some ⟨oc_e, od_e, .func (PySem.W.fnOf "cosine_and_sine" "cosine_and_sine" (defArgs s_cosine_and_sine) (defBody s_cosine_and_sine) (defScope s_cosine_and_sine) .none kV_e dc_e pm_e an_e cd_e ct_e), sl_e⟩)
    (c_e : PySem.W.codeIn K cd_e "cosine_and_sine" = true)
    (k_e : PySem.W.keepIn K (.ref f_e) = true)
    (a_x : PySem.W.findIn K (.ref C_Plain) "taken" = some (some (.ref f_x)))
    (i_x : PySem.W.isFn K (.ref f_x) = true)
    (l_x : K.lookup f_x = some ⟨oc_x, od_x, .func (PySem.W.fnOf "taken" "Plain.taken" (defArgs s_Plain_taken) (defBody s_Plain_taken) (defScope s_Plain_taken) .none kV_x dc_x pm_x an_x cd_x ct_x), sl_x⟩)
    (c_x : PySem.W.codeIn K cd_x "Plain.taken" = true)
    (k_x : PySem.W.keepIn K (.ref f_x) = true)
    (a_ad : PySem.W.findIn K (.ref C_Plain) "given" = some (some (.ref f_ad)))
    (i_ad : PySem.W.isFn K (.ref f_ad) = true)
    (l_ad : K.lookup f_ad = some ⟨oc_ad, od_ad, .func (PySem.W.fnOf "given" "Plain.given" (defArgs s_Plain_given) (defBody s_Plain_given) (defScope s_Plain_given) .none kV_ad dc_ad pm_ad an_ad cd_ad ct_ad), sl_ad⟩)
    (c_ad : PySem.W.codeIn K cd_ad "Plain.given" = true)
    (k_ad : PySem.W.keepIn K (.ref f_ad) = true)
    (a_w : PySem.W.findIn K (.ref C_Plain) "factor" = some (some (.ref f_w)))
    (i_w : PySem.W.isFn K (.ref f_w) = true)
    (l_w : K.lookup f_w = some ⟨oc_w, od_w, .func (PySem.W.fnOf "factor" "Plain.factor" (defArgs s_Plain_factor) (defBody s_Plain_factor) (defScope s_Plain_factor) .none kV_w dc_w pm_w an_w cd_w ct_w), sl_w⟩)
    (c_w : PySem.W.codeIn K cd_w "Plain.factor" = true)
    (k_w : PySem.W.keepIn K (.ref f_w) = true)
    (a_aj : PySem.W.findIn K (.ref C_Plain) "plus" = some (some (.ref f_aj)))
    (i_aj : PySem.W.isFn K (.ref f_aj) = true)
    (l_aj : K.lookup f_aj = some ⟨oc_aj, od_aj, .func (PySem.W.fnOf "plus" "Plain.plus" (defArgs s_Plain_plus) (defBody s_Plain_plus) (defScope s_Plain_plus) .none kV_aj dc_aj pm_aj an_aj cd_aj ct_aj), sl_aj⟩)
    (c_aj : PySem.W.codeIn K cd_aj "Plain.plus" = true)
    (k_aj : PySem.W.keepIn K (.ref f_aj) = true)
    (a_ai : PySem.W.findIn K (.ref C_Plain) "less" = some (some (.ref f_ai)))
    (i_ai : PySem.W.isFn K (.ref f_ai) = true)
    (l_ai : K.lookup f_ai = some ⟨oc_ai, od_ai, .func (PySem.W.fnOf "less" "Plain.less" (defArgs s_Plain_less) (defBody s_Plain_less) (defScope s_Plain_less) .none kV_ai dc_ai pm_ai an_ai cd_ai ct_ai), sl_ai⟩)
    (c_ai : PySem.W.codeIn K cd_ai "Plain.less" = true)
    (k_ai : PySem.W.keepIn K (.ref f_ai) = true)
    (a_aa : PySem.W.findIn K (.ref C_Plain) "times" = some (some (.ref f_aa)))
    (i_aa : PySem.W.isFn K (.ref f_aa) = true)
    (l_aa : K.lookup f_aa = some ⟨oc_aa, od_aa, .func (PySem.W.fnOf "times" "Plain.times" (defArgs s_Plain_times) (defBody s_Plain_times) (defScope s_Plain_times) .none kV_aa dc_aa pm_aa an_aa cd_aa ct_aa), sl_aa⟩)
    (c_aa : PySem.W.codeIn K cd_aa "Plain.times" = true)
    (k_aa : PySem.W.keepIn K (.ref f_aa) = true)
    (a_ac : PySem.W.findIn K (.ref C_Plain) "minus" = some (some (.ref f_ac)))
    (i_ac : PySem.W.isFn K (.ref f_ac) = true)
    (l_ac : K.lookup f_ac = some ⟨oc_ac, od_ac, .func (PySem.W.fnOf "minus" "Plain.minus" (defArgs s_Plain_minus) (defBody s_Plain_minus) (defScope s_Plain_minus) .none kV_ac dc_ac pm_ac an_ac cd_ac ct_ac), sl_ac⟩)
    (c_ac : PySem.W.codeIn K cd_ac "Plain.minus" = true)
    (k_ac : PySem.W.keepIn K (.ref f_ac) = true)
    (a_v : PySem.W.findIn K (.ref C_Spread) "taken" = some (some (.ref f_v)))
    (i_v : PySem.W.isFn K (.ref f_v) = true)
    (l_v : K.lookup f_v = some ⟨oc_v, od_v, .func (PySem.W.fnOf "taken" "Spread.taken" (defArgs s_Spread_taken) (defBody s_Spread_taken) (defScope s_Spread_taken) .none kV_v dc_v pm_v an_v cd_v ct_v), sl_v⟩)
    (c_v : PySem.W.codeIn K cd_v "Spread.taken" = true)
    (k_v : PySem.W.keepIn K (.ref f_v) = true)
    (a_u : PySem.W.findIn K (.ref C_Spread) "given" = some (some (.ref f_u)))
    (i_u : PySem.W.isFn K (.ref f_u) = true)
    (l_u : K.lookup f_u = some ⟨oc_u, od_u, .func (PySem.W.fnOf "given" "Spread.given" (defArgs s_Spread_given) (defBody s_Spread_given) (defScope s_Spread_given) .none kV_u dc_u pm_u an_u cd_u ct_u), sl_u⟩)
    (c_u : PySem.W.codeIn K cd_u "Spread.given" = true)
    (k_u : PySem.W.keepIn K (.ref f_u) = true)
    (a_k : PySem.W.findIn K (.ref C_Spread) "factor" = some (some (.ref f_k)))
    (i_k : PySem.W.isFn K (.ref f_k) = true)
    (l_k : K.lookup f_k = some ⟨oc_k, od_k, .func (PySem.W.fnOf "factor" "Spread.factor" (defArgs s_Spread_factor) (defBody s_Spread_factor) (defScope s_Spread_factor) .none kV_k dc_k pm_k an_k cd_k ct_k), sl_k⟩)
    (c_k : PySem.W.codeIn K cd_k "Spread.factor" = true)
    (k_k : PySem.W.keepIn K (.ref f_k) = true)
    (a_y : PySem.W.findIn K (.ref C_Spread) "plus" = some (some (.ref f_y)))
    (i_y : PySem.W.isFn K (.ref f_y) = true)
    (l_y : K.lookup f_y = some ⟨oc_y, od_y, .func (PySem.W.fnOf "plus" "Spread.plus" (defArgs s_Spread_plus) (defBody s_Spread_plus) (defScope s_Spread_plus) .none kV_y dc_y pm_y an_y cd_y ct_y), sl_y⟩)
    (c_y : PySem.W.codeIn K cd_y "Spread.plus" = true)
    (k_y : PySem.W.keepIn K (.ref f_y) = true)
    (a_af : PySem.W.findIn K (.ref C_Spread) "less" = some (some (.ref f_af)))
    (i_af : PySem.W.isFn K (.ref f_af) = true)
    (l_af : K.lookup f_af = some ⟨oc_af, od_af, .func (PySem.W.fnOf "less" "Spread.less" (defArgs s_Spread_less) (defBody s_Spread_less) (defScope s_Spread_less) .none kV_af dc_af pm_af an_af cd_af ct_af), sl_af⟩)
    (c_af : PySem.W.codeIn K cd_af "Spread.less" = true)
    (k_af : PySem.W.keepIn K (.ref f_af) = true)
    (a_r : PySem.W.findIn K (.ref C_Spread) "times" = some (some (.ref f_r)))
    (i_r : PySem.W.isFn K (.ref f_r) = true)
    (l_r : K.lookup f_r = some ⟨oc_r, od_r, .func (PySem.W.fnOf "times" "Spread.times" (defArgs s_Spread_times) (defBody s_Spread_times) (defScope s_Spread_times) .none kV_r dc_r pm_r an_r cd_r ct_r), sl_r⟩)
    (c_r : PySem.W.codeIn K cd_r "Spread.times" = true)
    (k_r : PySem.W.keepIn K (.ref f_r) = true)
    (a_n : PySem.W.findIn K (.ref C_Spread) "minus" = some (some (.ref f_n)))
    (i_n : PySem.W.isFn K (.ref f_n) = true)
    (l_n : K.lookup f_n = some ⟨oc_n, od_n, .func (PySem.W.fnOf "minus" "Spread.minus" (defArgs s_Spread_minus) (defBody s_Spread_minus) (defScope s_Spread_minus) .none kV_n dc_n pm_n an_n cd_n ct_n), sl_n⟩)
    (c_n : PySem.W.codeIn K cd_n "Spread.minus" = true)
    (k_n : PySem.W.keepIn K (.ref f_n) = true)
    (a_g : PySem.W.nsIn K mainGlobals "arithmetic_for" = some (some (.ref f_g)))
    (l_g : K.lookup f_g = some ⟨oc_g, od_g, .func (PySem.W.fnOf "arithmetic_for" "arithmetic_for" (defArgs s_arithmetic_for) (defBody s_arithmetic_for) (defScope s_arithmetic_for) .none kV_g dc_g pm_g an_g cd_g ct_g), sl_g⟩)
    (c_g : PySem.W.codeIn K cd_g "arithmetic_for" = true)
    (k_g : PySem.W.keepIn K (.ref f_g) = true)
    (a_o : PySem.W.nsIn K mainGlobals "part_of_turn" = some (some (.ref f_o)))
    (l_o : K.lookup f_o = some ⟨oc_o, od_o, .func (PySem.W.fnOf "part_of_turn" "part_of_turn" (defArgs s_part_of_turn) (defBody s_part_of_turn) (defScope s_part_of_turn) .none kV_o dc_o pm_o an_o cd_o ct_o), sl_o⟩)
    (c_o : PySem.W.codeIn K cd_o "part_of_turn" = true)
    (k_o : PySem.W.keepIn K (.ref f_o) = true)
    (a_ae : PySem.W.nsIn K mainGlobals "turned_back" = some (some (.ref f_ae)))
    (l_ae : K.lookup f_ae = some ⟨oc_ae, od_ae, .func (PySem.W.fnOf "turned_back" "turned_back" (defArgs s_turned_back) (defBody s_turned_back) (defScope s_turned_back) .none kV_ae dc_ae pm_ae an_ae cd_ae ct_ae), sl_ae⟩)
    (c_ae : PySem.W.codeIn K cd_ae "turned_back" = true)
    (k_ae : PySem.W.keepIn K (.ref f_ae) = true)
    (a_ag : PySem.W.nsIn K mainGlobals "pairs_added" = some (some (.ref f_ag)))
    (l_ag : K.lookup f_ag = some ⟨oc_ag, od_ag, .func (PySem.W.fnOf "pairs_added" "pairs_added" (defArgs s_pairs_added) (defBody s_pairs_added) (defScope s_pairs_added) .none kV_ag dc_ag pm_ag an_ag cd_ag ct_ag), sl_ag⟩)
    (c_ag : PySem.W.codeIn K cd_ag "pairs_added" = true)
    (k_ag : PySem.W.keepIn K (.ref f_ag) = true)
    (a_c : PySem.W.nsIn K mainGlobals "pairs_subtracted" = some (some (.ref f_c)))
    (l_c : K.lookup f_c = some ⟨oc_c, od_c, .func (PySem.W.fnOf "pairs_subtracted" "pairs_subtracted" (defArgs s_pairs_subtracted) (defBody s_pairs_subtracted) (defScope s_pairs_subtracted) .none kV_c dc_c pm_c an_c cd_c ct_c), sl_c⟩)
    (c_c : PySem.W.codeIn K cd_c "pairs_subtracted" = true)
    (k_c : PySem.W.keepIn K (.ref f_c) = true)
    (a_q : PySem.W.nsIn K mainGlobals "two_together" = some (some (.ref f_q)))
    (l_q : K.lookup f_q = some ⟨oc_q, od_q, .func (PySem.W.fnOf "two_together" "two_together" (defArgs s_two_together) (defBody s_two_together) (defScope s_two_together) .none kV_q dc_q pm_q an_q cd_q ct_q), sl_q⟩)
    (c_q : PySem.W.codeIn K cd_q "two_together" = true)
    (k_q : PySem.W.keepIn K (.ref f_q) = true)
    (a_l : PySem.W.nsIn K mainGlobals "four_together" = some (some (.ref f_l)))
    (l_l : K.lookup f_l = some ⟨oc_l, od_l, .func (PySem.W.fnOf "four_together" "four_together" (defArgs s_four_together) (defBody s_four_together) (defScope s_four_together) .none kV_l dc_l pm_l an_l cd_l ct_l), sl_l⟩)
    (c_l : PySem.W.codeIn K cd_l "four_together" = true)
    (k_l : PySem.W.keepIn K (.ref f_l) = true)
    (a_m : PySem.W.nsIn K mainGlobals "many_together" = some (some (.ref f_m)))
    (l_m : K.lookup f_m = some ⟨oc_m, od_m, .func (PySem.W.fnOf "many_together" "many_together" (defArgs s_many_together) (defBody s_many_together) (defScope s_many_together) .none kV_m dc_m pm_m an_m cd_m ct_m), sl_m⟩)
    (c_m : PySem.W.codeIn K cd_m "many_together" = true)
    (k_m : PySem.W.keepIn K (.ref f_m) = true)
    (a_au : PySem.W.nsIn K mainGlobals "together" = some (some (.ref f_au)))
    (l_au : K.lookup f_au = some ⟨oc_au, od_au, .func (PySem.W.fnOf "together" "together" (defArgs s_together) (defBody s_together) (defScope s_together) .none kV_au dc_au pm_au an_au cd_au ct_au), sl_au⟩)
    (c_au : PySem.W.codeIn K cd_au "together" = true)
    (k_au : PySem.W.keepIn K (.ref f_au) = true)
    (a_at : PySem.W.nsIn K mainGlobals "transform" = some (some (.ref f_at)))
    (l_at : K.lookup f_at = some ⟨oc_at, od_at, .func (PySem.W.fnOf "transform" "transform" (defArgs s_transform) (defBody s_transform) (defScope s_transform) .none kV_at dc_at pm_at an_at cd_at ct_at), sl_at⟩)
    (c_at : PySem.W.codeIn K cd_at "transform" = true)
    (k_at : PySem.W.keepIn K (.ref f_at) = true)
    (a_be : PySem.W.nsIn K mainGlobals "way_back" = some (some (.ref f_be)))
    (l_be : K.lookup f_be = some ⟨oc_be, od_be, .func (PySem.W.fnOf "way_back" "way_back" (defArgs s_way_back) (defBody s_way_back) (defScope s_way_back) .none kV_be dc_be pm_be an_be cd_be ct_be), sl_be⟩)
    (c_be : PySem.W.codeIn K cd_be "way_back" = true)
    (k_be : PySem.W.keepIn K (.ref f_be) = true)
    (a_br : PySem.W.nsIn K mainGlobals "turned" = some (some (.ref f_br)))
    (l_br : K.lookup f_br = some ⟨oc_br, od_br, .func (PySem.W.fnOf "turned" "turned" (defArgs s_turned) (defBody s_turned) (defScope s_turned) .none kV_br dc_br pm_br an_br cd_br ct_br), sl_br⟩)
    (c_br : PySem.W.codeIn K cd_br "turned" = true)
    (k_br : PySem.W.keepIn K (.ref f_br) = true)
    (a_bv : PySem.W.nsIn K mainGlobals "turn" = some (some (.ref f_bv)))
    (l_bv : K.lookup f_bv = some ⟨oc_bv, od_bv, .func (PySem.W.fnOf "turn" "turn" (defArgs s_turn) (defBody s_turn) (defScope s_turn) .none kV_bv dc_bv pm_bv an_bv cd_bv ct_bv), sl_bv⟩)
    (c_bv : PySem.W.codeIn K cd_bv "turn" = true)
    (k_bv : PySem.W.keepIn K (.ref f_bv) = true)
    (n_bx : PySem.W.nsIn K mainGlobals "ROOM" = some (some (.int (64) t_ROOM)))
    (n_bq : PySem.W.nsIn K mainGlobals "DOUBLE" = some (some (.int (1) t_DOUBLE)))
    (n_bf : PySem.W.nsIn K mainGlobals "ONE_HALF" = some (some (.int (4602678819172646912) t_ONE_HALF)))
    (n_ap : PySem.W.nsIn K mainGlobals "ONE_WHOLE" = some (some (.int (4607182418800017408) t_ONE_WHOLE)))
    (n_bh : PySem.W.nsIn K mainGlobals "HALF_PI" = some (some (.int (4609753056924675352) t_HALF_PI)))
    (n_s : PySem.W.nsIn K mainGlobals "ROOT_OF_HALF" = some (some (.int (4604544271217802189) t_ROOT_OF_HALF)))
    (n_bl : PySem.W.nsIn K mainGlobals "PLACES" = some (some (.int (80) t_PLACES)))
    (n_bw : PySem.W.nsIn K mainGlobals "WAYS" = some (some (.int (2) t_WAYS)))
    (n_bz : PySem.W.nsIn K mainGlobals "DONE" = some (some (.int (0) t_DONE)))
    (n_bk : PySem.W.nsIn K mainGlobals "REFUSED" = some (some (.int (-2) t_REFUSED)))
    (n_am : PySem.W.nsIn K mainGlobals "SINE_TERMS" = some (some (.ref p_am)))
    (l_am : K.lookup p_am = some ⟨.type "tuple", od_am, .seq #[.int (13818544856648471881) t_SINE_TERMS_0, .int (4575957461383575718) t_SINE_TERMS_1, .int (13774824197404582357) t_SINE_TERMS_2, .int (4523617212983017085) t_SINE_TERMS_3, .int (13716528393433619691) t_SINE_TERMS_4, .int (4460209850635244924) t_SINE_TERMS_5] nn_am, sl_am⟩)
    (n_t : PySem.W.nsIn K mainGlobals "COSINE_TERMS" = some (some (.ref p_t)))
    (l_t : K.lookup p_t = some ⟨.type "tuple", od_t, .seq #[.int (4586165620538955084) t_COSINE_TERMS_0, .int (13787419979223748983) t_COSINE_TERMS_1, .int (4537941361668330896) t_COSINE_TERMS_2, .int (13732177093731308205) t_COSINE_TERMS_3, .int (4477121870137962948) t_COSINE_TERMS_4, .int (13666448951086692564) t_COSINE_TERMS_5] nn_t, sl_t⟩)
    (n_ay : PySem.W.nsIn K mainGlobals "QUARTERS" = some (some (.ref p_ay)))
    (l_ay : K.lookup p_ay = some ⟨.type "tuple", od_ay, .seq #[.ref q_QUARTERS_0, .ref q_QUARTERS_1, .ref q_QUARTERS_2, .ref q_QUARTERS_3] nn_ay, sl_ay⟩)
    (l_QUARTERS_0 : K.lookup q_QUARTERS_0 = some ⟨.type "tuple", od_QUARTERS_0, .seq #[.int (4607182418800017408) ta_QUARTERS_0, .int (0) tb_QUARTERS_0] nn_QUARTERS_0, sl_QUARTERS_0⟩)
    (l_QUARTERS_1 : K.lookup q_QUARTERS_1 = some ⟨.type "tuple", od_QUARTERS_1, .seq #[.int (0) ta_QUARTERS_1, .int (4607182418800017408) tb_QUARTERS_1] nn_QUARTERS_1, sl_QUARTERS_1⟩)
    (l_QUARTERS_2 : K.lookup q_QUARTERS_2 = some ⟨.type "tuple", od_QUARTERS_2, .seq #[.int (13830554455654793216) ta_QUARTERS_2, .int (0) tb_QUARTERS_2] nn_QUARTERS_2, sl_QUARTERS_2⟩)
    (l_QUARTERS_3 : K.lookup q_QUARTERS_3 = some ⟨.type "tuple", od_QUARTERS_3, .seq #[.int (0) ta_QUARTERS_3, .int (13830554455654793216) tb_QUARTERS_3] nn_QUARTERS_3, sl_QUARTERS_3⟩)
    (b_max : PySem.W.nsIn K mainGlobals "max" = some none)
    (b_min : PySem.W.nsIn K mainGlobals "min" = some none)
    (b_divmod : PySem.W.nsIn K mainGlobals "divmod" = some none)
    (b_abs : PySem.W.nsIn K mainGlobals "abs" = some none)
    (b_len : PySem.W.nsIn K mainGlobals "len" = some none)
    (b_range : PySem.W.nsIn K mainGlobals "range" = some none)
    (b_reversed : PySem.W.nsIn K mainGlobals "reversed" = some none)
    (b_enumerate : PySem.W.nsIn K mainGlobals "enumerate" = some none)
    (b_list : PySem.W.nsIn K mainGlobals "list" = some none)
    (b_zip : PySem.W.nsIn K mainGlobals "zip" = some none)
    : ∃ fd : FuncData, (∀ (s : Shared) (us : List Value), us.length = (["f", "way", "x"] : List Str).length → BindsTo s fd ⟨us, []⟩ ((["f", "way", "x"] : List Str).zip us)) ∧ ∀ base : Heap, K.In base → base.Ns mainGlobals mg → FnOk P w K mg base CX0 17 fa fd ["f", "way", "x"] (sp_bv K) := by
  have e := hfa.symm.trans (PySem.W.mg_of X G a_bv)
  cases e
  have T_av : Tab K mg "SIGN_BIT" (fun F => ((HB F : Nat) : Int)) := tab_mk X G n_av l_av (by decide +kernel) (by decide +kernel)
  have T_ao : Tab K mg "SIZE_BITS" (fun F => ((HB F : Nat) : Int) - 1) := tab_mk X G n_ao l_ao (by decide +kernel) (by decide +kernel)
  have T_bc : Tab K mg "INFINITY" (fun F => ((Sp18.top F : Nat) : Int)) := tab_mk X G n_bc l_bc (by decide +kernel) (by decide +kernel)
  have T_cd : Tab K mg "NAN" (fun F => ((Sp18.NONE F : Nat) : Int)) := tab_mk X G n_cd l_cd (by decide +kernel) (by decide +kernel)
  have T_i : Tab K mg "FRACTION_WIDTH" (fun F => ((F.p - 1 : Nat) : Int)) := tab_mk X G n_i l_i (by decide +kernel) (by decide +kernel)
  have T_ah : Tab K mg "HIDDEN_BIT" (fun F => ((PW F : Nat) : Int)) := tab_mk X G n_ah l_ah (by decide +kernel) (by decide +kernel)
  have T_ab : Tab K mg "LEAST_POWER" (fun F => F.least) := tab_mk X G n_ab l_ab (by decide +kernel) (by decide +kernel)
  have T_by : Tab K mg "TAME" (fun F => ((tameB F : Nat) : Int)) := tab_mk X G n_by l_by (by decide +kernel) (by decide +kernel)
  have hSINE_TERMS : ∀ H, SqT K H p_am (Sp18.SINE.map fun n => V.int (n : Nat)) := fun H => .inr ⟨_, _, _, l_am, rfl, rfl, line_of_le (by decide : 6 ≤ 100000), (.cons ⟨_, rfl⟩ (.cons ⟨_, rfl⟩ (.cons ⟨_, rfl⟩ (.cons ⟨_, rfl⟩ (.cons ⟨_, rfl⟩ (.cons ⟨_, rfl⟩ .nil))))))⟩
  have hCOSINE_TERMS : ∀ H, SqT K H p_t (Sp18.COSINE.map fun n => V.int (n : Nat)) := fun H => .inr ⟨_, _, _, l_t, rfl, rfl, line_of_le (by decide : 6 ≤ 100000), (.cons ⟨_, rfl⟩ (.cons ⟨_, rfl⟩ (.cons ⟨_, rfl⟩ (.cons ⟨_, rfl⟩ (.cons ⟨_, rfl⟩ (.cons ⟨_, rfl⟩ .nil))))))⟩
  have hQUARTERS := ftab_sq (fs := [q_QUARTERS_0, q_QUARTERS_1, q_QUARTERS_2, q_QUARTERS_3]) l_ay rfl (by simp)
  have hQUARTERSi : ∀ (H : Hp) (i : Nat) a, [q_QUARTERS_0, q_QUARTERS_1, q_QUARTERS_2, q_QUARTERS_3][i]? = some a → SqT K H a [.int ((quarter i).1 : Nat), .int ((quarter i).2 : Nat)] := fun H i a e => match i, e with
    | 0, e => by cases e; exact .inr ⟨_, _, _, l_QUARTERS_0, rfl, rfl, two_le_line, .cons ⟨_, rfl⟩ (.cons ⟨_, rfl⟩ .nil)⟩
    | 1, e => by cases e; exact .inr ⟨_, _, _, l_QUARTERS_1, rfl, rfl, two_le_line, .cons ⟨_, rfl⟩ (.cons ⟨_, rfl⟩ .nil)⟩
    | 2, e => by cases e; exact .inr ⟨_, _, _, l_QUARTERS_2, rfl, rfl, two_le_line, .cons ⟨_, rfl⟩ (.cons ⟨_, rfl⟩ .nil)⟩
    | 3, e => by cases e; exact .inr ⟨_, _, _, l_QUARTERS_3, rfl, rfl, two_le_line, .cons ⟨_, rfl⟩ (.cons ⟨_, rfl⟩ .nil)⟩
    | (n + 4), e => by simp at e
  have CL_Plain : Cls K C_Plain := ⟨pg_Plain, hd_Plain, po_Plain, sa_Plain⟩
  have CL_Spread : Cls K C_Spread := ⟨pg_Spread, hd_Spread, po_Spread, sa_Spread⟩
  have F_bp := fun_mk (st := s_is_nan) l_bp c_bp k_bp
  have bi_bp := F_bp.binds (ps := ["f", "a"]) fun _ _ _ _ _ _ us hl => match us, hl with | [_, _], _ => rfl
  have F_bt := fun_mk (st := s_parts) l_bt c_bt k_bt
  have bi_bt := F_bt.binds (ps := ["f", "size"]) fun _ _ _ _ _ _ us hl => match us, hl with | [_, _], _ => rfl
  have F_bj := fun_mk (st := s_rounded) l_bj c_bj k_bj
  have bi_bj := F_bj.binds (ps := ["f", "sign", "m", "power"]) fun _ _ _ _ _ _ us hl => match us, hl with | [_, _, _, _], _ => rfl
  have F_an := fun_mk (st := s_with_rest) l_an c_an k_an
  have bi_an := F_an.binds (ps := ["m", "rest"]) fun _ _ _ _ _ _ us hl => match us, hl with | [_, _], _ => rfl
  have F_h := fun_mk (st := s_Plain___init__) l_h c_h k_h
  have bi_h := F_h.binds (ps := ["self", "f"]) fun _ _ _ _ _ _ us hl => match us, hl with | [_, _], _ => rfl
  have F_aq := fun_mk (st := s_all_below) l_aq c_aq k_aq
  have bi_aq := F_aq.binds (ps := ["f", "row", "limit"]) fun _ _ _ _ _ _ us hl => match us, hl with | [_, _, _], _ => rfl
  have F_f := fun_mk (st := s_Spread___init__) l_f c_f k_f
  have bi_f := F_f.binds (ps := ["self", "f", "factor_places"]) fun _ _ _ _ _ _ us hl => match us, hl with | [_, _, _], _ => rfl
  have F_bo := fun_mk (st := s_fitted) l_bo c_bo k_bo
  have bi_bo := F_bo.binds (ps := ["a", "width", "places"]) fun _ _ _ _ _ _ us hl => match us, hl with | [_, _, _], _ => rfl
  have F_a := fun_mk (st := s_quarters_and_rest) l_a c_a k_a
  have bi_a := F_a.binds (ps := ["n", "j"]) fun _ _ _ _ _ _ us hl => match us, hl with | [_, _], _ => rfl
  have F_bs := fun_mk (st := s_minus) l_bs c_bs k_bs
  have bi_bs := F_bs.binds (ps := ["a"]) fun _ _ _ _ _ _ us hl => match us, hl with | [_], _ => rfl
  have F_bg := fun_mk (st := s_divisor) l_bg c_bg k_bg
  have bi_bg := F_bg.binds (ps := ["n"]) fun _ _ _ _ _ _ us hl => match us, hl with | [_], _ => rfl
  have F_aw := fun_mk (st := s_in_pairs) l_aw c_aw k_aw
  have bi_aw := F_aw.binds (ps := ["x"]) fun _ _ _ _ _ _ us hl => match us, hl with | [_], _ => rfl
  have F_b := fun_mk (st := s_one_after_another) l_b c_b k_b
  have bi_b := F_b.binds (ps := ["row"]) fun _ _ _ _ _ _ us hl => match us, hl with | [_], _ => rfl
  have F_ca := fun_mk (st := s_told) l_ca c_ca k_ca
  have bi_ca := F_ca.binds (ps := ["f", "a"]) fun _ _ _ _ _ _ us hl => match us, hl with | [_, _], _ => rfl
  have F_z := fun_mk (st := s_add_endless) l_z c_z k_z
  have bi_z := F_z.binds (ps := ["f", "a", "b"]) fun _ _ _ _ _ _ us hl => match us, hl with | [_, _, _], _ => rfl
  have F_az := fun_mk (st := s_multiply) l_az c_az k_az
  have bi_az := F_az.binds (ps := ["f", "a", "b"]) fun _ _ _ _ _ _ us hl => match us, hl with | [_, _, _], _ => rfl
  have F_bm := fun_mk (st := s_divide) l_bm c_bm k_bm
  have bi_bm := F_bm.binds (ps := ["f", "a", "b"]) fun _ _ _ _ _ _ us hl => match us, hl with | [_, _, _], _ => rfl
  have F_as := fun_mk (st := s_in_format) l_as c_as k_as
  have bi_as := F_as.binds (ps := ["g", "f", "a"]) fun _ _ _ _ _ _ us hl => match us, hl with | [_, _, _], _ => rfl
  have F_al := fun_mk (st := s_from_whole) l_al c_al k_al
  have bi_al := F_al.binds (ps := ["f", "k"]) fun _ _ _ _ _ _ us hl => match us, hl with | [_, _], _ => rfl
  have F_bi := fun_mk (st := s_counted) l_bi c_bi k_bi
  have bi_bi := F_bi.binds (ps := ["f", "bits", "places"]) fun _ _ _ _ _ _ us hl => match us, hl with | [_, _, _], _ => rfl
  have F_ba := fun_mk (st := s_divisors) l_ba c_ba k_ba
  have bi_ba := F_ba.binds (ps := ["n"]) fun _ _ _ _ _ _ us hl => match us, hl with | [_], _ => rfl
  have F_cb := fun_mk (st := s_add) l_cb c_cb k_cb
  have bi_cb := F_cb.binds (ps := ["f", "a", "b"]) fun _ _ _ _ _ _ us hl => match us, hl with | [_, _, _], _ => rfl
  have F_ax := fun_mk (st := s_opposite) l_ax c_ax k_ax
  have bi_ax := F_ax.binds (ps := ["f", "a"]) fun _ _ _ _ _ _ us hl => match us, hl with | [_, _], _ => rfl
  have F_bb := fun_mk (st := s_narrowed) l_bb c_bb k_bb
  have bi_bb := F_bb.binds (ps := ["a"]) fun _ _ _ _ _ _ us hl => match us, hl with | [_], _ => rfl
  have F_bu := fun_mk (st := s_angle) l_bu c_bu k_bu
  have bi_bu := F_bu.binds (ps := ["r", "n"]) fun _ _ _ _ _ _ us hl => match us, hl with | [_, _], _ => rfl
  have F_bd := fun_mk (st := s_subtract) l_bd c_bd k_bd
  have bi_bd := F_bd.binds (ps := ["f", "a", "b"]) fun _ _ _ _ _ _ us hl => match us, hl with | [_, _, _], _ => rfl
  have F_ar := fun_mk (st := s_of_double) l_ar c_ar k_ar
  have bi_ar := F_ar.binds (ps := ["f", "a"]) fun _ _ _ _ _ _ us hl => match us, hl with | [_, _], _ => rfl
  have F_bn := fun_mk (st := s_series) l_bn c_bn k_bn
  have bi_bn := F_bn.binds (ps := ["terms", "z"]) fun _ _ _ _ _ _ us hl => match us, hl with | [_, _], _ => rfl
  have F_j := fun_mk (st := s_with_opposites) l_j c_j k_j
  have bi_j := F_j.binds (ps := ["f", "row"]) fun _ _ _ _ _ _ us hl => match us, hl with | [_, _], _ => rfl
  have F_ak := fun_mk (st := s_small_sine) l_ak c_ak k_ak
  have bi_ak := F_ak.binds (ps := ["t"]) fun _ _ _ _ _ _ us hl => match us, hl with | [_], _ => rfl
  have F_p := fun_mk (st := s_small_cosine) l_p c_p k_p
  have bi_p := F_p.binds (ps := ["t"]) fun _ _ _ _ _ _ us hl => match us, hl with | [_], _ => rfl
  have F_d := fun_mk (st := s_in_first_quarter) l_d c_d k_d
  have bi_d := F_d.binds (ps := ["n", "r"]) fun _ _ _ _ _ _ us hl => match us, hl with | [_, _], _ => rfl
  have F_e := fun_mk (st := s_cosine_and_sine) l_e c_e k_e
  have bi_e := F_e.binds (ps := ["n", "j"]) fun _ _ _ _ _ _ us hl => match us, hl with | [_, _], _ => rfl
  have F_x := fun_mk (st := s_Plain_taken) l_x c_x k_x
  have bi_x := F_x.binds (ps := ["self", "bits"]) fun _ _ _ _ _ _ us hl => match us, hl with | [_, _], _ => rfl
  have F_ad := fun_mk (st := s_Plain_given) l_ad c_ad k_ad
  have bi_ad := F_ad.binds (ps := ["self", "a"]) fun _ _ _ _ _ _ us hl => match us, hl with | [_, _], _ => rfl
  have F_w := fun_mk (st := s_Plain_factor) l_w c_w k_w
  have bi_w := F_w.binds (ps := ["self", "bits"]) fun _ _ _ _ _ _ us hl => match us, hl with | [_, _], _ => rfl
  have F_aj := fun_mk (st := s_Plain_plus) l_aj c_aj k_aj
  have bi_aj := F_aj.binds (ps := ["self", "a", "b"]) fun _ _ _ _ _ _ us hl => match us, hl with | [_, _, _], _ => rfl
  have F_ai := fun_mk (st := s_Plain_less) l_ai c_ai k_ai
  have bi_ai := F_ai.binds (ps := ["self", "a", "b"]) fun _ _ _ _ _ _ us hl => match us, hl with | [_, _, _], _ => rfl
  have F_aa := fun_mk (st := s_Plain_times) l_aa c_aa k_aa
  have bi_aa := F_aa.binds (ps := ["self", "a", "c"]) fun _ _ _ _ _ _ us hl => match us, hl with | [_, _, _], _ => rfl
  have F_ac := fun_mk (st := s_Plain_minus) l_ac c_ac k_ac
  have bi_ac := F_ac.binds (ps := ["self", "a"]) fun _ _ _ _ _ _ us hl => match us, hl with | [_, _], _ => rfl
  have F_v := fun_mk (st := s_Spread_taken) l_v c_v k_v
  have bi_v := F_v.binds (ps := ["self", "bits"]) fun _ _ _ _ _ _ us hl => match us, hl with | [_, _], _ => rfl
  have F_u := fun_mk (st := s_Spread_given) l_u c_u k_u
  have bi_u := F_u.binds (ps := ["self", "a"]) fun _ _ _ _ _ _ us hl => match us, hl with | [_, _], _ => rfl
  have F_k := fun_mk (st := s_Spread_factor) l_k c_k k_k
  have bi_k := F_k.binds (ps := ["self", "bits"]) fun _ _ _ _ _ _ us hl => match us, hl with | [_, _], _ => rfl
  have F_y := fun_mk (st := s_Spread_plus) l_y c_y k_y
  have bi_y := F_y.binds (ps := ["self", "a", "b"]) fun _ _ _ _ _ _ us hl => match us, hl with | [_, _, _], _ => rfl
  have F_af := fun_mk (st := s_Spread_less) l_af c_af k_af
  have bi_af := F_af.binds (ps := ["self", "a", "b"]) fun _ _ _ _ _ _ us hl => match us, hl with | [_, _, _], _ => rfl
  have F_r := fun_mk (st := s_Spread_times) l_r c_r k_r
  have bi_r := F_r.binds (ps := ["self", "a", "c"]) fun _ _ _ _ _ _ us hl => match us, hl with | [_, _, _], _ => rfl
  have F_n := fun_mk (st := s_Spread_minus) l_n c_n k_n
  have bi_n := F_n.binds (ps := ["self", "a"]) fun _ _ _ _ _ _ us hl => match us, hl with | [_, _], _ => rfl
  have F_g := fun_mk (st := s_arithmetic_for) l_g c_g k_g
  have bi_g := F_g.binds (ps := ["f", "row"]) fun _ _ _ _ _ _ us hl => match us, hl with | [_, _], _ => rfl
  have F_o := fun_mk (st := s_part_of_turn) l_o c_o k_o
  have bi_o := F_o.binds (ps := ["numbers", "f", "n", "j"]) fun _ _ _ _ _ _ us hl => match us, hl with | [_, _, _, _], _ => rfl
  have F_ae := fun_mk (st := s_turned_back) l_ae c_ae k_ae
  have bi_ae := F_ae.binds (ps := ["numbers", "part", "x1", "x2"]) fun _ _ _ _ _ _ us hl => match us, hl with | [_, _, _, _], _ => rfl
  have F_ag := fun_mk (st := s_pairs_added) l_ag c_ag k_ag
  have bi_ag := F_ag.binds (ps := ["numbers", "x", "y"]) fun _ _ _ _ _ _ us hl => match us, hl with | [_, _, _], _ => rfl
  have F_c := fun_mk (st := s_pairs_subtracted) l_c c_c k_c
  have bi_c := F_c.binds (ps := ["numbers", "x", "y"]) fun _ _ _ _ _ _ us hl => match us, hl with | [_, _, _], _ => rfl
  have F_q := fun_mk (st := s_two_together) l_q c_q k_q
  have bi_q := F_q.binds (ps := ["numbers", "parts", "rows"]) fun _ _ _ _ _ _ us hl => match us, hl with | [_, _, _], _ => rfl
  have F_l := fun_mk (st := s_four_together) l_l c_l k_l
  have bi_l := F_l.binds (ps := ["numbers", "parts", "rows"]) fun _ _ _ _ _ _ us hl => match us, hl with | [_, _, _], _ => rfl
  have F_m := fun_mk (st := s_many_together) l_m c_m k_m
  have bi_m := F_m.binds (ps := ["numbers", "parts", "rows"]) fun _ _ _ _ _ _ us hl => match us, hl with | [_, _, _], _ => rfl
  have F_au := fun_mk (st := s_together) l_au c_au k_au
  have bi_au := F_au.binds (ps := ["numbers", "parts", "rows"]) fun _ _ _ _ _ _ us hl => match us, hl with | [_, _, _], _ => rfl
  have F_at := fun_mk (st := s_transform) l_at c_at k_at
  have bi_at := F_at.binds (ps := ["f", "row"]) fun _ _ _ _ _ _ us hl => match us, hl with | [_, _], _ => rfl
  have F_be := fun_mk (st := s_way_back) l_be c_be k_be
  have bi_be := F_be.binds (ps := ["f", "row"]) fun _ _ _ _ _ _ us hl => match us, hl with | [_, _], _ => rfl
  have F_br := fun_mk (st := s_turned) l_br c_br k_br
  have bi_br := F_br.binds (ps := ["f", "way", "row"]) fun _ _ _ _ _ _ us hl => match us, hl with | [_, _, _], _ => rfl
  have F_bv := fun_mk (st := s_turn) l_bv c_bv k_bv
  refine ⟨PySem.W.fnOf "turn" "turn" (defArgs s_turn) (defBody s_turn) (defScope s_turn) .none kV_bv dc_bv pm_bv an_bv cd_bv ct_bv, fun s us hu => match us, hu with | [_, _, _], _ => .of_eq rfl, fun base KB GB => ?_⟩
  have O_bp := ok_bp (P := P) (w := w) (mg := mg) (base := base) F_bp T_ao T_bc
  have D_bp := def_mk O_bp (PySem.W.mg_of X G a_bp) k_bp bi_bp
  have O_bt := ok_bt (P := P) (w := w) (mg := mg) (base := base) F_bt T_i T_ab T_ah
  have D_bt := def_mk O_bt (PySem.W.mg_of X G a_bt) k_bt bi_bt
  have O_bj := ok_bj (P := P) (w := w) (mg := mg) (base := base) F_bj T_ab T_i T_bc (PySem.W.mg_none_of X G b_max) (PySem.W.mg_none_of X G b_min)
  have D_bj := def_mk O_bj (PySem.W.mg_of X G a_bj) k_bj bi_bj
  have O_an := ok_an (P := P) (w := w) (mg := mg) (base := base) F_an 
  have D_an := def_mk O_an (PySem.W.mg_of X G a_an) k_an bi_an
  have O_h := ok_h (P := P) (w := w) (mg := mg) (base := base) F_h CL_Plain NA_Plain_f
  have N_Plain := new_mk (x := "Plain") ⟨mk_Plain, a_h, i_h, kc_Plain⟩ O_h (PySem.W.mg_of X G aC_Plain) bi_h
  have O_aq := ok_aq (P := P) (w := w) (mg := mg) (base := base) F_aq T_ao
  have D_aq := def_mk O_aq (PySem.W.mg_of X G a_aq) k_aq bi_aq
  have O_f := ok_f (P := P) (w := w) (mg := mg) (base := base) F_f CL_Spread T_ab T_i (PySem.W.mg_of X G n_bx) NA_Spread_f NA_Spread_places NA_Spread_width NA_Spread_factor_places
  have N_Spread := new_mk (x := "Spread") ⟨mk_Spread, a_f, i_f, kc_Spread⟩ O_f (PySem.W.mg_of X G aC_Spread) bi_f
  have O_bo := ok_bo (P := P) (w := w) (mg := mg) (base := base) F_bo (PySem.W.mg_of X G n_bx)
  have D_bo := def_mk O_bo (PySem.W.mg_of X G a_bo) k_bo bi_bo
  have O_a := ok_a (P := P) (w := w) (mg := mg) (base := base) F_a (PySem.W.mg_none_of X G b_divmod)
  have D_a := def_mk O_a (PySem.W.mg_of X G a_a) k_a bi_a
  have O_bs := ok_bs (P := P) (w := w) (mg := mg) (base := base) F_bs T_av (PySem.W.mg_of X G n_bq)
  have D_bs := def_mk O_bs (PySem.W.mg_of X G a_bs) k_bs bi_bs
  have O_bg := ok_bg (P := P) (w := w) (mg := mg) (base := base) F_bg 
  have D_bg := def_mk O_bg (PySem.W.mg_of X G a_bg) k_bg bi_bg
  have O_aw := ok_aw (P := P) (w := w) (mg := mg) (base := base) F_aw (PySem.W.mg_none_of X G b_list) (PySem.W.mg_none_of X G b_zip)
  have D_aw := def_mk O_aw (PySem.W.mg_of X G a_aw) k_aw bi_aw
  have O_b := ok_b (P := P) (w := w) (mg := mg) (base := base) F_b 
  have D_b := def_mk O_b (PySem.W.mg_of X G a_b) k_b bi_b
  have O_ca := ok_ca (P := P) (w := w) (mg := mg) (base := base) F_ca T_cd D_bp
  have D_ca := def_mk O_ca (PySem.W.mg_of X G a_ca) k_ca bi_ca
  have O_z := ok_z (P := P) (w := w) (mg := mg) (base := base) F_z T_cd T_ao T_bc T_av D_bp
  have D_z := def_mk O_z (PySem.W.mg_of X G a_z) k_z bi_z
  have O_az := ok_az (P := P) (w := w) (mg := mg) (base := base) F_az T_av T_ao T_bc T_cd D_bp D_bt D_bj
  have D_az := def_mk O_az (PySem.W.mg_of X G a_az) k_az bi_az
  have O_bm := ok_bm (P := P) (w := w) (mg := mg) (base := base) F_bm T_av T_ao T_cd T_bc T_i D_bp D_bt D_bj D_an (PySem.W.mg_none_of X G b_divmod)
  have D_bm := def_mk O_bm (PySem.W.mg_of X G a_bm) k_bm bi_bm
  have O_as := ok_as (P := P) (w := w) (mg := mg) (base := base) F_as T_cd T_ao T_av T_bc D_bp D_bt D_bj
  have D_as := def_mk O_as (PySem.W.mg_of X G a_as) k_as bi_as
  have O_al := ok_al (P := P) (w := w) (mg := mg) (base := base) F_al T_av D_bj (PySem.W.mg_none_of X G b_abs)
  have D_al := def_mk O_al (PySem.W.mg_of X G a_al) k_al bi_al
  have O_bi := ok_bi (P := P) (w := w) (mg := mg) (base := base) F_bi T_ao D_bt
  have D_bi := def_mk O_bi (PySem.W.mg_of X G a_bi) k_bi bi_bi
  have O_ba := ok_ba (P := P) (w := w) (mg := mg) (base := base) F_ba D_bg
  have D_ba := def_mk O_ba (PySem.W.mg_of X G a_ba) k_ba bi_ba
  have O_cb := ok_cb (P := P) (w := w) (mg := mg) (base := base) F_cb T_ao T_bc T_av D_z D_bt D_bj (PySem.W.mg_none_of X G b_min)
  have D_cb := def_mk O_cb (PySem.W.mg_of X G a_cb) k_cb bi_cb
  have O_ax := ok_ax (P := P) (w := w) (mg := mg) (base := base) F_ax T_av D_ca
  have D_ax := def_mk O_ax (PySem.W.mg_of X G a_ax) k_ax bi_ax
  have O_bb := ok_bb (P := P) (w := w) (mg := mg) (base := base) F_bb D_as
  have D_bb := def_mk O_bb (PySem.W.mg_of X G a_bb) k_bb bi_bb
  have O_bu := ok_bu (P := P) (w := w) (mg := mg) (base := base) F_bu D_bm D_al D_az (PySem.W.mg_of X G n_bq) (PySem.W.mg_of X G n_bh)
  have D_bu := def_mk O_bu (PySem.W.mg_of X G a_bu) k_bu bi_bu
  have O_bd := ok_bd (P := P) (w := w) (mg := mg) (base := base) F_bd T_av D_cb
  have D_bd := def_mk O_bd (PySem.W.mg_of X G a_bd) k_bd bi_bd
  have O_ar := ok_ar (P := P) (w := w) (mg := mg) (base := base) F_ar D_bb
  have D_ar := def_mk O_ar (PySem.W.mg_of X G a_ar) k_ar bi_ar
  have O_bn := ok_bn (P := P) (w := w) (mg := mg) (base := base) F_bn D_cb D_az (PySem.W.mg_of X G n_bq)
  have D_bn := def_mk O_bn (PySem.W.mg_of X G a_bn) k_bn bi_bn
  have O_j := ok_j (P := P) (w := w) (mg := mg) (base := base) F_j D_ax
  have D_j := def_mk O_j (PySem.W.mg_of X G a_j) k_j bi_j
  have O_ak := ok_ak (P := P) (w := w) (mg := mg) (base := base) F_ak D_az D_bn D_cb (PySem.W.mg_of X G n_bq) (PySem.W.mg_of X G n_am) hSINE_TERMS
  have D_ak := def_mk O_ak (PySem.W.mg_of X G a_ak) k_ak bi_ak
  have O_p := ok_p (P := P) (w := w) (mg := mg) (base := base) F_p D_az D_bn D_bd (PySem.W.mg_of X G n_bq) (PySem.W.mg_of X G n_t) (PySem.W.mg_of X G n_bf) (PySem.W.mg_of X G n_ap) hCOSINE_TERMS
  have D_p := def_mk O_p (PySem.W.mg_of X G a_p) k_p bi_p
  have O_d := ok_d (P := P) (w := w) (mg := mg) (base := base) F_d D_bu D_ak D_p (PySem.W.mg_of X G n_s)
  have D_d := def_mk O_d (PySem.W.mg_of X G a_d) k_d bi_d
  have O_e := ok_e (P := P) (w := w) (mg := mg) (base := base) F_e D_a D_d D_bs (PySem.W.mg_of X G n_ay) hQUARTERS rfl hQUARTERSi
  have D_e := def_mk O_e (PySem.W.mg_of X G a_e) k_e bi_e
  have O_x := ok_x (P := P) (w := w) (mg := mg) (base := base) F_x CL_Plain
  have MH_x : MHeld P w K mg base 10 C_Plain "taken" (sp_x C_Plain) := ⟨_, _, _, CL_Plain, ⟨a_x, i_x, k_x⟩, O_x, bi_x⟩
  have O_ad := ok_ad (P := P) (w := w) (mg := mg) (base := base) F_ad CL_Plain D_ca NA_Plain_f
  have MH_ad : MHeld P w K mg base 10 C_Plain "given" (sp_ad C_Plain) := ⟨_, _, _, CL_Plain, ⟨a_ad, i_ad, k_ad⟩, O_ad, bi_ad⟩
  have O_w := ok_w (P := P) (w := w) (mg := mg) (base := base) F_w CL_Plain
  have MH_w : MHeld P w K mg base 10 C_Plain "factor" (sp_w C_Plain) := ⟨_, _, _, CL_Plain, ⟨a_w, i_w, k_w⟩, O_w, bi_w⟩
  have O_aj := ok_aj (P := P) (w := w) (mg := mg) (base := base) F_aj CL_Plain D_cb NA_Plain_f
  have MH_aj : MHeld P w K mg base 10 C_Plain "plus" (sp_aj C_Plain) := ⟨_, _, _, CL_Plain, ⟨a_aj, i_aj, k_aj⟩, O_aj, bi_aj⟩
  have O_ai := ok_ai (P := P) (w := w) (mg := mg) (base := base) F_ai CL_Plain D_bd NA_Plain_f
  have MH_ai : MHeld P w K mg base 10 C_Plain "less" (sp_ai C_Plain) := ⟨_, _, _, CL_Plain, ⟨a_ai, i_ai, k_ai⟩, O_ai, bi_ai⟩
  have O_aa := ok_aa (P := P) (w := w) (mg := mg) (base := base) F_aa CL_Plain D_az NA_Plain_f
  have MH_aa : MHeld P w K mg base 10 C_Plain "times" (sp_aa C_Plain) := ⟨_, _, _, CL_Plain, ⟨a_aa, i_aa, k_aa⟩, O_aa, bi_aa⟩
  have O_ac := ok_ac (P := P) (w := w) (mg := mg) (base := base) F_ac CL_Plain D_ax NA_Plain_f
  have MH_ac : MHeld P w K mg base 10 C_Plain "minus" (sp_ac C_Plain) := ⟨_, _, _, CL_Plain, ⟨a_ac, i_ac, k_ac⟩, O_ac, bi_ac⟩
  have O_v := ok_v (P := P) (w := w) (mg := mg) (base := base) F_v CL_Spread T_av D_bi NA_Spread_f NA_Spread_places
  have MH_v : MHeld P w K mg base 10 C_Spread "taken" (sp_v C_Spread) := ⟨_, _, _, CL_Spread, ⟨a_v, i_v, k_v⟩, O_v, bi_v⟩
  have O_u := ok_u (P := P) (w := w) (mg := mg) (base := base) F_u CL_Spread T_av D_bj NA_Spread_f NA_Spread_places (PySem.W.mg_none_of X G b_abs)
  have MH_u : MHeld P w K mg base 10 C_Spread "given" (sp_u C_Spread) := ⟨_, _, _, CL_Spread, ⟨a_u, i_u, k_u⟩, O_u, bi_u⟩
  have O_k := ok_k (P := P) (w := w) (mg := mg) (base := base) F_k CL_Spread D_bi NA_Spread_factor_places NA_Spread_f
  have MH_k : MHeld P w K mg base 10 C_Spread "factor" (sp_k C_Spread) := ⟨_, _, _, CL_Spread, ⟨a_k, i_k, k_k⟩, O_k, bi_k⟩
  have O_y := ok_y (P := P) (w := w) (mg := mg) (base := base) F_y CL_Spread D_bo NA_Spread_width
  have MH_y : MHeld P w K mg base 10 C_Spread "plus" (sp_y C_Spread) := ⟨_, _, _, CL_Spread, ⟨a_y, i_y, k_y⟩, O_y, bi_y⟩
  have O_af := ok_af (P := P) (w := w) (mg := mg) (base := base) F_af CL_Spread D_bo NA_Spread_width
  have MH_af : MHeld P w K mg base 10 C_Spread "less" (sp_af C_Spread) := ⟨_, _, _, CL_Spread, ⟨a_af, i_af, k_af⟩, O_af, bi_af⟩
  have O_r := ok_r (P := P) (w := w) (mg := mg) (base := base) F_r CL_Spread D_bo NA_Spread_factor_places NA_Spread_width
  have MH_r : MHeld P w K mg base 10 C_Spread "times" (sp_r C_Spread) := ⟨_, _, _, CL_Spread, ⟨a_r, i_r, k_r⟩, O_r, bi_r⟩
  have O_n := ok_n (P := P) (w := w) (mg := mg) (base := base) F_n CL_Spread
  have MH_n : MHeld P w K mg base 10 C_Spread "minus" (sp_n C_Spread) := ⟨_, _, _, CL_Spread, ⟨a_n, i_n, k_n⟩, O_n, bi_n⟩
  have O_g := ok_g (P := P) (w := w) (mg := mg) (base := base) F_g MH_x MH_ad MH_w MH_aj MH_ai MH_aa MH_ac MH_v MH_u MH_k MH_y MH_af MH_r MH_n T_by D_aq (PySem.W.mg_of X G n_bl) N_Spread N_Plain
  have D_g := def_mk O_g (PySem.W.mg_of X G a_g) k_g bi_g
  have O_o := ok_o (P := P) (w := w) (mg := mg) (base := base) F_o D_a D_e D_ar
  have D_o := def_mk O_o (PySem.W.mg_of X G a_o) k_o bi_o
  have O_ae := ok_ae (P := P) (w := w) (mg := mg) (base := base) F_ae 
  have D_ae := def_mk O_ae (PySem.W.mg_of X G a_ae) k_ae bi_ae
  have O_ag := ok_ag (P := P) (w := w) (mg := mg) (base := base) F_ag 
  have D_ag := def_mk O_ag (PySem.W.mg_of X G a_ag) k_ag bi_ag
  have O_c := ok_c (P := P) (w := w) (mg := mg) (base := base) F_c 
  have D_c := def_mk O_c (PySem.W.mg_of X G a_c) k_c bi_c
  have O_q := ok_q (P := P) (w := w) (mg := mg) (base := base) F_q D_ae D_ag D_c (PySem.W.mg_none_of X G b_enumerate)
  have D_q := def_mk O_q (PySem.W.mg_of X G a_q) k_q bi_q
  have O_l := ok_l (P := P) (w := w) (mg := mg) (base := base) F_l D_ae D_ag D_c (PySem.W.mg_none_of X G b_enumerate)
  have D_l := def_mk O_l (PySem.W.mg_of X G a_l) k_l bi_l
  have O_m := ok_m (P := P) (w := w) (mg := mg) (base := base) F_m D_ag D_ae (PySem.W.mg_none_of X G b_len) (PySem.W.mg_none_of X G b_range)
  have D_m := def_mk O_m (PySem.W.mg_of X G a_m) k_m bi_m
  have O_au := ok_au (P := P) (w := w) (mg := mg) (base := base) F_au D_q D_l D_m (PySem.W.mg_none_of X G b_len)
  have D_au := def_mk O_au (PySem.W.mg_of X G a_au) k_au bi_au
  have O_at := ok_at (P := P) (w := w) (mg := mg) (base := base) F_at D_g D_o D_ba D_au (PySem.W.mg_none_of X G b_len) (PySem.W.mg_none_of X G b_range) (PySem.W.mg_none_of X G b_reversed)
  have D_at := def_mk O_at (PySem.W.mg_of X G a_at) k_at bi_at
  have O_be := ok_be (P := P) (w := w) (mg := mg) (base := base) F_be D_j D_at
  have D_be := def_mk O_be (PySem.W.mg_of X G a_be) k_be bi_be
  have O_br := ok_br (P := P) (w := w) (mg := mg) (base := base) F_br D_at D_be
  have D_br := def_mk O_br (PySem.W.mg_of X G a_br) k_br bi_br
  exact ok_bv (P := P) (w := w) (mg := mg) (base := base) F_bv D_b D_br D_aw (PySem.W.mg_of X G n_bw) (PySem.W.mg_of X G n_bk) (PySem.W.mg_of X G n_bz)
end Wk
namespace PySem.W.Fast
theorem tw10802555931695513832:True:=⟨⟩
theorem tw16857141850295981660:True:=⟨⟩
theorem tw2514783133778275763:True:=⟨⟩
theorem tw15799411458055653481:True:=⟨⟩
theorem tw10384723438130961726:True:=⟨⟩
theorem tw2954850988579181240:True:=⟨⟩
theorem tw683797598663264468:True:=⟨⟩
theorem tw13899913703729848902:True:=⟨⟩
theorem tw16762447494853546523:True:=⟨⟩
theorem tw5492336712703940383:True:=⟨⟩
theorem tw9918327293359791247:True:=⟨⟩
theorem tw15509144741989176889:True:=⟨⟩
theorem tw2137246423011632333:True:=⟨⟩
theorem tw7091294073452735959:True:=⟨⟩
theorem tw3965363892238780317:True:=⟨⟩
theorem tw222088291867765067:True:=⟨⟩
theorem tw16518638120827560494:True:=⟨⟩
theorem tw16981317174452883436:True:=⟨⟩
theorem tw8500835309749552577:True:=⟨⟩
theorem tw1451301374393114466:True:=⟨⟩
theorem tw9962511819405378235:True:=⟨⟩
theorem tw7579533285089562769:True:=⟨⟩
theorem tw11127760600442826797:True:=⟨⟩
theorem tw1916300659578047656:True:=⟨⟩
theorem tw9537758041189703895:True:=⟨⟩
theorem tw8275511811467654798:True:=⟨⟩
theorem tw16758599806458677431:True:=⟨⟩
theorem tw477188095096597366:True:=⟨⟩
theorem tw12899823628568857101:True:=⟨⟩
theorem tw6705700362053610776:True:=⟨⟩
theorem tw10376294886652765214:True:=⟨⟩
theorem tw15836244325063443168:True:=⟨⟩
theorem tw11314554175627235508:True:=⟨⟩
theorem tw3711328671820782890:True:=⟨⟩
theorem tw18355574651125106846:True:=⟨⟩
theorem tw5472905223780198290:True:=⟨⟩
theorem tw7386930085211901399:True:=⟨⟩
theorem tw11383925029209695280:True:=⟨⟩
theorem tw13284913569398130921:True:=⟨⟩
theorem tw3241087867459406903:True:=⟨⟩
theorem tw12782271107471783390:True:=⟨⟩
theorem tw7620011793065071088:True:=⟨⟩
theorem tw17466192609008904359:True:=⟨⟩
theorem tw17537100718337167710:True:=⟨⟩
theorem tw3885172909283415172:True:=⟨⟩
theorem tw3709051358219483526:True:=⟨⟩
theorem tw4969624029293548562:True:=⟨⟩
theorem tw1843062056539630046:True:=⟨⟩
theorem tw10526967496258860684:True:=⟨⟩
theorem tw10272620045612457006:True:=⟨⟩
theorem tw14907170165607079309:True:=⟨⟩
theorem tw6063314267468530462:True:=⟨⟩
theorem tw16634976505800623094:True:=⟨⟩
theorem tw118352762229382352:True:=⟨⟩
theorem tw14137673319163156766:True:=⟨⟩
theorem tw17954513629835965833:True:=⟨⟩
theorem tw6964605338953327194:True:=⟨⟩
theorem tw1025413700541270710:True:=⟨⟩
theorem tw17641850320487740057:True:=⟨⟩
theorem tw15491739409504176005:True:=⟨⟩
theorem tw8130594339708020148:True:=⟨⟩
theorem tw2522656950018678081:True:=⟨⟩
theorem tw12962992111104739480:True:=⟨⟩
theorem tw13064603854721383605:True:=⟨⟩
theorem tw16551373702369394474:True:=⟨⟩
theorem tw134474131280536962:True:=⟨⟩
theorem tw7312489210394399012:True:=⟨⟩
theorem tw11608515107749509715:True:=⟨⟩
theorem tw3217055261953731708:True:=⟨⟩
theorem tw15595598690956327272:True:=⟨⟩
theorem tw16116160755774904796:True:=⟨⟩
theorem tw2833382234822016031:True:=⟨⟩
theorem tw13533609203480299708:True:=⟨⟩
theorem tw11259987703006035848:True:=⟨⟩
theorem tw14045628893323625024:True:=⟨⟩
theorem tw8999763179429304905:True:=⟨⟩
theorem tw4569399799527915986:True:=⟨⟩
theorem tw4351812522093500927:True:=⟨⟩
theorem tw11064511600591030678:True:=⟨⟩
theorem tw1066500115185271492:True:=⟨⟩
theorem tw4182218939669173136:True:=⟨⟩
theorem tw1736321311083950706:True:=⟨⟩
theorem tw16967485952876735628:True:=⟨⟩
theorem tw13890284577702117845:True:=⟨⟩
theorem tw16514987010909978784:True:=⟨⟩
theorem tw2840880689769636912:True:=⟨⟩
theorem tw10836469459616085922:True:=⟨⟩
theorem tw10144469202171411949:True:=⟨⟩
theorem tw5854150687258398450:True:=⟨⟩
theorem tw8220480182415193217:True:=⟨⟩
theorem tw6747117458807870656:True:=⟨⟩
theorem tw438900686573322372:True:=⟨⟩
theorem tw3240271854556400183:True:=⟨⟩
theorem tw3891628943876806563:True:=⟨⟩
theorem tw3901700334033195385:True:=⟨⟩
theorem tw8554343812626855326:True:=⟨⟩
theorem tw8610114333426332848:True:=⟨⟩
theorem tw8626122906827164339:True:=⟨⟩
theorem tw9567789807513979215:True:=⟨⟩
theorem tw12500883930785999359:True:=⟨⟩
theorem tw9153443981177020130:True:=⟨⟩
theorem tw7471924398362353643:True:=⟨⟩
theorem tw2356244182507012305:True:=⟨⟩
theorem tw7616253778395921959:True:=⟨⟩
theorem tw4476144242588108757:True:=⟨⟩
theorem tw11486317305561609136:True:=⟨⟩
theorem tw14601155819751118008:True:=⟨⟩
theorem tw17696911255928786659:True:=⟨⟩
theorem tw12453555772407845767:True:=⟨⟩
theorem tw3224253690962784100:True:=⟨⟩
theorem tw11594910102459581229:True:=⟨⟩
theorem tw6598252434928262496:True:=⟨⟩
theorem tw17341227765275001780:True:=⟨⟩
theorem tw17007399927800733310:True:=⟨⟩
theorem tw17125652169462839666:True:=⟨⟩
theorem tw4893718544119035839:True:=⟨⟩
theorem tw4855190153355387357:True:=⟨⟩
theorem tw5568621294288800465:True:=⟨⟩
theorem tw12627311162560322998:True:=⟨⟩
theorem tw15774357436791161667:True:=⟨⟩
theorem tw3857075125029614684:True:=⟨⟩
theorem tw1047379940697390462:True:=⟨⟩
theorem tw11883124371175141128:True:=⟨⟩
theorem tw2519413763467984452:True:=⟨⟩
theorem tw9739863385957791265:True:=⟨⟩
theorem tw18287705217815266179:True:=⟨⟩
theorem tw11999153002945376357:True:=⟨⟩
theorem tw155953279835307880:True:=⟨⟩
theorem tw7550708811785870768:True:=⟨⟩
theorem tw13401059052953756356:True:=⟨⟩
theorem tw17756350852351690190:True:=⟨⟩
theorem tw10296162766936614972:True:=⟨⟩
theorem tw13913826904902966201:True:=⟨⟩
theorem tw12276480086602016727:True:=⟨⟩
theorem tw9807977235358241580:True:=⟨⟩
theorem tw8471641130851555086:True:=⟨⟩
theorem tw2466722854775688192:True:=⟨⟩
theorem tw17067262676578814823:True:=⟨⟩
theorem tw8652659746821369784:True:=⟨⟩
theorem tw1705369095360383743:True:=⟨⟩
theorem tw14062805441817781440:True:=⟨⟩
theorem tw2009319156312781623:True:=⟨⟩
theorem tw10755238108833657646:True:=⟨⟩
end PySem.W.Fast
open PySem PySem.W PyProof.Rows
set_option maxRecDepth 100000 in
set_option maxHeartbeats 0 in
theorem PySem.Challenge.cw_bitsignals_s14_turn_holds : PySem.Challenge.rw_bitsignals_s14_turn.Holds := by
  w_on; k_headS; (case hw => exact ⟨[.int 0, .int 0, .list [.int 0, .int 0]], by decide +kernel, by decide +kernel⟩)
  k_fillS
  refine L2.walk_specK (r := PySem.Challenge.rw_bitsignals_s14_turn) (k := 17) (CX := L2.CX0) (ps := ["f", "way", "x"]) (sp := L2.sp_bv) (by decide +kernel) rfl rfl ⟨rfl, by decide, by decide⟩ (fun w h Y => PySem.W.kIn_of Y) ?F ?S (fun _ _ _ _ z => z)
  case F =>
    intro w mg fa h Y KX G hmg
    refine' Wk.all_mk KX G hmg ?n_av ?l_av ?n_ao ?l_ao ?n_bc ?l_bc ?n_cd ?l_cd ?n_i ?l_i ?n_ah ?l_ah ?n_ab ?l_ab ?n_by ?l_by ?aC_Plain ?pg_Plain ?hd_Plain ?po_Plain ?sa_Plain ?mk_Plain ?kc_Plain ?NA_Plain_f ?aC_Spread ?pg_Spread ?hd_Spread ?po_Spread ?sa_Spread ?mk_Spread ?kc_Spread ?NA_Spread_f ?NA_Spread_factor_places ?NA_Spread_places ?NA_Spread_width ?a_bp ?l_bp ?c_bp ?k_bp ?a_bt ?l_bt ?c_bt ?k_bt ?a_bj ?l_bj ?c_bj ?k_bj ?a_an ?l_an ?c_an ?k_an ?a_h ?i_h ?l_h ?c_h ?k_h ?a_aq ?l_aq ?c_aq ?k_aq ?a_f ?i_f ?l_f ?c_f ?k_f ?a_bo ?l_bo ?c_bo ?k_bo ?a_a ?l_a ?c_a ?k_a ?a_bs ?l_bs ?c_bs ?k_bs ?a_bg ?l_bg ?c_bg ?k_bg ?a_aw ?l_aw ?c_aw ?k_aw ?a_b ?l_b ?c_b ?k_b ?a_ca ?l_ca ?c_ca ?k_ca ?a_z ?l_z ?c_z ?k_z ?a_az ?l_az ?c_az ?k_az ?a_bm ?l_bm ?c_bm ?k_bm ?a_as ?l_as ?c_as ?k_as ?a_al ?l_al ?c_al ?k_al ?a_bi ?l_bi ?c_bi ?k_bi ?a_ba ?l_ba ?c_ba ?k_ba ?a_cb ?l_cb ?c_cb ?k_cb ?a_ax ?l_ax ?c_ax ?k_ax ?a_bb ?l_bb ?c_bb ?k_bb ?a_bu ?l_bu ?c_bu ?k_bu ?a_bd ?l_bd ?c_bd ?k_bd ?a_ar ?l_ar ?c_ar ?k_ar ?a_bn ?l_bn ?c_bn ?k_bn ?a_j ?l_j ?c_j ?k_j ?a_ak ?l_ak ?c_ak ?k_ak ?a_p ?l_p ?c_p ?k_p ?a_d ?l_d ?c_d ?k_d ?a_e ?l_e ?c_e ?k_e ?a_x ?i_x ?l_x ?c_x ?k_x ?a_ad ?i_ad ?l_ad ?c_ad ?k_ad ?a_w ?i_w ?l_w ?c_w ?k_w ?a_aj ?i_aj ?l_aj ?c_aj ?k_aj ?a_ai ?i_ai ?l_ai ?c_ai ?k_ai ?a_aa ?i_aa ?l_aa ?c_aa ?k_aa ?a_ac ?i_ac ?l_ac ?c_ac ?k_ac ?a_v ?i_v ?l_v ?c_v ?k_v ?a_u ?i_u ?l_u ?c_u ?k_u ?a_k ?i_k ?l_k ?c_k ?k_k ?a_y ?i_y ?l_y ?c_y ?k_y ?a_af ?i_af ?l_af ?c_af ?k_af ?a_r ?i_r ?l_r ?c_r ?k_r ?a_n ?i_n ?l_n ?c_n ?k_n ?a_g ?l_g ?c_g ?k_g ?a_o ?l_o ?c_o ?k_o ?a_ae ?l_ae ?c_ae ?k_ae ?a_ag ?l_ag ?c_ag ?k_ag ?a_c ?l_c ?c_c ?k_c ?a_q ?l_q ?c_q ?k_q ?a_l ?l_l ?c_l ?k_l ?a_m ?l_m ?c_m ?k_m ?a_au ?l_au ?c_au ?k_au ?a_at ?l_at ?c_at ?k_at ?a_be ?l_be ?c_be ?k_be ?a_br ?l_br ?c_br ?k_br ?a_bv ?l_bv ?c_bv ?k_bv ?n_bx ?n_bq ?n_bf ?n_ap ?n_bh ?n_s ?n_bl ?n_bw ?n_bz ?n_bk ?n_am ?l_am ?n_t ?l_t ?n_ay ?l_ay ?l_QUARTERS_0 ?l_QUARTERS_1 ?l_QUARTERS_2 ?l_QUARTERS_3 ?b_max ?b_min ?b_divmod ?b_abs ?b_len ?b_range ?b_reversed ?b_enumerate ?b_list ?b_zip
    (case n_av => k_is)
    (case l_av => k_is)
    (case n_ao => k_is)
    (case l_ao => k_is)
    (case n_bc => k_is)
    (case l_bc => k_is)
    (case n_cd => k_is)
    (case l_cd => k_is)
    (case n_i => k_is)
    (case l_i => k_is)
    (case n_ah => k_is)
    (case l_ah => k_is)
    (case n_ab => k_is)
    (case l_ab => k_is)
    (case n_by => k_is)
    (case l_by => k_is)
    (case aC_Plain => k_is)
    (case pg_Plain => k_is)
    (case hd_Plain => k_is)
    (case po_Plain => k_is)
    (case sa_Plain => k_is)
    (case mk_Plain => k_is)
    (case kc_Plain => k_is)
    (case NA_Plain_f => k_is)
    (case aC_Spread => k_is)
    (case pg_Spread => k_is)
    (case hd_Spread => k_is)
    (case po_Spread => k_is)
    (case sa_Spread => k_is)
    (case mk_Spread => k_is)
    (case kc_Spread => k_is)
    (case NA_Spread_f => k_is)
    (case NA_Spread_factor_places => k_is)
    (case NA_Spread_places => k_is)
    (case NA_Spread_width => k_is)
    (case a_bp => k_is)
    (case l_bp => k_is)
    (case c_bp => k_is)
    (case k_bp => k_is)
    (case a_bt => k_is)
    (case l_bt => k_is)
    (case c_bt => k_is)
    (case k_bt => k_is)
    (case a_bj => k_is)
    (case l_bj => k_is)
    (case c_bj => k_is)
    (case k_bj => k_is)
    (case a_an => k_is)
    (case l_an => k_is)
    (case c_an => k_is)
    (case k_an => k_is)
    (case a_h => k_is)
    (case i_h => k_is)
    (case l_h => k_is)
    (case c_h => k_is)
    (case k_h => k_is)
    (case a_aq => k_is)
    (case l_aq => k_is)
    (case c_aq => k_is)
    (case k_aq => k_is)
    (case a_f => k_is)
    (case i_f => k_is)
    (case l_f => k_is)
    (case c_f => k_is)
    (case k_f => k_is)
    (case a_bo => k_is)
    (case l_bo => k_is)
    (case c_bo => k_is)
    (case k_bo => k_is)
    (case a_a => k_is)
    (case l_a => k_is)
    (case c_a => k_is)
    (case k_a => k_is)
    (case a_bs => k_is)
    (case l_bs => k_is)
    (case c_bs => k_is)
    (case k_bs => k_is)
    (case a_bg => k_is)
    (case l_bg => k_is)
    (case c_bg => k_is)
    (case k_bg => k_is)
    (case a_aw => k_is)
    (case l_aw => k_is)
    (case c_aw => k_is)
    (case k_aw => k_is)
    (case a_b => k_is)
    (case l_b => k_is)
    (case c_b => k_is)
    (case k_b => k_is)
    (case a_ca => k_is)
    (case l_ca => k_is)
    (case c_ca => k_is)
    (case k_ca => k_is)
    (case a_z => k_is)
    (case l_z => k_is)
    (case c_z => k_is)
    (case k_z => k_is)
    (case a_az => k_is)
    (case l_az => k_is)
    (case c_az => k_is)
    (case k_az => k_is)
    (case a_bm => k_is)
    (case l_bm => k_is)
    (case c_bm => k_is)
    (case k_bm => k_is)
    (case a_as => k_is)
    (case l_as => k_is)
    (case c_as => k_is)
    (case k_as => k_is)
    (case a_al => k_is)
    (case l_al => k_is)
    (case c_al => k_is)
    (case k_al => k_is)
    (case a_bi => k_is)
    (case l_bi => k_is)
    (case c_bi => k_is)
    (case k_bi => k_is)
    (case a_ba => k_is)
    (case l_ba => k_is)
    (case c_ba => k_is)
    (case k_ba => k_is)
    (case a_cb => k_is)
    (case l_cb => k_is)
    (case c_cb => k_is)
    (case k_cb => k_is)
    (case a_ax => k_is)
    (case l_ax => k_is)
    (case c_ax => k_is)
    (case k_ax => k_is)
    (case a_bb => k_is)
    (case l_bb => k_is)
    (case c_bb => k_is)
    (case k_bb => k_is)
    (case a_bu => k_is)
    (case l_bu => k_is)
    (case c_bu => k_is)
    (case k_bu => k_is)
    (case a_bd => k_is)
    (case l_bd => k_is)
    (case c_bd => k_is)
    (case k_bd => k_is)
    (case a_ar => k_is)
    (case l_ar => k_is)
    (case c_ar => k_is)
    (case k_ar => k_is)
    (case a_bn => k_is)
    (case l_bn => k_is)
    (case c_bn => k_is)
    (case k_bn => k_is)
    (case a_j => k_is)
    (case l_j => k_is)
    (case c_j => k_is)
    (case k_j => k_is)
    (case a_ak => k_is)
    (case l_ak => k_is)
    (case c_ak => k_is)
    (case k_ak => k_is)
    (case a_p => k_is)
    (case l_p => k_is)
    (case c_p => k_is)
    (case k_p => k_is)
    (case a_d => k_is)
    (case l_d => k_is)
    (case c_d => k_is)
    (case k_d => k_is)
    (case a_e => k_is)
    (case l_e => k_is)
    (case c_e => k_is)
    (case k_e => k_is)
    (case a_x => k_is)
    (case i_x => k_is)
    (case l_x => k_is)
    (case c_x => k_is)
    (case k_x => k_is)
    (case a_ad => k_is)
    (case i_ad => k_is)
    (case l_ad => k_is)
    (case c_ad => k_is)
    (case k_ad => k_is)
    (case a_w => k_is)
    (case i_w => k_is)
    (case l_w => k_is)
    (case c_w => k_is)
    (case k_w => k_is)
    (case a_aj => k_is)
    (case i_aj => k_is)
    (case l_aj => k_is)
    (case c_aj => k_is)
    (case k_aj => k_is)
    (case a_ai => k_is)
    (case i_ai => k_is)
    (case l_ai => k_is)
    (case c_ai => k_is)
    (case k_ai => k_is)
    (case a_aa => k_is)
    (case i_aa => k_is)
    (case l_aa => k_is)
    (case c_aa => k_is)
    (case k_aa => k_is)
    (case a_ac => k_is)
    (case i_ac => k_is)
    (case l_ac => k_is)
    (case c_ac => k_is)
    (case k_ac => k_is)
    (case a_v => k_is)
    (case i_v => k_is)
    (case l_v => k_is)
    (case c_v => k_is)
    (case k_v => k_is)
    (case a_u => k_is)
    (case i_u => k_is)
    (case l_u => k_is)
    (case c_u => k_is)
    (case k_u => k_is)
    (case a_k => k_is)
    (case i_k => k_is)
    (case l_k => k_is)
    (case c_k => k_is)
    (case k_k => k_is)
    (case a_y => k_is)
    (case i_y => k_is)
    (case l_y => k_is)
    (case c_y => k_is)
    (case k_y => k_is)
    (case a_af => k_is)
    (case i_af => k_is)
    (case l_af => k_is)
    (case c_af => k_is)
    (case k_af => k_is)
    (case a_r => k_is)
    (case i_r => k_is)
    (case l_r => k_is)
    (case c_r => k_is)
    (case k_r => k_is)
    (case a_n => k_is)
    (case i_n => k_is)
    (case l_n => k_is)
    (case c_n => k_is)
    (case k_n => k_is)
    (case a_g => k_is)
    (case l_g => k_is)
    (case c_g => k_is)
    (case k_g => k_is)
    (case a_o => k_is)
    (case l_o => k_is)
    (case c_o => k_is)
    (case k_o => k_is)
    (case a_ae => k_is)
    (case l_ae => k_is)
    (case c_ae => k_is)
    (case k_ae => k_is)
    (case a_ag => k_is)
    (case l_ag => k_is)
    (case c_ag => k_is)
    (case k_ag => k_is)
    (case a_c => k_is)
    (case l_c => k_is)
    (case c_c => k_is)
    (case k_c => k_is)
    (case a_q => k_is)
    (case l_q => k_is)
    (case c_q => k_is)
    (case k_q => k_is)
    (case a_l => k_is)
    (case l_l => k_is)
    (case c_l => k_is)
    (case k_l => k_is)
    (case a_m => k_is)
    (case l_m => k_is)
    (case c_m => k_is)
    (case k_m => k_is)
    (case a_au => k_is)
    (case l_au => k_is)
    (case c_au => k_is)
    (case k_au => k_is)
    (case a_at => k_is)
    (case l_at => k_is)
    (case c_at => k_is)
    (case k_at => k_is)
    (case a_be => k_is)
    (case l_be => k_is)
    (case c_be => k_is)
    (case k_be => k_is)
    (case a_br => k_is)
    (case l_br => k_is)
    (case c_br => k_is)
    (case k_br => k_is)
    (case a_bv => k_is)
    (case l_bv => k_is)
    (case c_bv => k_is)
    (case k_bv => k_is)
    (case n_bx => k_is)
    (case n_bq => k_is)
    (case n_bf => k_is)
    (case n_ap => k_is)
    (case n_bh => k_is)
    (case n_s => k_is)
    (case n_bl => k_is)
    (case n_bw => k_is)
    (case n_bz => k_is)
    (case n_bk => k_is)
    (case n_am => k_is)
    (case l_am => k_is)
    (case n_t => k_is)
    (case l_t => k_is)
    (case n_ay => k_is)
    (case l_ay => k_is)
    (case l_QUARTERS_0 => k_is)
    (case l_QUARTERS_1 => k_is)
    (case l_QUARTERS_2 => k_is)
    (case l_QUARTERS_3 => k_is)
    (case b_max => k_is)
    (case b_min => k_is)
    (case b_divmod => k_is)
    (case b_abs => k_is)
    (case b_len => k_is)
    (case b_range => k_is)
    (case b_reversed => k_is)
    (case b_enumerate => k_is)
    (case b_list => k_is)
    (case b_zip => k_is)
  case S =>
    intro K H xs a hO hwi hask hx
    obtain ⟨f, op, la, u⟩ := a
    cases hx with | cons h1 r1 =>
    cases r1 with | cons h2 r2 =>
    cases r2 with | cons h3 r3 =>
    cases r3
    cases h1 with | int _ =>
    cases h2 with | int _ =>
    cases h3 with | lst hs3 ha3 =>
    have e3 := L2.ints_dw la _ ha3
    subst e3
    obtain ⟨q1, q2, q3, q4, q5, q6⟩ := Sig.turn_asked (show PySp18.turn_asked f op la = true from hask)
    have q : (Codec.inInt 0 1 f && (Codec.inInt 0 4294967295 op && ((Codec.inLen 2 16000 la && la.all (Codec.inInt 0 18446744073709551615)) && true))) = true := hwi
    simp only [Bool.and_eq_true] at q
    have l3 := (Codec.inNat_iff.mp q.2.2.1.1).2
    exact ⟨f, op, _, la, rfl, q1, q2, L2.pl_of hO, hs3, q4, q5, q6, q3, fun H2 p hp => .lst (L2.SqL.of hp) (L2.dw_ints _)⟩
#print axioms PySem.Challenge.cw_bitsignals_s14_turn_holds
