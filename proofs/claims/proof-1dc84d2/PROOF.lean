import PyProof.Rows.All
import Wide.All
import OpenK.AllK
import Wide.FinOn
import PyProof.EqAt
import PyProof.EqKinds
import PyProof.TupleCall
import KE.BitLaws
import Open.SpecLaws
import KE.OsHead
import KE.OsGo
import KE.KItemsList
import PyRc25
import PySem.Challenge.RW_landshapes_s01_answers
section
set_option Elab.async false
set_option linter.all false
set_option maxRecDepth 100000
namespace L2
open PySem PySem.Spec PyProof.Rows
abbrev Key := Sum Int Str
def keyIs : Key → Value → Bool
  | .inl k, v => Value.isInt k v
  | .inr x, v => Value.isStrOf x v
def keyH (w : World) : Key → Int
  | .inl k => hashInt k
  | .inr x => hashStr w x
theorem keyIs_shape : ∀ {k : Key} {v : Value}, keyIs k v = true → (∃ i t, k = Sum.inl i ∧ v = Value.int i t) ∨ (∃ x t, k = Sum.inr x ∧ v = Value.str x t)
  | .inl i, v, h => by
    obtain ⟨t, e⟩ := Value.isInt_shape (k := i) (v := v) h
    exact .inl ⟨i, t, rfl, e⟩
  | .inr x, v, h => by
    obtain ⟨t, e⟩ := Value.isStrOf_shape (x := x) (v := v) h
    exact .inr ⟨x, t, rfl, e⟩
theorem key_ll (a b : Int) : decide ((Sum.inl a : Key) = Sum.inl b) = (a == b) := by
  by_cases e : a = b
  · subst e; simp
  · have h : ¬ (Sum.inl a : Key) = Sum.inl b := fun q => e (Sum.inl.inj q)
    rw [decide_eq_false h]
    exact (beq_eq_false_iff_ne.mpr e).symm
theorem key_rr (a b : Str) : decide ((Sum.inr a : Key) = Sum.inr b) = decide (a = b) := by
  by_cases e : a = b
  · subst e; simp
  · have h : ¬ (Sum.inr a : Key) = Sum.inr b := fun q => e (Sum.inr.inj q)
    rw [decide_eq_false h, decide_eq_false e]
theorem key_lr (a : Int) (b : Str) : decide ((Sum.inl a : Key) = Sum.inr b) = false := decide_eq_false (fun q => nomatch q)
theorem key_rl (a : Str) (b : Int) : decide ((Sum.inr a : Key) = Sum.inl b) = false := decide_eq_false (fun q => nomatch q)
def mixKind (prog : Program) (w : World) : PySem.KeyKind prog w Key where
  is := keyIs
  hash := keyH w
  inj := fun v a b ha hb => by
    rcases keyIs_shape ha with ⟨i, t, rfl, rfl⟩ | ⟨x, t, rfl, rfl⟩
    · rcases keyIs_shape hb with ⟨j, u, rfl, e⟩ | ⟨y, u, rfl, e⟩
      · injection e with e1 _; rw [e1]
      · exact nomatch e
    · rcases keyIs_shape hb with ⟨j, u, rfl, e⟩ | ⟨y, u, rfl, e⟩
      · exact nomatch e
      · injection e with e1 _; rw [e1]
  byValue := fun k v h => by
    rcases keyIs_shape h with ⟨i, t, rfl, rfl⟩ | ⟨x, t, rfl, rfl⟩ <;> rfl
  pyHash := fun hv h => by
    rcases keyIs_shape hv with ⟨i, t, rfl, rfl⟩ | ⟨x, t, rfl, rfl⟩
    · exact wpAny_pyHash_int h
    · exact wpAny_pyHash_str h
  eqBool := fun hu hv h => by
    rcases keyIs_shape hu with ⟨i, t, rfl, rfl⟩ | ⟨x, t, rfl, rfl⟩
    · rcases keyIs_shape hv with ⟨j, u, rfl, rfl⟩ | ⟨y, u, rfl, rfl⟩
      · rw [key_ll] at h; exact wpAny_eqBool_int h
      · rw [key_lr] at h; exact SeqAt.EqAt.int_str i t y u _ _ _ _ h
    · rcases keyIs_shape hv with ⟨j, u, rfl, rfl⟩ | ⟨y, u, rfl, rfl⟩
      · rw [key_rl] at h; exact SeqAt.EqAt.str_int x t j u _ _ _ _ h
      · rw [key_rr] at h; exact wpAny_eqBool_str h
  «strs» := fun k x t v h => by
    rcases keyIs_shape h with ⟨i, u, rfl, e⟩ | ⟨y, u, rfl, e⟩
    · exact nomatch e
    · injection e with e1 _
      subst e1
      cases v <;> rfl
end L2
namespace L2
open PySem PySem.Spec PyProof.Rows
inductive V where
  | non | bl (b : Bool) | int (i : Int) | str (x : Str) | byt (b : Array UInt8) | flt (b : UInt64) | ref (a : Addr) | ty (n : String)
  deriving DecidableEq
def RelV : V → Value → Prop
  | .non, u => u = Value.none
  | .bl b, u => u = Value.bool b
  | .int i, u => ∃ t, u = Value.int i t
  | .str x, u => ∃ t, u = Value.str x t
  | .byt b, u => ∃ t, u = Value.bytes b t
  | .flt b, u => ∃ t, u = Value.float b t
  | .ref a, u => u = Value.ref a
  | .ty n, u => u = Value.type n
abbrev Vals : List V → List Value → Prop := Paired RelV
theorem Vals.length {xs : List V} {us : List Value} (r : Vals xs us) : xs.length = us.length := Paired.length r
theorem Vals.get : ∀ {xs : List V} {us : List Value} {i : Nat} {x : V}, Vals xs us → xs[i]? = some x → ∃ u, us[i]? = some u ∧ RelV x u
  | _, _, _, _, .nil, e => by simp at e
  | _, _, 0, _, .cons r _, e => by simp at e; subst e; exact ⟨_, rfl, r⟩
  | _, _, i + 1, x, .cons _ t, e => by
    obtain ⟨u, h1, h2⟩ := Vals.get (i := i) (x := x) t (by simpa using e)
    exact ⟨u, by simpa using h1, h2⟩
theorem Vals.append : ∀ {xs ys : List V} {us ws : List Value}, Vals xs us → Vals ys ws → Vals (xs ++ ys) (us ++ ws)
  | _, _, _, _, .nil, s => s
  | _, _, _, _, .cons r t, s => .cons r (Vals.append t s)
theorem Vals.take : ∀ {xs : List V} {us : List Value} (n : Nat), Vals xs us → Vals (xs.take n) (us.take n)
  | _, _, 0, _ => .nil
  | _, _, _ + 1, .nil => .nil
  | _, _, n + 1, .cons r t => .cons r (Vals.take n t)
theorem Vals.drop : ∀ {xs : List V} {us : List Value} (n : Nat), Vals xs us → Vals (xs.drop n) (us.drop n)
  | _, _, 0, r => r
  | _, _, _ + 1, .nil => .nil
  | _, _, n + 1, .cons _ t => Vals.drop n t
def RelO : Option V → Option Value → Prop
  | some v, some u => RelV v u
  | none, none => True
  | _, _ => False
def KV {κ : Type} : List (κ × V) → List (κ × Value) → Prop := Paired fun (p : κ × V) (q : κ × Value) => p.1 = q.1 ∧ RelV p.2 q.2
def kV : Key → V
  | .inl i => .int i
  | .inr x => .str x
inductive HO where
  /-- a list -/
  | lst (xs : List V)
  /-- a tuple (never changes) -/
  | tup (xs : List V)
  /-- a dict whose keys are ints and texts; one whose keys are tuples of ints and texts (the empty one is both) -/
  | dK (kvs : List (Key × V)) | dT (kvs : List (List Key × V))
  /-- a set of ints: its members, its size -/
  | set (S : Int → Bool) (n : Nat)
  /-- an instance of the class at C, its dict at dx, its attributes -/
  | ins (C dx : Addr) (fs : List (Str × V))
  /-- the dict of the instance at x -/
  | own (x : Addr)
  /-- the dict of an exception -/
  | xd (fs : List (Str × V))
  /-- a bound method, f of x -/
  | met (f x : Addr)
  /-- a range object lo, lo + 1, .. below hi -/
  | rng (lo hi : Int)
  /-- a thing that is known to the object (the script; a dict while a loop walks it): read, never written while it is so -/
  | frz (o : Obj) (u : HO)
  /-- a code object's table -/
  | tbl (ps : Array Value)
  /-- any other thing, by what is true of its one object (a def of one's own: SetO a S n := HO.ext fun h => ..) -/
  | ext (φ : Heap → Prop)
abbrev Hp := Addr → Option HO
def upd (H : Hp) (a : Addr) (o : HO) : Hp := fun b => if b = a then some o else H b
theorem upd_same {H : Hp} {a : Addr} {o : HO} : upd H a o a = some o := by unfold upd; rw [if_pos rfl]
theorem upd_ne {H : Hp} {a b : Addr} {o : HO} (h : b ≠ a) : upd H a o b = H b := by unfold upd; rw [if_neg h]
theorem ne_of {H : Hp} {a b : Addr} {o u : HO} (h : H a = some o) (h' : H b = some u) (d : o ≠ u) : a ≠ b := by
  intro e; subst e; rw [h] at h'; exact d (Option.some.inj h')
theorem ne_of_none {H : Hp} {a b : Addr} {o : HO} (h : H a = some o) (h' : H b = none) : a ≠ b := by
  intro e; subst e; rw [h] at h'; cases h'
section
variable (P : Program) (w : World)
def ObjOk (H : Hp) (h : Heap) (a : Addr) : HO → Prop
  | .lst xs => xs.length ≤ sizeLine ∧ ∃ (its : List Value) (n : Nat), Vals xs its ∧ h.get? a = some { cls := .type "list", data := .seq its.toArray n }
  | .tup xs => xs.length ≤ sizeLine ∧ ∃ its : List Value, Vals xs its ∧ IsTup h a its.toArray
  | .dK kvs => kvs.length ≤ sizeLine ∧ (a == sysModules) = false ∧ ∃ vs, KV kvs vs ∧ h.DictOf (mixKind P w) a vs
  | .dT kvs => kvs.length ≤ sizeLine ∧ (a == sysModules) = false ∧ ∃ xs : List (List Key × Addr × Value),
      Paired (fun (p : List Key × V) (q : List Key × Addr × Value) => p.1 = q.1 ∧ H q.2.1 = some (.tup (p.1.map kV)) ∧ RelV p.2 q.2.2) kvs xs ∧
      ∃ o es ep, h.get? a = some o ∧ o.ExactDict ∧ o.data = .dict es ep ∧ es.toList = xs.map (entryOfKey (tupleKind (mixKind P w))) ∧ (xs.map (·.1)).Nodup
  | .set S n => h.SetOf (intKind P w) a S n
  | .ins C dx fs => H dx = some (.own a) ∧ fs.length ≤ 1000 ∧ dx ≠ a ∧ h.get? a = some (PySem.W.instObj C dx) ∧
      ∃ mA, h.Ns1 dx mA ∧ (∀ f, RelO (fs.lookup f) (mA f)) ∧ PySem.Within mA (fs.map (·.1))
  | .own _ => ∃ o, h.get? a = some o
  | .xd fs => ∃ mA, h.Ns1 a mA ∧ ∀ f, RelO (fs.lookup f) (mA f)
  | .rng lo hi => ∃ t u v, h.get? a = some { cls := .type "range", data := .fields #[.int lo t, .int hi u, .int 1 v] }
  | .frz o u => h.get? a = some o ∧ ObjOk H h a u
  | .tbl ps => h.get? a = some { cls := .none, data := .fields ps }
  | .met f x => h.get? a = some (PySem.W.methodObj (.ref f) (.ref x))
  | .ext φ => φ h ∧ (∃ o, h.get? a = some o) ∧ ∀ h1 h2 : Heap, φ h1 → (∀ o, h1.get? a = some o → h2.get? a = some o) → φ h2
def HOk (H : Hp) (h : Heap) : Prop := ∀ a o, H a = some o → ObjOk P w H h a o
end
section
variable {P : Program} {w : World} {H H' : Hp} {h h' : Heap} {a : Addr} {o : HO}
theorem ObjOk.lt (x : ObjOk P w H h a o) : a < h.objs.size := by
  cases o with
  | lst xs => obtain ⟨_, _, _, _, e⟩ := x; exact Heap.lt_size e
  | tup xs => obtain ⟨_, _, _, p⟩ := x; exact p.lt
  | dK kvs => obtain ⟨_, _, _, _, o, _, _, e, _⟩ := x; exact Heap.lt_size e
  | dT kvs => obtain ⟨_, _, _, _, o, _, _, e, _⟩ := x; exact Heap.lt_size e
  | set S n => obtain ⟨o, _, _, _, e, _⟩ := x; exact Heap.lt_size e
  | ins C dx fs => obtain ⟨_, _, _, e, _⟩ := x; exact Heap.lt_size e
  | own y => obtain ⟨_, e⟩ := x; exact Heap.lt_size e
  | xd fs => obtain ⟨_, ⟨_, _, _, e, _⟩, _⟩ := x; exact Heap.lt_size e
  | rng lo hi => obtain ⟨_, _, _, e⟩ := x; exact Heap.lt_size e
  | frz ob u => obtain ⟨e, _⟩ := x; exact Heap.lt_size e
  | tbl ps => exact Heap.lt_size (show h.get? a = some _ from x)
  | met f y => exact Heap.lt_size (show h.get? a = some _ from x)
  | ext φ => obtain ⟨_, ⟨_, e⟩, _⟩ := x; exact Heap.lt_size e
theorem Paired.mapP {α β : Type} {F G : α → β → Prop} : ∀ {l₁ : List α} {l₂ : List β}, Paired F l₁ l₂ → (∀ a b, F a b → G a b) → Paired G l₁ l₂
  | _, _, .nil, _ => .nil
  | _, _, .cons r t, f => .cons (f _ _ r) (Paired.mapP t f)
theorem ObjOk.stay (x : ObjOk P w H h a o) (k : ∀ b u, (b = a ∨ H b = some (.own a)) → h.get? b = some u → h'.get? b = some u)
    (ho : ∀ b, H b = some (.own a) → H' b = some (.own a)) (ht : ∀ b xs, H b = some (.tup xs) → H' b = some (.tup xs)) : ObjOk P w H' h' a o := by
  induction o with
  | lst xs => obtain ⟨z, its, n, r, e⟩ := x; exact ⟨z, its, n, r, k _ _ (.inl rfl) e⟩
  | tup xs => obtain ⟨z, its, r, ob, e, c⟩ := x; exact ⟨z, its, r, ob, k _ _ (.inl rfl) e, c⟩
  | dK kvs => obtain ⟨z, y, vs, r, ob, es, ep, e, c⟩ := x; exact ⟨z, y, vs, r, ob, es, ep, k _ _ (.inl rfl) e, c⟩
  | dT kvs =>
    obtain ⟨z, y, xs, r, ob, es, ep, e, c⟩ := x
    exact ⟨z, y, xs, Paired.mapP r fun p q z => ⟨z.1, ht _ _ z.2.1, z.2.2⟩, ob, es, ep, k _ _ (.inl rfl) e, c⟩
  | set S n => obtain ⟨ob, es, ep, t, e, c⟩ := x; exact ⟨ob, es, ep, t, k _ _ (.inl rfl) e, c⟩
  | ins C dx fs =>
    obtain ⟨d, z, ne, e, mA, ⟨od, es, ep, e2, c⟩, r⟩ := x
    exact ⟨ho _ d, z, ne, k _ _ (.inl rfl) e, mA, ⟨od, es, ep, k _ _ (.inr d) e2, c⟩, r⟩
  | own y => obtain ⟨ob, e⟩ := x; exact ⟨ob, k _ _ (.inl rfl) e⟩
  | xd fs => obtain ⟨mA, ⟨od, es, ep, e, c⟩, r⟩ := x; exact ⟨mA, ⟨od, es, ep, k _ _ (.inl rfl) e, c⟩, r⟩
  | rng lo hi => obtain ⟨t, u, v, e⟩ := x; exact ⟨t, u, v, k _ _ (.inl rfl) e⟩
  | frz ob u ih => obtain ⟨e, q⟩ := x; exact ⟨k _ _ (.inl rfl) e, ih q⟩
  | tbl ps =>
    have e : h.get? a = some { cls := .none, data := .fields ps } := x
    show h'.get? a = some { cls := .none, data := .fields ps }
    exact k a _ (.inl rfl) e
  | met f y =>
    have e : h.get? a = some (PySem.W.methodObj (.ref f) (.ref y)) := x
    show h'.get? a = some (PySem.W.methodObj (.ref f) (.ref y))
    exact k a _ (.inl rfl) e
  | ext φ => obtain ⟨p, ⟨o, e⟩, st⟩ := x; exact ⟨st _ _ p fun o q => k _ _ (.inl rfl) q, ⟨o, k _ _ (.inl rfl) e⟩, st⟩
theorem HOk.lt (x : HOk P w H h) (e : H a = some o) : a < h.objs.size := (x a o e).lt
theorem HOk.fresh (x : HOk P w H h) (e : h.objs.size ≤ a) : H a = none := by
  cases q : H a with
  | none => rfl
  | some u => exact absurd (Nat.lt_of_lt_of_le (x.lt q) e) (Nat.lt_irrefl _)
theorem HOk.kept (x : HOk P w H h) (k : ∀ b u, h.get? b = some u → h'.get? b = some u) : HOk P w H h' := fun a o e =>
  (x a o e).stay (fun b u _ q => k b u q) (fun _ q => q) fun _ _ q => q
theorem HOk.laid (x : HOk P w H h) (k : ∀ b u, h.get? b = some u → h'.get? b = some u) (hp : h.objs.size ≤ a) (new : ObjOk P w (upd H a o) h' a o) : HOk P w (upd H a o) h' := fun b u e => by
  have hn := x.fresh hp
  by_cases hb : b = a
  · subst hb; rw [upd_same] at e; cases e; exact new
  · rw [upd_ne hb] at e
    exact (x b u e).stay (fun c v _ q => k c v q) (fun c q => by rw [upd_ne (ne_of_none q hn)]; exact q) fun c xs q => by rw [upd_ne (ne_of_none q hn)]; exact q
end
def Rd (H : Hp) (a : Addr) (u : HO) : Prop := H a = some u ∨ ∃ o, H a = some (.frz o u)
theorem Rd.ok {P : Program} {w : World} {H : Hp} {h : Heap} {a : Addr} {u : HO} (r : Rd H a u) (x : HOk P w H h) : ObjOk P w H h a u := by
  rcases r with r | ⟨o, r⟩
  · exact x a u r
  · obtain ⟨_, q⟩ := x a _ r
    exact q
def Mut : Option HO → Prop
  | some (.lst _) => True
  | some (.dK _) => True
  | some (.dT _) => True
  | some (.set _ _) => True
  | some (.ins _ _ _) => True
  | some (.ext _) => True
  | _ => False
section
variable {P : Program} {w : World} {H : Hp} {h h' : Heap} {x e : Addr} {o' : HO}
theorem HOk.write (ok : HOk P w H h) (mu : Mut (H x)) (he : e = x ∨ H e = some (.own x)) (k : ∀ b u, b ≠ e → h.get? b = some u → h'.get? b = some u) (heo : ∃ u, h'.get? e = some u)
    (new : ObjOk P w (upd H x o') h' x o') : HOk P w (upd H x o') h' := fun b u q => by
  have nown : ∀ c y, H c = some (.own y) → c ≠ x := fun c y r z => by subst z; rw [r] at mu; exact mu
  have ntup : ∀ c xs, H c = some (.tup xs) → c ≠ x := fun c xs r z => by subst z; rw [r] at mu; exact mu
  by_cases hb : b = x
  · subst hb; rw [upd_same] at q; cases q; exact new
  · rw [upd_ne hb] at q
    by_cases hbe : b = e
    · have q' : H b = some (.own x) := by
        rcases he with z | z
        · exact absurd (hbe.trans z) hb
        · rw [hbe]; exact z
      rw [q] at q'; cases q'
      obtain ⟨v, hv⟩ := heo
      exact ⟨v, by rw [hbe]; exact hv⟩
    · refine (ok b u q).stay (fun c v hc r => k c v ?_ r) (fun c r => by rw [upd_ne (nown c b r)]; exact r) fun c xs r => by rw [upd_ne (ntup c xs r)]; exact r
      rcases hc with rfl | hc
      · exact hbe
      · rintro rfl
        rcases he with z | z
        · exact nown c b hc z
        · rw [hc] at z; cases z; exact hb rfl
end
structure Un (fs ex : List Addr) (H H' : Hp) (h h' : Heap) : Prop where
  keep : ∀ b o, h.get? b = some o → H b = none → b ∉ fs → b ∉ ex → h'.get? b = some o
  slot : ∀ b o, h.get? b = some o → H b = none → b ∈ fs → b ∉ ex → ∃ sl, h'.get? b = some { o with slots := sl }
  free : ∀ b o, h.get? b = some o → H b = none → b ∉ ex → H' b = none
  there : ∀ b o, h.get? b = some o → b ∉ ex → ∃ o', h'.get? b = some o'
  tups : ∀ b xs, H b = some (.tup xs) → H' b = some (.tup xs)
  frzs : ∀ b o u, H b = some (.frz o u) → H' b = some (.frz o u)
  tbls : ∀ b ps, H b = some (.tbl ps) → ∃ more, H' b = some (.tbl (ps ++ more))
section
variable {fs fs' ex ex' : List Addr} {H H1 H2 : Hp} {h h1 h2 h' : Heap} {a x e : Addr} {o : HO}
theorem Un.any (u : Un fs ex H H1 h h1) {b : Addr} {ob : Obj} (q : h.get? b = some ob) (n : H b = none) (hx : b ∉ ex) : ∃ sl, h1.get? b = some { ob with slots := sl } := by
  by_cases hb : b ∈ fs
  · exact u.slot b ob q n hb hx
  · exact ⟨ob.slots, u.keep b ob q n hb hx⟩
theorem Un.kept (k : ∀ b u, h.get? b = some u → h'.get? b = some u) : Un fs ex H H h h' :=
  ⟨fun b ob q _ _ _ => k b ob q, fun b ob q _ _ _ => ⟨ob.slots, k b ob q⟩, fun _ _ _ n _ => n, fun b ob q _ => ⟨ob, k b ob q⟩, fun _ _ q => q, fun _ _ _ q => q, fun _ ps q => ⟨#[], by rw [q]; simp⟩⟩
theorem Un.refl : Un fs ex H H h h := Un.kept fun _ _ q => q
theorem Un.laid (k : ∀ b u, h.get? b = some u → h'.get? b = some u) (hp : h.objs.size ≤ a) (hn : H a = none) : Un fs ex H (upd H a o) h h' where
  keep := fun b u q _ _ _ => k b u q
  slot := fun b u q _ _ _ => ⟨u.slots, k b u q⟩
  free := fun b u q n _ => by rw [upd_ne (Nat.ne_of_lt (Nat.lt_of_lt_of_le (Heap.lt_size q) hp))]; exact n
  there := fun b u q _ => ⟨u, k b u q⟩
  tups := fun b xs q => by rw [upd_ne (ne_of_none q hn)]; exact q
  frzs := fun b u xs q => by rw [upd_ne (ne_of_none q hn)]; exact q
  tbls := fun b ps q => ⟨#[], by rw [upd_ne (ne_of_none q hn), q]; simp⟩
theorem Un.write (mu : Mut (H x)) (he : e = x ∨ H e = some (.own x)) (k : ∀ b u, b ≠ e → h.get? b = some u → h'.get? b = some u) (heo : ∃ u, h'.get? e = some u) : Un fs ex H (upd H x o) h h' := by
  have hx : ∀ b, H b = none → b ≠ x := fun b n z => by subst z; rw [n] at mu; exact mu
  have hb : ∀ b, H b = none → b ≠ e := fun b n z => by
    subst z
    rcases he with r | r
    · exact hx b n r
    · rw [n] at r; cases r
  have hm : ∀ b u, H b = some u → ¬ Mut (some u) → b ≠ x := fun b u q nm z => by subst z; rw [q] at mu; exact nm mu
  refine ⟨fun b u q n _ _ => k b u (hb b n) q, fun b u q n _ _ => ⟨u.slots, k b u (hb b n) q⟩, fun b u q n _ => by rw [upd_ne (hx b n)]; exact n, fun b u q _ => ?_,
    fun b xs q => by rw [upd_ne (hm b _ q fun z => z)]; exact q, fun b u xs q => by rw [upd_ne (hm b _ q fun z => z)]; exact q, fun b ps q => ⟨#[], by rw [upd_ne (hm b _ q fun z => z), q]; simp⟩⟩
  by_cases hbe : b = e
  · subst hbe; exact heo
  · exact ⟨u, k b u hbe q⟩
end
def trk (h : Heap) (H : Hp) : List Addr := (List.range h.objs.size).filter fun a => (H a).isSome
def hidT (h : Heap) (H : Hp) : Heap := PySem.W.hideAll h (trk h H)
theorem hidT_size (h : Heap) (H : Hp) : (hidT h H).objs.size = h.objs.size := PySem.W.hideAll_size _ _
theorem hidT_get {h : Heap} {H : Hp} {b : Addr} {o : Obj} (e : h.get? b = some o) (n : H b = none) : (hidT h H).get? b = some o :=
  PySem.W.hideAll_get _ e fun hm => by
    have q : (H b).isSome = true := (List.mem_filter.mp hm).2
    rw [n] at q; simp at q
theorem of_hidT {h : Heap} {H : Hp} {b : Addr} {o : Obj} (e : (hidT h H).get? b = some o) : h.get? b = some o ∧ H b = none := by
  have e' : h.get? b = some o := PySem.W.of_hideAll (trk h H) e
  refine ⟨e', ?_⟩
  cases q : H b with
  | none => rfl
  | some x =>
    have hm : b ∈ trk h H := List.mem_filter.mpr ⟨List.mem_range.mpr (Heap.lt_size e'), by simp [q]⟩
    have z : (hidT h H).get? b = none := PySem.W.hideAll_none (trk h H) hm
    rw [z] at e; cases e
end L2
namespace L2
open PySem PySem.Spec PyProof.Rows
structure Mod (K : PySem.W.Frag) (mg : Str → Option Value) (base : Heap) : Prop where
  kin : K.In base
  glob : base.Ns mainGlobals mg
  blt : ∃ mb, base.Ns builtinsNs mb ∧ ∀ x : Str, x ≠ "__name__" → mb x = bootBuiltins x
  nolimit : base.NoLimit
structure Cx where
  prog : Program
  w : World
  K : PySem.W.Frag
  mg : Str → Option Value
  base : Heap
  A : Around
  N : List Str
  s_0 : Shared
  H_0 : Hp
  env : Env
  outer : List Env
  stack : List Env
  ex : List Addr
  fn : Str → Bool
  calm : Bool
  pn : List (Addr × Obj)
  xe : Value → Shared → Prop
def frs (l : List Env) : List Addr := l.filterMap (·.frame)
abbrev Cx.fs (X : Cx) : List Addr := frs X.outer
def Vis (sc : Scope) (x : Str) : Prop := sc.names.lookup x = some .local ∨ sc.names.lookup x = some .cell ∨ sc.names.lookup x = some .free
def Loc (sc : Scope) (x : Str) : Prop := sc.names.lookup x = some .local ∨ sc.names.lookup x = some .cell
def Look (env : Env) (h : Heap) (m : Str → Option Value) (x : Str) (u : Value) : Prop :=
  (env.kindOf x = some .local ∧ m x = some u) ∨ ((env.kindOf x = some .cell ∨ env.kindOf x = some .free) ∧ ∃ c, env.cells.lookup x = some c ∧ h.IsCell c (some u))
structure Cx.Ok (X : Cx) : Prop where
  mod : Mod X.K X.mg X.base
  kind : X.env.scope.kind = .function
  glob : X.env.globals = mainGlobals
  blt : X.env.builtins = builtinsNs
  above : X.s_0.heap.objs.size ≤ X.env.locals
  inj : ∀ x y c, X.env.cells.lookup x = some c → X.env.cells.lookup y = some c → x = y
  has : ∀ x, (X.env.kindOf x = some .cell ∨ X.env.kindOf x = some .free) → ∃ c, X.env.cells.lookup x = some c
  cab : ∀ x c, X.fn x = true → X.env.cells.lookup x = some c → X.s_0.heap.objs.size ≤ c
  hd : X.calm = true → X.A.handled = none
  frames : X.A.frames = some X.stack
  stk : X.stack = X.outer ∨ (X.stack = X.env :: X.outer ∧ X.env.frame = some X.env.locals)
  exf : ∀ b ∈ X.ex, b ≠ X.env.locals ∧ ∀ x c, X.env.cells.lookup x = some c → c ≠ b
  bs : ∀ b o, X.base.get? b = some o → X.s_0.heap.get? b = some o ∧ X.H_0 b = none
  bsz : X.base.objs.size ≤ X.s_0.heap.objs.size
  noex : ∀ b o, X.base.get? b = some o → b ∉ X.ex
  exfs : ∀ b ∈ X.ex, b ∉ X.fs
  funs : X.s_0.heap.FunFrames X.base X.outer
  frf : ∀ b ∈ X.fs, X.H_0 b = none
structure Inv (X : Cx) (pins : List (Addr × Obj)) (σ : List (Option V)) (H : Hp) (s : Shared) : Prop where
  ok : X.Ok
  os : s.os = X.s_0.os
  bare : AllBare s.gens
  base : Un X.fs X.ex X.H_0 H X.s_0.heap s.heap
  loc : ∃ m, s.heap.Ns X.env.locals m ∧ ∀ (i : Nat) (x : Str) (v : V), X.N[i]? = some x → σ[i]? = some (some v) → Vis X.env.scope x → ∃ u, RelV v u ∧ Look X.env s.heap m x u
  cell : ∀ x c, X.env.cells.lookup x = some c → ∃ v, s.heap.IsCell c v
  free : H X.env.locals = none
  freeC : ∀ x c, X.env.cells.lookup x = some c → H c = none
  pin : ∀ p ∈ X.pn ++ pins, s.heap.get? p.1 = some p.2 ∧ H p.1 = none ∧ p.1 ≠ X.env.locals ∧ p.1 ∉ X.fs ∧ ∀ v, p.2.data ≠ .cell v
  hok : HOk X.prog X.w H s.heap
  len : σ.length = X.N.length
section
variable {X : Cx} {pins : List (Addr × Obj)} {σ : List (Option V)} {H H' : Hp} {s : Shared} {h' : Heap}
theorem Cx.Ok.nofr (ok : X.Ok) {b : Addr} {o : Obj} (e : X.base.get? b = some o) : b ∉ X.fs := fun hb => by
  have := (ok.funs.mem hb).1
  rw [e] at this; cases this
theorem Inv.bs (I : Inv X pins σ H s) : ∀ b o, X.base.get? b = some o → s.heap.get? b = some o ∧ H b = none := fun b o e =>
  ⟨I.base.keep b o (I.ok.bs b o e).1 (I.ok.bs b o e).2 (I.ok.nofr e) (I.ok.noex b o e), I.base.free b o (I.ok.bs b o e).1 (I.ok.bs b o e).2 (I.ok.noex b o e)⟩
theorem Inv.bk (I : Inv X pins σ H s) : ∀ b o, X.base.get? b = some o → s.heap.get? b = some o := fun b o e => (I.bs b o e).1
theorem Inv.mod (I : Inv X pins σ H s) : Mod X.K X.mg X.base := I.ok.mod
theorem Inv.kIn (I : Inv X pins σ H s) : X.K.In s.heap := I.ok.mod.kin.keeps I.bk
theorem Inv.lt (I : Inv X pins σ H s) : X.env.locals < s.heap.objs.size := let ⟨_, hn, _⟩ := I.loc; hn.lt
theorem Inv.sz (I : Inv X pins σ H s) : X.s_0.heap.objs.size ≤ s.heap.objs.size := Nat.le_trans I.ok.above (Nat.le_of_lt I.lt)
theorem Inv.nofs (I : Inv X pins σ H s) {a : Addr} (h : s.heap.objs.size ≤ a) : a ∉ X.fs := fun hb => by
  obtain ⟨_, o, ho, _⟩ := I.ok.funs.mem hb
  exact absurd (Nat.lt_of_lt_of_le (Heap.lt_size ho) (Nat.le_trans I.sz h)) (Nat.lt_irrefl _)
theorem Inv.cne (I : Inv X pins σ H s) : ∀ x c, X.env.cells.lookup x = some c → c ≠ X.env.locals := fun x c e z => by
  obtain ⟨v, o, ho, hd⟩ := I.cell x c e
  obtain ⟨m, ⟨o', es, ep, ho', hd', _⟩, _⟩ := I.loc
  rw [z, ho'] at ho; cases ho; rw [hd'] at hd; cases hd
theorem Inv.funs (I : Inv X pins σ H s) : s.heap.FunFrames X.base X.outer := by
  have all : ∀ (l : List Env), (∀ b ∈ frs l, b ∈ X.fs) → X.s_0.heap.FunFrames X.base l → s.heap.FunFrames X.base l := by
    intro l
    induction l with
    | nil => intro _ _; trivial
    | cons env r ih =>
      intro hs hl
      obtain ⟨hk, ⟨L, o, hf, hn, ho, hd⟩, hr⟩ := hl
      have hL : L ∈ X.fs := hs L (by unfold frs; rw [List.filterMap_cons, hf]; exact List.mem_cons_self)
      obtain ⟨sl, e⟩ := I.base.slot L o ho (I.ok.frf L hL) hL fun z => I.ok.exfs L z hL
      exact ⟨hk, ⟨L, _, hf, hn, e, hd⟩, ih (fun b hb => hs b (by unfold frs; rw [List.filterMap_cons, hf]; exact List.mem_cons_of_mem _ hb)) hr⟩
  exact all X.outer (fun _ hb => hb) I.ok.funs
theorem Inv.stack (I : Inv X pins σ H s) : s.heap.FunFrames X.base X.stack := by
  rcases I.ok.stk with e | ⟨e, hf⟩
  · rw [e]; exact I.funs
  · rw [e]
    obtain ⟨m, hn, _⟩ := I.loc
    refine .cons (by rw [I.ok.kind]; decide) hf hn ?_ I.funs
    exact Heap.get?_none_of_le (Nat.le_trans I.ok.bsz I.ok.above)
theorem Inv.stkSub (I : Inv X pins σ H s) : ∀ b ∈ frs X.stack, b ∈ X.env.locals :: X.fs := fun b hb => by
  rcases I.ok.stk with e | ⟨e, hf⟩
  · rw [e] at hb; exact List.mem_cons_of_mem _ hb
  · rw [e] at hb
    unfold frs at hb
    rw [List.filterMap_cons, hf] at hb
    exact hb
theorem Inv.stkFree (I : Inv X pins σ H s) : ∀ b ∈ frs X.stack, H b = none := fun b hb => by
  rcases List.mem_cons.mp (I.stkSub b hb) with e | hb
  · rw [e]; exact I.free
  · obtain ⟨_, o, ho, _⟩ := I.ok.funs.mem hb
    exact I.base.free b o ho (I.ok.frf b hb) fun z => I.ok.exfs b z hb
theorem Inv.step {g' : Array GenState} {t' : Nat} {d' : Drawn} {ch : List Addr} (I : Inv X pins σ H s)
    (hch : ∀ b ∈ ch, (b ∈ X.ex ∨ X.s_0.heap.objs.size ≤ b) ∧ b ≠ X.env.locals ∧ (∀ x c, X.env.cells.lookup x = some c → c ≠ b) ∧ ∀ p ∈ X.pn ++ pins, p.1 ≠ b)
    (keep : ∀ b o, b ≠ X.env.locals → b ∉ X.fs → b ∉ ch → s.heap.get? b = some o → H b = none → h'.get? b = some o)
    (slot : ∀ b o, b ≠ X.env.locals → b ∈ X.fs → b ∉ ch → s.heap.get? b = some o → H b = none → ∃ sl, h'.get? b = some { o with slots := sl }) (free : ∀ b o, b ∉ ch → s.heap.get? b = some o → H b = none → H' b = none)
    (there : ∀ b o, b ∉ ch → s.heap.get? b = some o → ∃ o', h'.get? b = some o')
    (tups : ∀ b xs, H b = some (.tup xs) → H' b = some (.tup xs)) (frzs : ∀ b o u, H b = some (.frz o u) → H' b = some (.frz o u)) (tbls : ∀ b ps, H b = some (.tbl ps) → ∃ more, H' b = some (.tbl (ps ++ more)))
    (ns : ∀ m, s.heap.Ns X.env.locals m → h'.Ns X.env.locals m) (hok : HOk X.prog X.w H' h') (hg : AllBare g') :
    Inv X pins σ H' { s with heap := h', gens := g', drawn := d', toks := t' } := by
  have neL : ∀ b o, X.s_0.heap.get? b = some o → b ≠ X.env.locals := fun b o e => Nat.ne_of_lt (Nat.lt_of_lt_of_le (Heap.lt_size e) I.ok.above)
  have neC : ∀ b o, X.s_0.heap.get? b = some o → b ∉ X.ex → b ∉ ch := fun b o e hx hb => by
    rcases (hch b hb).1 with z | z
    · exact hx z
    · exact absurd (Nat.lt_of_lt_of_le (Heap.lt_size e) z) (Nat.lt_irrefl _)
  have cellK : ∀ x c, X.env.cells.lookup x = some c → ∀ v, s.heap.IsCell c v → h'.IsCell c v := fun x c e v ⟨o, ho, hd⟩ => by
    have nch : c ∉ ch := fun z => (hch c z).2.2.1 x c e rfl
    by_cases hc : c ∈ X.fs
    · obtain ⟨sl, q⟩ := slot c o (I.cne x c e) hc nch ho (I.freeC x c e)
      exact ⟨_, q, hd⟩
    · exact ⟨o, keep c o (I.cne x c e) hc nch ho (I.freeC x c e), hd⟩
  refine ⟨I.ok, I.os, hg, ⟨fun b o e n hb hx => ?_, fun b o e n hb hx => ?_, fun b o e n hx => ?_, fun b o e hx => ?_, fun b xs e => tups b xs (I.base.tups b xs e), fun b o xs e => frzs b o xs (I.base.frzs b o xs e), fun b ps e => ?_⟩, ?_, fun x c e => ?_, ?_, fun x c e => ?_, fun p hp => ?_, hok, I.len⟩
  · exact keep b o (neL b o e) hb (neC b o e hx) (I.base.keep b o e n hb hx) (I.base.free b o e n hx)
  · obtain ⟨sl, e1⟩ := I.base.slot b o e n hb hx
    obtain ⟨sl', e2⟩ := slot b _ (neL b o e) hb (neC b o e hx) e1 (I.base.free b o e n hx)
    exact ⟨sl', e2⟩
  · obtain ⟨o', e1⟩ := I.base.there b o e hx
    exact free b o' (neC b o e hx) e1 (I.base.free b o e n hx)
  · obtain ⟨o', e1⟩ := I.base.there b o e hx
    exact there b o' (neC b o e hx) e1
  · obtain ⟨m1, e1⟩ := I.base.tbls b ps e
    obtain ⟨m2, e2⟩ := tbls b _ e1
    exact ⟨m1 ++ m2, by rw [e2, Array.append_assoc]⟩
  · obtain ⟨m, hn, hl⟩ := I.loc
    refine ⟨m, ns m hn, fun i x v e1 e2 e3 => ?_⟩
    obtain ⟨u, r, l⟩ := hl i x v e1 e2 e3
    refine ⟨u, r, ?_⟩
    rcases l with l | ⟨k, c, e, z⟩
    · exact .inl l
    · exact .inr ⟨k, c, e, cellK x c e _ z⟩
  · obtain ⟨v, z⟩ := I.cell x c e
    exact ⟨v, cellK x c e v z⟩
  · obtain ⟨m, ⟨o, _, _, ho, _⟩, _⟩ := I.loc
    exact free _ o (fun z => (hch _ z).2.1 rfl) ho I.free
  · obtain ⟨v, o, ho, hd⟩ := I.cell x c e
    exact free c o (fun z => (hch c z).2.2.1 x c e rfl) ho (I.freeC x c e)
  · obtain ⟨e, n, ne, nf, d⟩ := I.pin p hp
    have nch : p.1 ∉ ch := fun z => (hch p.1 z).2.2.2 p hp rfl
    exact ⟨keep p.1 p.2 ne nf nch e n, free p.1 p.2 nch e n, ne, nf, d⟩
theorem Inv.un {t' : Nat} (I : Inv X pins σ H s) (u : Un X.fs [] H H' s.heap h') (hok : HOk X.prog X.w H' h') : Inv X pins σ H' { s with heap := h', toks := t' } := by
  obtain ⟨m, ⟨o, es, ep, ho, r⟩, _⟩ := id I.loc
  obtain ⟨sl, hL⟩ := u.any ho I.free (by simp)
  exact I.step (g' := s.gens) (d' := s.drawn) (ch := []) (fun _ z => nomatch z) (fun b o _ hb _ e n => u.keep b o e n hb (by simp)) (fun b o _ hb _ e n => u.slot b o e n hb (by simp)) (fun b o _ e n => u.free b o e n (by simp)) (fun b o _ e => u.there b o e (by simp)) u.tups u.frzs u.tbls (fun m' hm => by
    obtain ⟨o', es', ep', ho', r'⟩ := hm
    rw [ho] at ho'; cases ho'
    exact ⟨_, es', ep', hL, r'⟩) hok I.bare
theorem Inv.call {g' : Array GenState} {t' : Nat} {d' : Drawn} {ch : List Addr} (I : Inv X pins σ H s) (u : Un (frs X.stack) ch H H' s.heap h') (hok : HOk X.prog X.w H' h') (hg : AllBare g')
    (hch : ∀ b ∈ ch, (b ∈ X.ex ∨ X.s_0.heap.objs.size ≤ b) ∧ b ≠ X.env.locals ∧ (∀ x c, X.env.cells.lookup x = some c → c ≠ b) ∧ ∀ p ∈ X.pn ++ pins, p.1 ≠ b) :
    Inv X pins σ H' { s with heap := h', gens := g', drawn := d', toks := t' } := by
  obtain ⟨m, ⟨o, es, ep, ho, r⟩, _⟩ := id I.loc
  obtain ⟨sl, hL⟩ := u.any ho I.free fun z => (hch _ z).2.1 rfl
  exact I.step (ch := ch) hch (fun b o hL hb hc e n => u.keep b o e n (fun z => (List.mem_cons.mp (I.stkSub b z)).elim hL hb) hc) (fun b o _ _ hc e n => u.any e n hc) (fun b o hc e n => u.free b o e n hc) (fun b o hc e => u.there b o e hc) u.tups u.frzs u.tbls (fun m' hm => by
    obtain ⟨o', es', ep', ho', r'⟩ := hm
    rw [ho] at ho'; cases ho'
    exact ⟨_, es', ep', hL, r'⟩) hok hg
theorem Inv.turned {t' : Nat} {it : Addr} (I : Inv X pins σ H s) (k : ∀ b o, b ≠ it → s.heap.get? b = some o → h'.get? b = some o) (hn : H it = none) (hL : it ≠ X.env.locals)
    (h1 : it ∈ X.ex ∨ X.s_0.heap.objs.size ≤ it) (h2 : ∀ x c, X.env.cells.lookup x = some c → c ≠ it) (h3 : ∀ p ∈ X.pn ++ pins, p.1 ≠ it) : Inv X pins σ H { s with heap := h', toks := t' } := by
  have nit : ∀ b u, H b = some u → b ≠ it := fun b u e z => by rw [z, hn] at e; cases e
  refine I.step (g' := s.gens) (d' := s.drawn) (ch := [it]) (fun b hb => ?_) (fun b o _ _ hc e _ => k b o (fun z => hc (by simp [z])) e) (fun b o _ _ hc e _ => ⟨o.slots, k b o (fun z => hc (by simp [z])) e⟩) (fun _ _ _ _ n => n)
    (fun b o hc e => ⟨o, k b o (fun z => hc (by simp [z])) e⟩) (fun _ _ e => e) (fun _ _ _ e => e) (fun b ps e => ⟨#[], by rw [e]; simp⟩) (fun m hm => ?_) (fun b u e => ?_) I.bare
  · have e : b = it := by simpa using hb
    subst e
    exact ⟨h1, hL, h2, h3⟩
  · obtain ⟨o, es, ep, ho, r⟩ := hm
    exact ⟨o, es, ep, k _ o (Ne.symm hL) ho, r⟩
  · refine (I.hok b u e).stay (fun c v hc q => k c v ?_ q) (fun _ q => q) fun _ _ q => q
    rcases hc with z | z
    · rw [z]; exact nit b u e
    · exact nit c _ z
theorem Inv.tok (I : Inv X pins σ H s) (t : Nat) : Inv X pins σ H { s with toks := t } := I.un (h' := s.heap) (t' := t) Un.refl I.hok
theorem Inv.kept {t' : Nat} (I : Inv X pins σ H s) (k : ∀ b u, s.heap.get? b = some u → h'.get? b = some u) : Inv X pins σ H { s with heap := h', toks := t' } := I.un (Un.kept k) (I.hok.kept k)
theorem Inv.laid {a : Addr} {o : HO} {t' : Nat} (I : Inv X pins σ H s) (k : ∀ b u, s.heap.get? b = some u → h'.get? b = some u) (hp : s.heap.objs.size ≤ a) (new : ObjOk X.prog X.w (upd H a o) h' a o) :
    Inv X pins σ (upd H a o) { s with heap := h', toks := t' } := I.un (Un.laid k hp (I.hok.fresh hp)) (I.hok.laid k hp new)
theorem Inv.write {x e : Addr} {o : HO} {t' : Nat} (I : Inv X pins σ H s) (mu : Mut (H x)) (he : e = x ∨ H e = some (.own x)) (k : ∀ b u, b ≠ e → s.heap.get? b = some u → h'.get? b = some u) (heo : ∃ u, h'.get? e = some u)
    (new : ObjOk X.prog X.w (upd H x o) h' x o) : Inv X pins σ (upd H x o) { s with heap := h', toks := t' } := I.un (Un.write mu he k heo) (I.hok.write mu he k heo new)
theorem Inv.weak {σ' : List (Option V)} (I : Inv X pins σ H s) (hl : σ'.length = σ.length) (w : ∀ (i : Nat) v, σ'[i]? = some (some v) → σ[i]? = some (some v)) : Inv X pins σ' H s :=
  ⟨I.ok, I.os, I.bare, I.base, let ⟨m, hn, hl'⟩ := I.loc; ⟨m, hn, fun i x v e1 e2 e3 => hl' i x v e1 (w i v e2) e3⟩, I.cell, I.free, I.freeC, I.pin, I.hok, hl.trans I.len⟩
theorem Inv.pins_of {pins' : List (Addr × Obj)} (I : Inv X pins σ H s) (h : ∀ p ∈ pins', s.heap.get? p.1 = some p.2 ∧ H p.1 = none ∧ p.1 ≠ X.env.locals ∧ p.1 ∉ X.fs ∧ ∀ v, p.2.data ≠ .cell v) : Inv X pins' σ H s :=
  ⟨I.ok, I.os, I.bare, I.base, I.loc, I.cell, I.free, I.freeC, fun p hp => (List.mem_append.mp hp).elim (fun z => I.pin p (List.mem_append_left _ z)) (h p), I.hok, I.len⟩
theorem nodup_ix {N : List Str} (hN : N.Nodup) {i j : Nat} {x : Str} (a : N[i]? = some x) (b : N[j]? = some x) : i = j := by
  obtain ⟨h1, e1⟩ := List.getElem?_eq_some_iff.mp a
  obtain ⟨h2, e2⟩ := List.getElem?_eq_some_iff.mp b
  exact (List.getElem_inj hN).mp (e1.trans e2.symm)
theorem store_ok2 {M : Model} {A : Around} {E : Value → Shared → Prop} {i : Nat} {x : Str} {v : V} {u : Value} {Q : Unit → Shared → Prop} (I : Inv X pins σ H s) (hN : X.N.Nodup) (hi : X.N[i]? = some x) (hx : Loc X.env.scope x) (r : RelV v u)
    (h : ∀ s', Inv X pins (σ.set i (some v)) H s' → (∃ a, Heap.SameBut a s.heap s'.heap ∧ (a = X.env.locals ∨ X.env.cells.lookup x = some a)) → Q () s') (hf : X.fn x = true ∨ X.env.scope.names.lookup x = some .local := by first | exact .inl rfl | exact .inr rfl | assumption) : wpAny M A (storeName X.env x u) Q E s := by
  obtain ⟨m, hn, hl⟩ := id I.loc
  have hcls : (X.env.scope.kind == .class || (X.env.scope.kind == .module && X.env.locals != X.env.globals)) = false := by rw [I.ok.kind]; rfl
  have hiσ : i < σ.length := by rw [I.len]; exact (List.getElem?_eq_some_iff.mp hi).1
  have cne := I.cne
  have tracked : ∀ {a : Addr} {h' : Heap}, (∃ o, s.heap.get? a = some o ∧ H a = none) → Heap.SameBut a s.heap h' → HOk X.prog X.w H h' := fun {a h'} ha hs b ob e => by
    obtain ⟨_, _, hfree⟩ := ha
    refine (I.hok b ob e).stay (fun c w' hc q => (hs.2 c ?_).trans q) (fun _ q => q) fun _ _ q => q
    rintro rfl
    rcases hc with rfl | hc
    · rw [hfree] at e; cases e
    · rw [hfree] at hc; cases hc
  rcases hx with hk | hk
  · refine wpAny_storeName_local hk hn (fun h' hn' hs => ?_) hcls
    obtain ⟨oL, _, _, hoL, _⟩ := id hn
    refine h _ ⟨I.ok, I.os, I.bare, ⟨fun b o e n hb hx => ?_, fun b o e n hb hx => ?_, I.base.free, fun b o e hx => ?_, I.base.tups, I.base.frzs, I.base.tbls⟩, ⟨_, hn', fun j y v' e1 e2 e3 => ?_⟩, fun y c e => ?_, I.free, I.freeC, fun p hp => ?_, tracked ⟨oL, hoL, I.free⟩ hs, by simpa using I.len⟩ ⟨_, hs, .inl rfl⟩
    · exact (hs.2 b (Nat.ne_of_lt (Nat.lt_of_lt_of_le (Heap.lt_size e) I.ok.above))).trans (I.base.keep b o e n hb hx)
    · obtain ⟨sl, e1⟩ := I.base.slot b o e n hb hx
      exact ⟨sl, (hs.2 b (Nat.ne_of_lt (Nat.lt_of_lt_of_le (Heap.lt_size e) I.ok.above))).trans e1⟩
    · obtain ⟨o', e1⟩ := I.base.there b o e hx
      exact ⟨o', (hs.2 b (Nat.ne_of_lt (Nat.lt_of_lt_of_le (Heap.lt_size e) I.ok.above))).trans e1⟩
    · by_cases hj : j = i
      · subst hj
        rw [hi] at e1; cases e1
        rw [List.getElem?_set_self hiσ] at e2
        cases e2
        exact ⟨u, r, .inl ⟨hk, by simp⟩⟩
      · rw [List.getElem?_set_ne (Ne.symm hj)] at e2
        obtain ⟨u', r', q⟩ := hl j y v' e1 e2 e3
        refine ⟨u', r', ?_⟩
        rcases q with ⟨k, e⟩ | ⟨k, c, e, z⟩
        · refine .inl ⟨k, ?_⟩
          have : y ≠ x := fun e => hj (nodup_ix hN e1 (e ▸ hi))
          simp [this, e]
        · exact .inr ⟨k, c, e, z.sameBut hs (cne y c e)⟩
    · obtain ⟨w', z⟩ := I.cell y c e
      exact ⟨w', z.sameBut hs (cne y c e)⟩
    · obtain ⟨e, n, ne, nf, d⟩ := I.pin p hp
      exact ⟨(hs.2 p.1 ne).trans e, n, ne, nf, d⟩
  · have hfn : X.fn x = true := by
      rcases hf with z | z
      · exact z
      · rw [z] at hk; cases hk
    obtain ⟨c, hc⟩ := I.ok.has x (.inl hk)
    obtain ⟨w', z⟩ := I.cell x c hc
    refine wpAny_storeName_cell I.ok.kind hk hc z (fun h' hc' hs => ?_)
    obtain ⟨oc, hoc, hocd⟩ := id z
    refine h { s with heap := h' } ⟨I.ok, I.os, I.bare, ⟨fun b o e n hb hx => ?_, fun b o e n hb hx => ?_, I.base.free, fun b o e hx => ?_, I.base.tups, I.base.frzs, I.base.tbls⟩, ⟨m, hn.sameBut hs (Ne.symm (cne x c hc)), fun j y v' e1 e2 e3 => ?_⟩, fun y c' e => ?_, I.free, I.freeC, fun p hp => ?_, tracked ⟨oc, hoc, I.freeC x c hc⟩ hs, by simpa using I.len⟩ ⟨c, hs, .inr hc⟩
    · exact (hs.2 b (Nat.ne_of_lt (Nat.lt_of_lt_of_le (Heap.lt_size e) (I.ok.cab x c hfn hc)))).trans (I.base.keep b o e n hb hx)
    · obtain ⟨sl, e1⟩ := I.base.slot b o e n hb hx
      exact ⟨sl, (hs.2 b (Nat.ne_of_lt (Nat.lt_of_lt_of_le (Heap.lt_size e) (I.ok.cab x c hfn hc)))).trans e1⟩
    · obtain ⟨o', e1⟩ := I.base.there b o e hx
      exact ⟨o', (hs.2 b (Nat.ne_of_lt (Nat.lt_of_lt_of_le (Heap.lt_size e) (I.ok.cab x c hfn hc)))).trans e1⟩
    · by_cases hj : j = i
      · subst hj
        rw [hi] at e1; cases e1
        rw [List.getElem?_set_self hiσ] at e2
        cases e2
        exact ⟨u, r, .inr ⟨.inl hk, c, hc, hc'⟩⟩
      · rw [List.getElem?_set_ne (Ne.symm hj)] at e2
        obtain ⟨u', r', q⟩ := hl j y v' e1 e2 e3
        refine ⟨u', r', ?_⟩
        rcases q with q | ⟨k, c', e, z'⟩
        · exact .inl q
        · refine .inr ⟨k, c', e, z'.sameBut hs ?_⟩
          rintro rfl
          exact hj (nodup_ix hN e1 (I.ok.inj _ _ _ e hc ▸ hi))
    · by_cases hcc : c' = c
      · subst hcc; exact ⟨_, hc'⟩
      · obtain ⟨w2, z2⟩ := I.cell y c' e
        exact ⟨w2, z2.sameBut hs hcc⟩
    · obtain ⟨e, n, ne, nf, d⟩ := I.pin p hp
      refine ⟨(hs.2 p.1 ?_).trans e, n, ne, nf, d⟩
      intro q
      rw [q, hoc] at e
      have q' : oc = p.2 := Option.some.inj e
      exact d w' (by rw [← q']; exact hocd)
theorem store_ok {M : Model} {A : Around} {E : Value → Shared → Prop} {i : Nat} {x : Str} {v : V} {u : Value} {Q : Unit → Shared → Prop} (I : Inv X pins σ H s) (hN : X.N.Nodup) (hi : X.N[i]? = some x) (hx : Loc X.env.scope x) (r : RelV v u)
    (h : ∀ s', Inv X pins (σ.set i (some v)) H s' → Q () s') (hf : X.fn x = true ∨ X.env.scope.names.lookup x = some .local := by first | exact .inl rfl | exact .inr rfl | assumption) : wpAny M A (storeName X.env x u) Q E s :=
  store_ok2 I hN hi hx r (fun s' I' _ => h s' I') hf
theorem Inv.call' {s' : Shared} {ch : List Addr} (I : Inv X pins σ H s) (ho : s'.os = s.os) (u : Un (frs X.stack) ch H H' s.heap s'.heap) (hok : HOk X.prog X.w H' s'.heap) (hg : AllBare s'.gens)
    (hch : ∀ b ∈ ch, (b ∈ X.ex ∨ X.s_0.heap.objs.size ≤ b) ∧ b ≠ X.env.locals ∧ (∀ x c, X.env.cells.lookup x = some c → c ≠ b) ∧ ∀ p ∈ X.pn ++ pins, p.1 ≠ b) : Inv X pins σ H' s' := by
  obtain ⟨h', g', d', t', o'⟩ := s'
  have e : o' = s.os := ho
  subst e
  exact I.call (g' := g') (t' := t') (d' := d') u hok hg hch
end
abbrev XK := Value → Option Addr → Hp → Prop
abbrev St := List (Option V)
abbrev VK := V → Hp → Prop
abbrev TE := St → Hp → VK → Prop
abbrev TT := St → Hp → (Bool → Hp → Prop) → Prop
abbrev TA := St → Hp → (List V → Hp → Prop) → Prop
structure Ends where
  nx : St → Hp → Prop
  rt : VK
  bk : St → Hp → Prop := fun _ _ => False
  ct : St → Hp → Prop := fun _ _ => False
abbrev TS := Ends → St → Hp → Prop
def EP (X : Cx) (pins : List (Addr × Obj)) (σ : St) (Q : VK) (u : Value) (s' : Shared) : Prop := ∃ v H', Inv X pins σ H' s' ∧ RelV v u ∧ Q v H'
def TP (X : Cx) (pins : List (Addr × Obj)) (σ : St) (Q : Bool → Hp → Prop) (b : Bool) (s' : Shared) : Prop := ∃ H', Inv X pins σ H' s' ∧ Q b H'
def AP (X : Cx) (pins : List (Addr × Obj)) (σ : St) (Q : List V → Hp → Prop) (us : List Value) (s' : Shared) : Prop := ∃ vs H', Inv X pins σ H' s' ∧ Vals vs us ∧ Q vs H'
def SP (X : Cx) (pins : List (Addr × Obj)) (D : Ends) (f : Flow) (s' : Shared) : Prop :=
  match f with
  | .next => ∃ σ' H', Inv X pins σ' H' s' ∧ D.nx σ' H'
  | .brk => ∃ σ' H', Inv X pins σ' H' s' ∧ D.bk σ' H'
  | .cont => ∃ σ' H', Inv X pins σ' H' s' ∧ D.ct σ' H'
  | .ret u => ∃ v σ' H', Inv X pins σ' H' s' ∧ RelV v u ∧ D.rt v H'
def PE (X : Cx) (e : Expr) (t : TE) : Prop :=
  ∀ (pins : List (Addr × Obj)) (s : Shared) (σ : St) (H : Hp) (Q : VK), Inv X pins σ H s → t σ H Q → wpAny (model X.prog X.w) X.A (eval e X.env) (EP X pins σ Q) X.xe s
def PT (X : Cx) (e : Expr) (t : TT) : Prop :=
  ∀ (pins : List (Addr × Obj)) (s : Shared) (σ : St) (H : Hp) (Q : Bool → Hp → Prop), Inv X pins σ H s → t σ H Q → wpAny (model X.prog X.w) X.A (isTrue e X.env (eval e X.env)) (TP X pins σ Q) X.xe s
def PW (X : Cx) (e : Expr) (t : TT) : Prop :=
  ∀ (whole : Sem Value) (pins : List (Addr × Obj)) (s : Shared) (σ : St) (H : Hp) (Q : Bool → Hp → Prop), Inv X pins σ H s → t σ H Q → wpAny (model X.prog X.w) X.A (isTrue e X.env whole) (TP X pins σ Q) X.xe s
theorem PW.pt {X : Cx} {e : Expr} {t : TT} (h : PW X e t) : PT X e t := h _
def PA (X : Cx) (es : List Expr) (t : TA) : Prop :=
  ∀ (pos : Pos) (pins : List (Addr × Obj)) (s : Shared) (σ : St) (H : Hp) (Q : List V → Hp → Prop), Inv X pins σ H s → t σ H Q → wpAny (model X.prog X.w) X.A (spliced (backTo pos (starEach es X.env))) (AP X pins σ Q) X.xe s
def PS (X : Cx) (st : Stmt) (t : TS) : Prop :=
  ∀ (pins : List (Addr × Obj)) (s : Shared) (σ : St) (H : Hp) (D : Ends), Inv X pins σ H s → t D σ H → wpAny (model X.prog X.w) X.A (exec st X.env) (SP X pins D) X.xe s
def PSs (X : Cx) (st : List Stmt) (t : TS) : Prop :=
  ∀ (pins : List (Addr × Obj)) (s : Shared) (σ : St) (H : Hp) (D : Ends), Inv X pins σ H s → t D σ H → wpAny (model X.prog X.w) X.A (execs st X.env) (SP X pins D) X.xe s
theorem thn {α : Type} {t : Sem α} {Q Q' : α → Shared → Prop} {M : Model} {A : Around} {E : Value → Shared → Prop} {s : Shared} (h : wpAny M A t Q E s) (hQ : ∀ a s, Q a s → Q' a s) : wpAny M A t Q' E s := wpAny_mono h hQ fun _ _ x => x
end L2
namespace L2
open PySem PySem.Spec PyProof.Rows
section
variable {X : Cx}
def tVar (i : Nat) : TE := fun σ H Q => ∃ v, σ[i]? = some (some v) ∧ Q v H
def tC (v : V) : TE := fun _ H Q => Q v H
theorem pe_var {i : Nat} {x : Str} {pos : Pos} (hN : X.N[i]? = some x) (hv : Vis X.env.scope x) (hd : (x == ("__debug__" : Str)) = false := by decide) (hcd : (x == ("__classdict__" : Str)) = false := by decide) : PE X (.Name x pos) (tVar i) := by
  intro pins s σ H Q I h
  obtain ⟨v, e, h⟩ := h
  obtain ⟨m, hn, hl⟩ := I.loc
  obtain ⟨u, r, l⟩ := hl i x v hN e hv
  have fin : EP X pins σ Q u s := ⟨v, H, I, r, h⟩
  rcases l with ⟨hk, hm⟩ | ⟨hk, c, hc, hcell⟩
  · exact wpAny_Name (wpAny_loadName_local I.ok.kind hk hn hm fin) hd
  · rcases hk with hk | hk
    · exact wpAny_Name (wpAny_loadName_cell I.ok.kind hk hc hcell fin) hd
    · exact wpAny_Name (wpAny_loadName_free I.ok.kind hk hc hcell fin hcd) hd
theorem pe_int {i j pos} : PE X (.Constant (.int i) j pos) (tC (.int i)) := fun _ _ _ H _ I h => wpAny_Constant_int ⟨.int i, H, I.tok _, ⟨_, rfl⟩, h⟩
theorem pe_bl {b j pos} : PE X (.Constant (.bool b) j pos) (tC (.bl b)) := fun _ _ _ H _ I h => Constant_bool ⟨.bl b, H, I, rfl, h⟩
theorem pe_non {j pos} : PE X (.Constant .none j pos) (tC .non) := fun _ _ _ H _ I h => Constant_none ⟨.non, H, I, rfl, h⟩
def Gl (X : Cx) (x : Str) : Prop := X.env.kindOf x = some .globalImplicit
theorem ld_glob {E : Value → Shared → Prop} {pins : List (Addr × Obj)} {s : Shared} {σ : St} {H : Hp} {x : Str} {u : Value} {pos : Pos} {Q : Value → Shared → Prop} (I : Inv X pins σ H s) (hg : Gl X x) (hm : X.mg x = some u) (h : Q u s)
    (hd : (x == ("__debug__" : Str)) = false := by decide) : wpAny (model X.prog X.w) X.A (eval (.Name x pos) X.env) Q E s :=
  Calls.Name_function_global I.ok.kind hg (Calls.loadGlobal_global (by rw [I.ok.glob]; exact I.mod.glob.keeps I.bk) hm h) hd
theorem ld_blt {E : Value → Shared → Prop} {pins : List (Addr × Obj)} {s : Shared} {σ : St} {H : Hp} {x : Str} {u : Value} {pos : Pos} {Q : Value → Shared → Prop} (I : Inv X pins σ H s) (hg : Gl X x) (hm : X.mg x = none) (hv : bootBuiltins x = some u) (h : Q u s)
    (hn : x ≠ "__name__" := by decide) (hd : (x == ("__debug__" : Str)) = false := by decide) : wpAny (model X.prog X.w) X.A (eval (.Name x pos) X.env) Q E s := by
  obtain ⟨mb, h1, h2⟩ := I.mod.blt
  exact Calls.Name_function_global I.ok.kind hg (Calls.loadGlobal_builtin (by rw [I.ok.glob]; exact I.mod.glob.keeps I.bk) hm (by rw [I.ok.blt]; exact h1.keeps I.bk) ((h2 x hn).trans hv) h) hd
theorem pe_glob {x : Str} {v : V} {u : Value} {pos : Pos} (hg : Gl X x) (hm : X.mg x = some u) (r : RelV v u) (hd : (x == ("__debug__" : Str)) = false := by decide) : PE X (.Name x pos) (tC v) :=
  fun _ _ _ H _ I h => ld_glob I hg hm ⟨v, H, I, r, h⟩ hd
variable {a b : Expr} {ta tb : TE} {pos : Pos}
def tB (t : TE) : TT := fun σ H Q => t σ H fun x H1 => ∃ c, x = .bl c ∧ Q c H1
theorem pt_val {e : Expr} {t : TE} (h : PE X e t) (he : ∀ whole, isTrue e X.env whole = (do let v ← whole; standAt e.pos; holding [v] (truthy v)) := by intro _; rfl) : PT X e (tB t) := by
  intro pins s σ H Q I hw
  refine isTrue_plain (thn (h pins s σ H _ I hw) fun v s1 ⟨x, H1, I1, r1, q1⟩ => ?_) (he _)
  obtain ⟨d, rfl, q⟩ := q1
  cases r1
  exact wpAny_truthy_bool ⟨H1, I1, q⟩
variable {tA tB' : TT} {rest : List Expr}
def tAnd (t u : TT) : TT := fun σ H Q => t σ H fun c H1 => if c = true then u σ H1 Q else Q false H1
def tOr (t u : TT) : TT := fun σ H Q => t σ H fun c H1 => if c = true then Q true H1 else u σ H1 Q
def tNot (t : TT) : TT := fun σ H Q => t σ H fun c H1 => Q (!c) H1
theorem pw_and1 (ha : PT X a tA) : PW X (.BoolOp .And [a] pos) tA := by
  intro wh pins s σ H Q I h
  refine isTrue_and (thn (ha pins s σ H Q I h) fun c s1 e => ?_)
  cases c with
  | true => exact isTrue_and_nil e
  | false => exact e
theorem pw_or1 (ha : PT X a tA) : PW X (.BoolOp .Or [a] pos) tA := by
  intro wh pins s σ H Q I h
  refine isTrue_or (thn (ha pins s σ H Q I h) fun c s1 e => ?_)
  cases c with
  | false => exact isTrue_or_nil e
  | true => exact e
theorem pw_and (ha : PT X a tA) (hb : PW X (.BoolOp .And (b :: rest) pos) tB') : PW X (.BoolOp .And (a :: b :: rest) pos) (tAnd tA tB') := by
  intro wh pins s σ H Q I h
  refine isTrue_and (thn (ha pins s σ H _ I h) fun c s1 ⟨H1, I1, q1⟩ => ?_)
  cases c with
  | true => exact hb wh pins s1 σ H1 Q I1 q1
  | false => exact ⟨H1, I1, q1⟩
theorem pw_or (ha : PT X a tA) (hb : PW X (.BoolOp .Or (b :: rest) pos) tB') : PW X (.BoolOp .Or (a :: b :: rest) pos) (tOr tA tB') := by
  intro wh pins s σ H Q I h
  refine isTrue_or (thn (ha pins s σ H _ I h) fun c s1 ⟨H1, I1, q1⟩ => ?_)
  cases c with
  | true => exact ⟨H1, I1, q1⟩
  | false => exact hb wh pins s1 σ H1 Q I1 q1
theorem pt_not (ha : PT X a tA) : PT X (.UnaryOp .Not a pos) (tNot tA) := by
  intro pins s σ H Q I h
  exact isTrue_not (ha pins s σ H (fun c H1 => Q (!c) H1) I h)
def tAndV (ta tb : TE) : TE := fun σ H Q => ta σ H fun x H1 => ∃ c, x = .bl c ∧ if c = true then tb σ H1 Q else Q (.bl false) H1
def tOrV (ta tb : TE) : TE := fun σ H Q => ta σ H fun x H1 => ∃ c, x = .bl c ∧ if c = true then Q (.bl true) H1 else tb σ H1 Q
def tNotV (ta : TE) : TE := fun σ H Q => ta σ H fun x H1 => ∃ c, x = .bl c ∧ Q (.bl (!c)) H1
theorem pe_one {op} {t : TE} (h : PE X a t) : PE X (.BoolOp op [a] pos) t := fun pins s σ H Q I hw => BoolOp_one (h pins s σ H Q I hw)
theorem pe_and (ha : PE X a ta) (hb : PE X (.BoolOp .And (b :: rest) pos) tb) : PE X (.BoolOp .And (a :: b :: rest) pos) (tAndV ta tb) := by
  intro pins s σ H Q I h
  refine BoolOp_and (thn (ha pins s σ H _ I h) fun v s1 ⟨x, H1, I1, r1, q1⟩ => ?_)
  obtain ⟨c, rfl, q1⟩ := q1
  cases r1
  refine wpAny_truthy_bool ?_
  cases c with
  | true => exact hb pins s1 σ H1 Q I1 q1
  | false => exact ⟨.bl false, H1, I1, rfl, q1⟩
theorem pe_or (ha : PE X a ta) (hb : PE X (.BoolOp .Or (b :: rest) pos) tb) : PE X (.BoolOp .Or (a :: b :: rest) pos) (tOrV ta tb) := by
  intro pins s σ H Q I h
  refine BoolOp_or (thn (ha pins s σ H _ I h) fun v s1 ⟨x, H1, I1, r1, q1⟩ => ?_)
  obtain ⟨c, rfl, q1⟩ := q1
  cases r1
  refine wpAny_truthy_bool ?_
  cases c with
  | false => exact hb pins s1 σ H1 Q I1 q1
  | true => exact ⟨.bl true, H1, I1, rfl, q1⟩
theorem pe_not (ha : PE X a ta) : PE X (.UnaryOp .Not a pos) (tNotV ta) := by
  intro pins s σ H Q I h
  refine UnaryOp_ (thn (ha pins s σ H _ I h) fun v s1 ⟨x, H1, I1, r1, q1⟩ => ?_)
  obtain ⟨c, rfl, q1⟩ := q1
  cases r1
  exact not_of (wpAny_truthy_bool ⟨.bl (!c), H1, I1, rfl, q1⟩)
end
end L2
namespace L2
open PySem PySem.Spec PyProof.Rows
def SqL (K : PySem.W.Frag) (H : Hp) (a : Addr) (xs : List V) : Prop :=
  Rd H a (.lst xs) ∨
    ∃ (o : Obj) (its : Array Value) (n : Nat), K.lookup a = some o ∧ o.cls = .type "list" ∧ o.dict = none ∧ o.data = .seq its n ∧ its.size ≤ sizeLine ∧ Vals xs its.toList
def SqT (K : PySem.W.Frag) (H : Hp) (a : Addr) (xs : List V) : Prop :=
  Rd H a (.tup xs) ∨
    ∃ (o : Obj) (its : Array Value) (n : Nat), K.lookup a = some o ∧ o.cls = .type "tuple" ∧ o.data = .seq its n ∧ its.size ≤ sizeLine ∧ Vals xs its.toList
def absV : Value → Option V
  | .none => some .non
  | .bool b => some (.bl b)
  | .int i _ => some (.int i)
  | .str x _ => some (.str x)
  | .bytes b _ => some (.byt b)
  | .float b _ => some (.flt b)
  | .ref a => some (.ref a)
  | .type n => some (.ty n)
  | _ => none
theorem RelV.abs {x : V} {u : Value} (r : RelV x u) : absV u = some x := by
  cases x with
  | non => cases r; rfl
  | bl _ => cases r; rfl
  | int _ => obtain ⟨t, rfl⟩ := r; rfl
  | str _ => obtain ⟨t, rfl⟩ := r; rfl
  | byt _ => obtain ⟨t, rfl⟩ := r; rfl
  | flt _ => obtain ⟨t, rfl⟩ := r; rfl
  | ref _ => cases r; rfl
  | ty _ => cases r; rfl
theorem RelV.inj {x y : V} {u : Value} (r : RelV x u) (q : RelV y u) : x = y := Option.some.inj (r.abs.symm.trans q.abs)
theorem Vals.inj : ∀ {xs ys : List V} {us : List Value}, Vals xs us → Vals ys us → xs = ys
  | _, _, _, .nil, .nil => rfl
  | _, _, _, .cons r t, .cons r' t' => by rw [r.inj r', Vals.inj t t']
section
variable {X : Cx} {pins : List (Addr × Obj)} {σ : St} {H : Hp} {s : Shared} {a : Addr} {xs ys : List V}
theorem SqL.of {K : PySem.W.Frag} (h : H a = some (.lst xs)) : SqL K H a xs := .inl (.inl h)
theorem SqT.of {K : PySem.W.Frag} (h : H a = some (.tup xs)) : SqT K H a xs := .inl (.inl h)
theorem Inv.list (I : Inv X pins σ H s) (h : SqL X.K H a xs) : ∃ its : List Value, Vals xs its ∧ PlainL s.heap a its.toArray ∧ xs.length ≤ sizeLine := by
  rcases h with h | ⟨o, its, n, hk, hc, hd, hs, hz, r⟩
  · obtain ⟨z, its, n, r, e⟩ := h.ok I.hok
    exact ⟨its, r, ⟨_, n, e, rfl, rfl, rfl⟩, z⟩
  · refine ⟨its.toList, r, ⟨o, n, I.kIn a o hk, hc, hd, by simpa using hs⟩, ?_⟩
    have e := r.length
    simp only [Array.length_toList] at e
    omega
theorem Inv.tuple (I : Inv X pins σ H s) (h : SqT X.K H a xs) : ∃ its : List Value, Vals xs its ∧ IsTup s.heap a its.toArray ∧ xs.length ≤ sizeLine := by
  rcases h with h | ⟨o, its, n, hk, hc, hs, hz, r⟩
  · obtain ⟨z, its, r, p⟩ := h.ok I.hok
    exact ⟨its, r, p, z⟩
  · refine ⟨its.toList, r, ⟨o, I.kIn a o hk, hc, n, by simpa using hs⟩, ?_⟩
    have e := r.length
    simp only [Array.length_toList] at e
    omega
theorem Inv.list_inj (I : Inv X pins σ H s) (h : SqL X.K H a xs) (h' : SqL X.K H a ys) : xs = ys := by
  obtain ⟨its, r, ⟨o, n, e, _, _, d⟩, _⟩ := I.list h
  obtain ⟨its', r', ⟨o', n', e', _, _, d'⟩, _⟩ := I.list h'
  rw [e] at e'; cases e'
  rw [d] at d'
  injection d' with d1 _
  have : its = its' := by simpa using congrArg Array.toList d1
  subst this
  exact r.inj r'
end
abbrev Cx.wish (X : Cx) (E : Value → Shared → Prop) : Cx := { X with xe := E }
theorem Cx.Ok.wish {X : Cx} (ok : X.Ok) (E : Value → Shared → Prop) : (X.wish E).Ok :=
  ⟨ok.mod, ok.kind, ok.glob, ok.blt, ok.above, ok.inj, ok.has, ok.cab, ok.hd, ok.frames, ok.stk, ok.exf, ok.bs, ok.bsz, ok.noex, ok.exfs, ok.funs, ok.frf⟩
theorem Cx.Ok.unwish {X : Cx} {E : Value → Shared → Prop} (ok : (X.wish E).Ok) : X.Ok :=
  ⟨ok.mod, ok.kind, ok.glob, ok.blt, ok.above, ok.inj, ok.has, ok.cab, ok.hd, ok.frames, ok.stk, ok.exf, ok.bs, ok.bsz, ok.noex, ok.exfs, ok.funs, ok.frf⟩
section
variable {X : Cx} {pins : List (Addr × Obj)} {σ : St} {H : Hp} {s : Shared} {E : Value → Shared → Prop}
theorem Inv.wish (I : Inv X pins σ H s) (E : Value → Shared → Prop) : Inv (X.wish E) pins σ H s := ⟨I.ok.wish E, I.os, I.bare, I.base, I.loc, I.cell, I.free, I.freeC, I.pin, I.hok, I.len⟩
theorem Inv.unwish (I : Inv (X.wish E) pins σ H s) : Inv X pins σ H s := ⟨I.ok.unwish, I.os, I.bare, I.base, I.loc, I.cell, I.free, I.freeC, I.pin, I.hok, I.len⟩
end
section
variable {X : Cx} {st : Stmt} {rest : List Stmt} {t u : TS} {e : Expr} {te : TE} {pos : Pos}
def tNext : TS := fun D σ H => D.nx σ H
def tSeq (t u : TS) : TS := fun D σ H => t { D with nx := u D } σ H
theorem pss_nil : PSs X [] tNext := fun _ _ σ H _ I h => wpAny_execs_nil ⟨σ, H, I, h⟩
theorem pss_cons (h1 : PS X st t) (h2 : PSs X rest u) : PSs X (st :: rest) (tSeq t u) := by
  intro pins s σ H D I h
  refine wpAny_execs_cons (thn (h1 pins s σ H { D with nx := u D } I h) fun f s1 q => ?_)
  cases f with
  | next =>
    obtain ⟨σ', H', I', q⟩ := q
    exact h2 pins s1 σ' H' D I' q
  | ret v => exact q
  | brk => exact q
  | cont => exact q
theorem pss_one (h1 : PS X st t) : PSs X [st] t := by
  intro pins s σ H D I h
  refine wpAny_execs_cons (thn (h1 pins s σ H D I h) fun f s1 q => ?_)
  cases f with
  | next => exact wpAny_execs_nil q
  | ret v => exact q
  | brk => exact q
  | cont => exact q
theorem Inv.quiet {pins : List (Addr × Obj)} {σ : St} {H : Hp} {s : Shared} (I : Inv X pins σ H s) : interactive X.env = false := by simp [interactive, I.ok.kind]
def tDrop (te : TE) : TS := fun D σ H => te σ H fun _ H1 => D.nx σ H1
theorem ps_expr (he : PE X e te) (hs : swapsWith e none pos.line X.env = pure false := by rfl) : PS X (.Expr e pos) (tDrop te) := by
  intro pins s σ H D I h
  exact wpAny_Expr_any (thn (he pins s σ H _ I h) fun v s1 ⟨x, H1, I1, r1, q1⟩ => ⟨σ, H1, I1, q1⟩) I.quiet hs
def tRet (te : TE) : TS := fun D σ H => te σ H D.rt
theorem ps_ret (he : PE X e te) : PS X (.Return (some e) pos) (tRet te) := by
  intro pins s σ H D I h
  exact wpAny_Return_some (thn (he pins s σ H _ I h) fun v s1 ⟨x, H1, I1, r1, q1⟩ => ⟨x, σ, H1, I1, r1, q1⟩)
def tIfS (c : TT) (t u : TS) : TS := fun D σ H => c σ H fun b H1 => if b = true then t D σ H1 else u D σ H1
theorem ps_if {c : Expr} {a b : List Stmt} {tc : TT} (hc : PT X c tc) (ha : PSs X a t) (hb : PSs X b u) : PS X (.If c a b pos) (tIfS tc t u) := by
  intro pins s σ H D I h
  refine wpAny_If (thn (hc pins s σ H _ I h) fun d s1 ⟨H1, I1, q1⟩ => ?_)
  cases d with
  | true => exact ha pins s1 σ H1 D I1 q1
  | false => exact hb pins s1 σ H1 D I1 q1
end
abbrev TG := V → St → Hp → (St → Hp → Prop) → Prop
abbrev TGs := List V → St → Hp → (St → Hp → Prop) → Prop
def PG (X : Cx) (target : Expr) (t : TG) : Prop :=
  ∀ (pins : List (Addr × Obj)) (s : Shared) (σ : St) (H : Hp) (v : V) (u : Value) (Q : St → Hp → Prop), Inv X pins σ H s → RelV v u → t v σ H Q →
    wpAny (model X.prog X.w) X.A (assign target X.env u) (fun _ s' => ∃ σ' H', Inv X pins σ' H' s' ∧ Q σ' H') X.xe s
def PGs (X : Cx) (ts : List Expr) (t : TGs) : Prop :=
  ∀ (pins : List (Addr × Obj)) (s : Shared) (σ : St) (H : Hp) (vs : List V) (us : List Value) (Q : St → Hp → Prop), Inv X pins σ H s → Vals vs us → t vs σ H Q →
    wpAny (model X.prog X.w) X.A (assignInOrder ((assignEach ts X.env).map (·.2)) us) (fun _ s' => ∃ σ' H', Inv X pins σ' H' s' ∧ Q σ' H') X.xe s
abbrev TIp := V → V → Hp → VK → Prop
def PIp (X : Cx) (op : Operator) (t : TIp) : Prop :=
  ∀ (pins : List (Addr × Obj)) (s : Shared) (σ : St) (H : Hp) (x y : V) (v u : Value) (Q : VK), Inv X pins σ H s → RelV x v → RelV y u → t x y H Q →
    wpAny (model X.prog X.w) X.A (inplaceOp op v u) (EP X pins σ Q) X.xe s
section
variable {X : Cx} {pos : Pos}
def gName (i : Nat) : TG := fun v σ H Q => Q (σ.set i (some v)) H
theorem pg_name {i : Nat} {x : Str} (hN : X.N.Nodup) (hi : X.N[i]? = some x) (hx : Loc X.env.scope x) (hf : X.fn x = true ∨ X.env.scope.names.lookup x = some .local := by first | exact .inl rfl | exact .inr rfl | assumption) : PG X (.Name x pos) (gName i) := by
  intro pins s σ H v u Q I r h
  exact wpAny_assign_Name (store_ok I hN hi hx r (fun s' I' => ⟨_, H, I', h⟩) hf)
def gNil : TGs := fun vs σ H Q => vs = [] ∧ Q σ H
def gCons (t : TG) (u : TGs) : TGs := fun vs σ H Q => ∃ v r, vs = v :: r ∧ t v σ H fun σ' H' => u r σ' H' Q
theorem pgs_nil : PGs X [] gNil := by
  intro pins s σ H vs us Q I r h
  obtain ⟨e, h⟩ := h
  subst e
  cases r
  exact assignInOrder_nil ⟨σ, H, I, h⟩
theorem pgs_cons {e : Expr} {es : List Expr} {t : TG} {u : TGs} (h1 : PG X e t) (h2 : PGs X es u)
    (hs : (assignEach (e :: es) X.env).map (·.2) = assign e X.env :: (assignEach es X.env).map (·.2) := by rfl) : PGs X (e :: es) (gCons t u) := by
  intro pins s σ H vs us Q I r h
  obtain ⟨v, vr, e1, h⟩ := h
  subst e1
  cases r with
  | cons r rr =>
    rw [hs]
    refine assignInOrder_cons (thn (h1 pins s σ H _ _ _ I r h) fun _ s1 ⟨σ1, H1, I1, q1⟩ => ?_)
    exact h2 pins s1 σ1 H1 _ _ Q I1 rr q1
def gTup (K : PySem.W.Frag) (n : Nat) (t : TGs) : TG := fun v σ H Q => ∃ a xs, v = .ref a ∧ SqT K H a xs ∧ xs.length = n ∧ t xs σ H Q
theorem pg_tup {es : List Expr} {k : Nat} {t : TGs} {n : Nat} (hc : X.calm = true) (h : PGs X es t)
    (hn : (assignEach es X.env).length = n := by rfl) (hst : (assignEach es X.env).findIdx? (·.1) = none := by rfl) : PG X (.Tuple es k pos) (gTup X.K n t) := by
  intro pins s σ H v u Q I r hw
  obtain ⟨a, xs, e1, hq, hl, hw⟩ := hw
  subst e1
  cases r
  obtain ⟨its, rv, ht, hz⟩ := I.tuple hq
  refine assign_Tuple_tuple (I.ok.hd hc) ht (by simp [hn, ← hl, rv.length]) hst fun h' hx => ?_
  have I1 : Inv X pins σ H { s with heap := h' } := I.kept (t' := s.toks) fun b o e => hx b o (Nat.ne_of_lt (Heap.lt_size e)) e
  exact h pins _ σ H xs _ Q I1 (by simpa using rv) hw
def tAsg (te : TE) (g : TG) : TS := fun D σ H => te σ H fun x H1 => g x σ H1 D.nx
theorem ps_set {i : Nat} {x : Str} {e : Expr} {te : TE} {pos' : Pos} (hN : X.N.Nodup) (hi : X.N[i]? = some x) (hx : Loc X.env.scope x) (he : PE X e te) (hs : swapsWith e (some (.Name x pos')) pos.line X.env = pure false := by rfl) (hf : X.fn x = true ∨ X.env.scope.names.lookup x = some .local := by first | exact .inl rfl | exact .inr rfl | assumption) :
    PS X (.Assign [.Name x pos'] e pos) (tAsg te (gName i)) := by
  intro pins s σ H D I h
  refine wpAny_Assign_Name (thn (he pins s σ H _ I h) fun v s1 ⟨y, H1, I1, r1, q1⟩ => ?_) hs
  exact store_ok I1 hN hi hx r1 (fun s2 I2 => ⟨_, H1, I2, q1⟩) hf
def tAug (i : Nat) (te : TE) (ti : TIp) : TS := fun D σ H => ∃ x, σ[i]? = some (some x) ∧ te σ H fun y H1 => ti x y H1 fun z H2 => D.nx (σ.set i (some z)) H2
theorem ps_aug {i : Nat} {x : Str} {e : Expr} {te : TE} {op : Operator} {ti : TIp} {pos' : Pos} (hN : X.N.Nodup) (hi : X.N[i]? = some x) (hx : Loc X.env.scope x) (he : PE X e te) (ho : PIp X op ti) (hf : X.fn x = true ∨ X.env.scope.names.lookup x = some .local := by first | exact .inl rfl | exact .inr rfl | assumption) :
    PS X (.AugAssign (.Name x pos') op e pos) (tAug i te ti) := by
  intro pins s σ H D I h
  obtain ⟨v, e1, h⟩ := h
  obtain ⟨m, hn, hl⟩ := I.loc
  have vis : Vis X.env.scope x := by rcases hx with k | k; exact .inl k; exact .inr (.inl k)
  obtain ⟨u, r, l⟩ := hl i x v hi e1 vis
  refine wpAny_AugAssign_Name ?_
  have go : wpAny (model X.prog X.w) X.A (eval e X.env) (fun w s₂ => wpAny (model X.prog X.w) X.A (inplaceOp op u w) (fun r s₃ => wpAny (model X.prog X.w) X.A (storeName X.env x r) (fun _ => SP X pins D .next) X.xe s₃) X.xe s₂) X.xe s := by
    refine thn (he pins s σ H _ I h) fun w s1 ⟨y, H1, I1, r1, q1⟩ => ?_
    refine thn (ho pins s1 σ H1 v y u w _ I1 r r1 q1) fun z s2 ⟨zv, H2, I2, r2, q2⟩ => ?_
    exact store_ok I2 hN hi hx r2 (fun s3 I3 => ⟨_, H2, I3, q2⟩) hf
  rcases l with ⟨hk, hm⟩ | ⟨hk, c, hc, hcell⟩
  · exact wpAny_loadName_local I.ok.kind hk hn hm go
  · rcases hk with hk | hk
    · exact wpAny_loadName_cell I.ok.kind hk hc hcell go
    · rcases hx with k | k
      · have : X.env.scope.names.lookup x = some .free := hk
        rw [k] at this; cases this
      · have : X.env.scope.names.lookup x = some .free := hk
        rw [k] at this; cases this
def ipI (f : Int → Int → Int) : TIp := fun x y H Q => ∃ i j, x = .int i ∧ y = .int j ∧ Q (.int (f i j)) H
theorem ip_add : PIp X .Add (ipI fun i j => i + j) := by
  intro pins s σ H x y v u Q I r1 r2 h
  obtain ⟨i, j, e1, e2, q⟩ := h
  subst e1; subst e2
  obtain ⟨t, rfl⟩ := r1
  obtain ⟨t', rfl⟩ := r2
  exact iadd_int ⟨.int _, H, I.tok _, ⟨_, rfl⟩, q⟩
end
section
variable {X : Cx} {pos : Pos}
def tWhile (c : TT) (tb : TS) : TS := fun D σ H => ∃ W : Nat → St → Hp → Prop, (∃ m, W m σ H) ∧ ∀ m σ H, W m σ H →
  c σ H fun b H1 => if b = true then ∃ N : St → Hp → Prop, (∀ σ' H', N σ' H' → ∃ m', m' < m ∧ W m' σ' H') ∧ tb { D with nx := N, ct := N, bk := D.nx } σ H1 else D.nx σ H1
theorem ps_while {c : Expr} {body : List Stmt} {tc : TT} {tb : TS} (hp : PassesOwn (model X.prog X.w) X.A X.env X.xe) (hc : PT X c tc) (hb : PSs X body tb) : PS X (.While c body [] pos) (tWhile tc tb) := by
  intro pins s σ H D I h
  obtain ⟨W, ⟨m0, w0⟩, turn⟩ := h
  refine wpAny_While (codeAny_whileLoop (fun n s' => ∃ σ' H', Inv X pins σ' H' s' ∧ W n σ' H') ?_ m0 ⟨σ, H, I, w0⟩)
  rintro n s1 ⟨σ1, H1, I1, w1⟩
  refine wpAny_passesOwn hp (thn (hc pins s1 σ1 H1 _ I1 (turn n σ1 H1 w1)) fun b s2 ⟨H2, I2, q2⟩ => ?_)
  cases b with
  | true =>
    obtain ⟨N, hN, q2⟩ := q2
    rw [if_pos rfl]
    refine wpAny_passesOwn hp (thn (hb pins s2 σ1 H2 _ I2 q2) fun f s3 q3 => ?_)
    cases f with
    | next =>
      obtain ⟨σ3, H3, I3, n3⟩ := q3
      obtain ⟨m', hm, w3⟩ := hN σ3 H3 n3
      exact ⟨m', hm, σ3, H3, I3, w3⟩
    | cont =>
      obtain ⟨σ3, H3, I3, n3⟩ := q3
      obtain ⟨m', hm, w3⟩ := hN σ3 H3 n3
      exact ⟨m', hm, σ3, H3, I3, w3⟩
    | brk => exact q3
    | ret v => exact q3
  | false =>
    rw [if_neg Bool.false_ne_true]
    exact wpAny_execs_nil ⟨σ1, H2, I2, q2⟩
end
structure It where
  go : Nat → Hp → Prop
  yld : Nat → Hp → V → Hp → Prop
  stop : Nat → Hp → Prop
def FpOk (X : Cx) (pins : List (Addr × Obj)) (H : Hp) (b : Addr) : Prop :=
  H b = none ∧ b ≠ X.env.locals ∧ b ∉ X.fs ∧ (b ∈ X.ex ∨ X.s_0.heap.objs.size ≤ b) ∧ (∀ x c, X.env.cells.lookup x = some c → c ≠ b) ∧ ∀ p ∈ X.pn ++ pins, p.1 ≠ b
theorem Inv.fpOk {X : Cx} {pins : List (Addr × Obj)} {σ : St} {H H' : Hp} {s : Shared} {b : Addr} (I : Inv X pins σ H s) (hb : s.heap.objs.size ≤ b) (hn : H' b = none) : FpOk X pins H' b := by
  refine ⟨hn, Nat.ne_of_gt (Nat.lt_of_lt_of_le I.lt hb), I.nofs hb, .inr (Nat.le_trans I.sz hb), fun x c e z => ?_, fun p hp z => ?_⟩
  · obtain ⟨v, q⟩ := I.cell x c e
    exact absurd (Nat.lt_of_lt_of_le q.lt (by rw [z]; exact hb)) (Nat.lt_irrefl _)
  · exact absurd (Nat.lt_of_lt_of_le (Heap.lt_size (I.pin p hp).1) (by rw [z]; exact hb)) (Nat.lt_irrefl _)
structure Turn (P : Program) (w : World) (K : PySem.W.Frag) (tg : Expr) (J : It) (fp : List Addr) (it : Addr) (tn : Nat → Heap → Prop) : Prop where
  mem : it ∈ fp
  obj : ∀ i h, tn i h → ∀ b ∈ fp, ∃ o, h.get? b = some o ∧ ∀ v, o.data ≠ .cell v
  keep : ∀ i h h', tn i h → (∀ b ∈ fp, ∀ o, h.get? b = some o → h'.get? b = some o) → tn i h'
  item : ∀ (X : Cx), X.prog = P → X.w = w → X.K = K → X.calm = true → ∀ (i : Nat) (pins : List (Addr × Obj)) (s : Shared) (σ : St) (H : Hp) (E : Value → Shared → Prop), Inv X pins σ H s → (∀ b ∈ fp, FpOk X pins H b) → tn i s.heap → J.go i H →
    wpAny (model P w) X.A (pyNext (.ref it)) (fun r s1 => ∃ u, r = some u ∧
      wpAny (model P w) X.A (letOwnedTupleGo tg (.ref it) u) (fun _ s2 => ∃ x H', Inv X pins σ H' s2 ∧ RelV x u ∧ J.yld i H x H' ∧ tn (i + 1) s2.heap ∧ ∀ b ∈ fp, H' b = none) E s1) E s
  done : ∀ (X : Cx), X.prog = P → X.w = w → X.K = K → X.calm = true → ∀ (i : Nat) (pins : List (Addr × Obj)) (s : Shared) (σ : St) (H : Hp) (E : Value → Shared → Prop), Inv X pins σ H s → (∀ b ∈ fp, FpOk X pins H b) → tn i s.heap → J.stop i H →
    wpAny (model P w) X.A (pyNext (.ref it)) (fun r s1 => r = none ∧ Inv X pins σ H s1) E s
  self : ∀ (A : Around) (i : Nat) (s : Shared) (Q : Value → Shared → Prop) (E : Value → Shared → Prop), tn i s.heap → Q (.ref it) s → wpAny (model P w) A (pyIter (.ref it)) Q E s
abbrev TI := St → Hp → (It → Hp → Prop) → Prop
def PIE (X : Cx) (pins : List (Addr × Obj)) (σ : St) (tg : Expr) (R : It → Hp → Prop) (itv : Value) (s2 : Shared) : Prop :=
  ∃ (it : Addr) (fp : List Addr) (tn : Nat → Heap → Prop) (J : It) (H' : Hp), itv = .ref it ∧ Inv X pins σ H' s2 ∧ Turn X.prog X.w X.K tg J fp it tn ∧ tn 0 s2.heap ∧ (∀ b ∈ fp, FpOk X pins H' b) ∧ R J H'
def PI (X : Cx) (tg iter : Expr) (wi : TI) : Prop :=
  ∀ (pins : List (Addr × Obj)) (s : Shared) (σ : St) (H : Hp) (R : It → Hp → Prop), Inv X pins σ H s → wi σ H R →
    wpAny (model X.prog X.w) X.A (eval iter X.env) (fun v s1 => wpAny (model X.prog X.w) X.A (pyIter v) (PIE X pins σ tg R) X.xe s1) X.xe s
theorem go_of {M : Model} {A : Around} {E : Value → Shared → Prop} {s : Shared} {tg : Expr} {it : Addr} {u : Value} {o : Obj} {n : String} {vs : Array Value} {Q : Unit → Shared → Prop} (ho : s.heap.get? it = some o) (hc : o.cls = .type n) (hd : o.data = .fields vs)
    (hn : ["enumerate", "zip", "dict_itemiterator", "dict_reverseitemiterator", "odict_iterator", "itertools.zip_longest", "itertools.pairwise"].contains n = false) (hQ : Q () s) : wpAny M A (letOwnedTupleGo tg (.ref it) u) Q E s := by
  unfold letOwnedTupleGo
  cases tg <;> first
    | exact wpAny_pure hQ
    | (cases u <;> first
        | exact wpAny_pure hQ
        | (refine wpAny_bind (wpAny_load ho ?_)
           rw [hc, hd]
           show wpAny M A (if (["enumerate", "zip", "dict_itemiterator", "dict_reverseitemiterator", "odict_iterator", "itertools.zip_longest", "itertools.pairwise"].contains n && vs[0]? == some (rawInt _)) = true then _ else _) Q E s
           rw [if_neg (by intro h; rw [hn, Bool.false_and] at h; cases h)]
           exact wpAny_pure hQ))
def Itl (K : PySem.W.Frag) (a : Addr) : It :=
  ⟨fun i H => ∃ xs x, SqL K H a xs ∧ xs[i]? = some x, fun i H x H' => H' = H ∧ ∀ xs, SqL K H a xs → xs[i]? = some x, fun i H => ∃ xs, SqL K H a xs ∧ xs.length ≤ i⟩
def Itr (lo : Int) (n : Nat) : It := ⟨fun i _ => i < n, fun i H x H' => H' = H ∧ x = .int (lo + i), fun i _ => n ≤ i⟩
theorem turn_list {P : Program} {w : World} {K : PySem.W.Frag} {tg : Expr} (a it : Addr) : Turn P w K tg (Itl K a) [it] it (fun i h => h.IsListIter it a i) where
  mem := by simp
  obj := fun i h st b hb => by
    have e : b = it := by simpa using hb
    subst e
    obtain ⟨o, e, c, d⟩ := st
    exact ⟨o, e, fun v z => by rw [d] at z; cases z⟩
  keep := fun i h h' st k => st.at fun o e => k it (by simp) o e
  item := by
    intro X hP hw hK hc i pins s σ H E I hf st hg
    subst hP hw hK
    obtain ⟨xs, x, hq, hx⟩ := hg
    obtain ⟨its, rv, p, hz⟩ := I.list hq
    obtain ⟨u, hu, ru⟩ := rv.get hx
    obtain ⟨f0, f1, f2, f3, f4, f5⟩ := hf it (by simp)
    refine wpAny_pyNext_list_item st p.isList (x := u) (by simpa using hu) fun h' st' sb => ?_
    have I1 : Inv X pins σ H { s with heap := h' } := I.turned (t' := s.toks) (fun b o hb e => (sb.2 b hb).trans e) f0 f1 f3 f4 f5
    obtain ⟨o, e, c, d⟩ := id st'
    exact ⟨u, rfl, go_of (s := { s with heap := h' }) e c d (by decide) ⟨x, H, I1, ru, ⟨rfl, fun ys hy => by rw [I.list_inj hy hq]; exact hx⟩, st', fun b hb => (hf b hb).1⟩⟩
  done := by
    intro X hP hw hK hc i pins s σ H E I hf st hg
    subst hP hw hK
    obtain ⟨xs, hq, hx⟩ := hg
    obtain ⟨its, rv, p, hz⟩ := I.list hq
    obtain ⟨f0, f1, f2, f3, f4, f5⟩ := hf it (by simp)
    have hl := rv.length
    exact wpAny_pyNext_list_end (I.ok.hd hc) st p.isList (by simp; omega) fun h' eb => ⟨rfl, I.turned (t' := s.toks) (fun b o hb e => eb b o hb e) f0 f1 f3 f4 f5⟩
  self := fun _ _ _ _ _ st h => wpAny_pyIter_listiter st h
theorem turn_range {P : Program} {w : World} {K : PySem.W.Frag} {tg : Expr} (it : Addr) (lo : Int) (n : Nat) : Turn P w K tg (Itr lo n) [it] it (fun i h => IsRangeIter h it (lo + (i : Nat) * 1) ((n : Int) - (i : Nat)) 1) where
  mem := by simp
  obj := fun i h st b hb => by
    have e : b = it := by simpa using hb
    subst e
    exact ⟨_, st, fun v z => by
      have z' : Data.fields _ = Data.cell v := z
      cases z'⟩
  keep := fun i h h' st k => k it (by simp) _ st
  item := by
    intro X hP hw hK hc i pins s σ H E I hf st hg
    subst hP hw hK
    obtain ⟨f0, f1, f2, f3, f4, f5⟩ := hf it (by simp)
    have W := Walks.range (prog := X.prog) (w := X.w) (I.ok.hd hc) it lo 1 n
    refine W.item i s _ _ hg st fun v h' tk hv st' kk => ?_
    obtain ⟨t, rfl⟩ := hv
    have I1 : Inv X pins σ H { s with heap := h', toks := tk } := I.turned (fun b o hb e => kk b o (by simpa using hb) e) f0 f1 f3 f4 f5
    refine ⟨_, rfl, go_of (s := { s with heap := h', toks := tk }) (n := "range_iterator") st' rfl rfl (by decide) ⟨.int (lo + i), H, I1, ⟨t, ?_⟩, ⟨rfl, rfl⟩, st', fun b hb => (hf b hb).1⟩⟩
    rw [Int.mul_one]
  done := by
    intro X hP hw hK hc i pins s σ H E I hf st hg
    subst hP hw hK
    obtain ⟨f0, f1, f2, f3, f4, f5⟩ := hf it (by simp)
    exact wpAny_pyNext_range_end (I.ok.hd hc) st (by have : n ≤ i := hg; omega) fun h' eb => ⟨rfl, I.turned (t' := s.toks) (fun b o hb e => eb b o hb e) f0 f1 f3 f4 f5⟩
  self := fun _ _ _ _ _ st h => wpAny_pyIter_rangeiter st h
end L2
namespace L2
open PySem PySem.Spec PyProof.Rows
section
variable {X : Cx} {tg : Expr}
def iList (K : PySem.W.Frag) (tl : TE) : TI := fun σ H R => tl σ H fun x H1 => ∃ a, x = .ref a ∧ (∃ xs, SqL K H1 a xs) ∧ R (Itl K a) H1
theorem pi_list {l : Expr} {tl : TE} (hl : PE X l tl) : PI X tg l (iList X.K tl) := by
  intro pins s σ H R I h
  refine thn (hl pins s σ H _ I h) fun v s1 ⟨x, H1, I1, r1, q1⟩ => ?_
  obtain ⟨a, e, ⟨xs, hq⟩, q⟩ := q1
  subst e
  cases r1
  obtain ⟨its, rv, p, hz⟩ := I1.list hq
  refine wpAny_pyIter_list p.isList ?_
  refine ⟨s1.heap.objs.size, [s1.heap.objs.size], _, _, H1, rfl, I1.kept (t' := s1.toks) fun b o e => Heap.get?_push_of_some _ e, turn_list a _, ⟨_, Heap.get?_push_size _ rfl, rfl, rfl⟩, fun b hb => ?_, q⟩
  have e : b = s1.heap.objs.size := by simpa using hb
  subst e
  exact I1.fpOk (Nat.le_refl _) (I1.hok.fresh (Nat.le_refl _))
theorem range_it {pins : List (Addr × Obj)} {σ : St} {H : Hp} {s : Shared} {R : It → Hp → Prop} {E : Value → Shared → Prop} {lo hi : Int} {t u v : Tok} {tk : Nat} (I : Inv X pins σ H s) (h1 : -(2 ^ 62) ≤ lo) (h2 : lo < 2 ^ 62) (h3 : -(2 ^ 62) ≤ hi) (h4 : hi < 2 ^ 62)
    (q : R (Itr lo (hi - lo).toNat) H) : wpAny (model X.prog X.w) X.A (pyIter (.ref s.heap.objs.size)) (PIE X pins σ tg R) E { s with heap := s.heap.push { cls := .type "range", data := .fields #[.int lo t, .int hi u, .int 1 v] }, toks := tk } := by
  refine wpAny_pyIter_range (IsRange.new ..) (small_one h1 h2 h3 h4) ?_
  have I1 : Inv X pins σ H { s with heap := s.heap.push { cls := .type "range", data := .fields #[.int lo t, .int hi u, .int 1 v] }, toks := tk } := I.kept fun b o e => Heap.get?_push_of_some _ e
  refine ⟨(s.heap.push { cls := .type "range", data := .fields #[.int lo t, .int hi u, .int 1 v] }).objs.size, [(s.heap.push { cls := .type "range", data := .fields #[.int lo t, .int hi u, .int 1 v] }).objs.size], _, _, H, rfl,
    I1.kept (t' := tk) fun b o e => Heap.get?_push_of_some _ e, turn_range _ lo (hi - lo).toNat, ?_, fun b hb => ?_, q⟩
  · have e1 : lo + ((0 : Nat) : Int) * 1 = lo := by simp
    have e2 : (((hi - lo).toNat : Nat) : Int) - ((0 : Nat) : Int) = Builtin.Range.rangeSize lo hi 1 := by rw [rangeSize_one]; split <;> omega
    show IsRangeIter _ _ (lo + ((0 : Nat) : Int) * 1) ((((hi - lo).toNat : Nat) : Int) - ((0 : Nat) : Int)) 1
    rw [e1, e2]
    exact Heap.get?_push_size _ rfl
  · have e : b = (s.heap.push { cls := .type "range", data := .fields #[.int lo t, .int hi u, .int 1 v] }).objs.size := by simpa using hb
    subst e
    exact I1.fpOk (Nat.le_refl _) (I1.hok.fresh (Nat.le_refl _))
def iRng1 (ta : TA) : TI := fun σ H R => ta σ H fun vs H1 => ∃ j : Int, vs = [.int j] ∧ -(2 ^ 62) ≤ j ∧ j < 2 ^ 62 ∧ R (Itr 0 j.toNat) H1
theorem pi_range1 {a : Expr} {ta : TA} {p pos : Pos} (hg : Gl X "range") (hm : X.mg "range" = none) (ha : PA X [a] ta) (hs : starEach [a] X.env = [(false, eval a X.env)] := by rfl) : PI X tg (.Call (.Name "range" p) [a] [] pos) (iRng1 ta) := by
  intro pins s σ H R I h
  refine Call_ (ld_blt I hg hm boot_range (PyProof.Rows.callWith_type1 (thn (ha pos pins s σ H _ I h) fun us s1 ⟨vs, H1, I1, r1, q1⟩ => ?_) hs rfl))
  obtain ⟨j, e, q1, q2, q⟩ := q1
  subst e
  cases r1 with
  | cons r rr =>
    cases rr
    obtain ⟨t, rfl⟩ := r
    exact call_range_1 (range_it I1 (by omega) (by omega) q1 q2 (by simpa using q))
def tFor (wi : TI) (g : TG) (tb : TS) : TS := fun D σ H => wi σ H fun J H1 => ∃ W : Nat → Nat → St → Hp → Prop, (∃ m, W 0 m σ H1) ∧ ∀ i m σ H, W i m σ H →
  (J.stop i H ∧ D.nx σ H) ∨ (J.go i H ∧ ∃ N : St → Hp → Prop, (∀ σ' H', N σ' H' → ∃ m', m' < m ∧ W (i + 1) m' σ' H') ∧ ∀ x H', J.yld i H x H' → g x σ H' fun σ2 H2 => tb { D with nx := N, ct := N, bk := D.nx } σ2 H2)
def pinsAt (fp : List Addr) (h : Heap) : List (Addr × Obj) := fp.filterMap fun b => (h.get? b).map fun o => (b, o)
theorem mem_pinsAt {fp : List Addr} {h : Heap} {b : Addr} {o : Obj} (hb : b ∈ fp) (e : h.get? b = some o) : (b, o) ∈ pinsAt fp h := List.mem_filterMap.mpr ⟨b, hb, by rw [e]; rfl⟩
theorem of_pinsAt {fp : List Addr} {h : Heap} {p : Addr × Obj} (hp : p ∈ pinsAt fp h) : p.1 ∈ fp ∧ h.get? p.1 = some p.2 := by
  obtain ⟨b, hb, e⟩ := List.mem_filterMap.mp hp
  cases q : h.get? b with
  | none => rw [q] at e; cases e
  | some o =>
    rw [q] at e
    have e' : (b, o) = p := Option.some.inj e
    subst e'
    exact ⟨hb, q⟩
theorem Inv.pinned {pins : List (Addr × Obj)} {σ : St} {H : Hp} {s : Shared} {fp : List Addr} (I : Inv X pins σ H s) (hf : ∀ b ∈ fp, FpOk X pins H b) (ho : ∀ b ∈ fp, ∃ o, s.heap.get? b = some o ∧ ∀ v, o.data ≠ .cell v) : Inv X (pins ++ pinsAt fp s.heap) σ H s :=
  I.pins_of fun p hp => (List.mem_append.mp hp).elim (fun z => I.pin p (List.mem_append_right _ z)) fun z => by
    obtain ⟨hb, e⟩ := of_pinsAt z
    obtain ⟨f0, f1, f2, _⟩ := hf p.1 hb
    obtain ⟨o, e', d⟩ := ho p.1 hb
    rw [e] at e'; cases e'
    exact ⟨e, f0, f1, f2, d⟩
theorem Inv.unpinned {pins pl : List (Addr × Obj)} {σ : St} {H : Hp} {s : Shared} (I : Inv X (pins ++ pl) σ H s) : Inv X pins σ H s := I.pins_of fun p hp => I.pin p (List.mem_append_right _ (List.mem_append_left _ hp))
theorem ps_for {iter : Expr} {body : List Stmt} {wi : TI} {g : TG} {tb : TS} {pos : Pos} (hp : PassesOwn (model X.prog X.w) X.A X.env X.xe) (hc : X.calm = true) (hi : PI X tg iter wi) (hg : PG X tg g) (hb : PSs X body tb)
    (hs : ∀ x, foldedSetIterable iter X.env x = pure x := by intro _; rfl) : PS X (.For tg iter body [] pos) (tFor wi g tb) := by
  intro pins s σ H D I h
  refine wpAny_For (thn (hi pins s σ H _ I h) fun v s1 h1 => thn h1 fun itv s2 h2 => ?_) hs
  obtain ⟨it, fp, tn, J, H2, e, I2, T, st2, f2, W, ⟨m0, w0⟩, turn⟩ := h2
  subst e
  -- what stays true of the iterator's objects through the loop
  have stat : ∀ {H' : Hp}, (∀ b ∈ fp, H' b = none) → ∀ b ∈ fp, FpOk X pins H' b := fun hn b hb => ⟨hn b hb, (f2 b hb).2⟩
  refine codeAny_forLoop_any (fun n s' => ∃ i σ' H', Inv X pins σ' H' s' ∧ tn i s'.heap ∧ (∀ b ∈ fp, H' b = none) ∧ W i n σ' H') ?_ m0 ⟨0, σ, H2, I2, st2, fun b hb => (f2 b hb).1, w0⟩
  rintro n s3 ⟨i, σ3, H3, I3, st3, fr3, w3⟩
  rcases turn i n σ3 H3 w3 with ⟨stop, qn⟩ | ⟨go, N, hN, step⟩
  · refine wpAny_passesOwn hp (thn (T.done X rfl rfl rfl hc i pins s3 σ3 H3 X.xe I3 (stat fr3) st3 stop) fun r s4 ⟨hr, I4⟩ => ?_)
    subst hr
    exact wpAny_execs_nil ⟨σ3, H3, I4, qn⟩
  · refine wpAny_passesOwn hp (thn (T.item X rfl rfl rfl hc i pins s3 σ3 H3 X.xe I3 (stat fr3) st3 go) fun r s4 ⟨u, hr, h4⟩ => ?_)
    subst hr
    refine wpAny_passesOwn hp (thn h4 fun _ s5 ⟨x, H5, I5, r5, y5, st5, fr5⟩ => ?_)
    have I5' := I5.pinned (stat fr5) (T.obj _ _ st5)
    refine wpAny_passesOwn hp (thn (hg _ s5 σ3 H5 x u _ I5' r5 (step x H5 y5)) fun _ s6 ⟨σ6, H6, I6, q6⟩ => ?_)
    refine wpAny_passesOwn hp (thn (hb _ s6 σ6 H6 _ I6 q6) fun f s7 q7 => ?_)
    have again : ∀ {σ7 : St} {H7 : Hp}, Inv X (pins ++ pinsAt fp s5.heap) σ7 H7 s7 → N σ7 H7 → ∃ m, m < n ∧ ∃ i σ' H', Inv X pins σ' H' s7 ∧ tn i s7.heap ∧ (∀ b ∈ fp, H' b = none) ∧ W i m σ' H' := fun {σ7 H7} I7 n7 => by
      obtain ⟨m', hm, w7⟩ := hN σ7 H7 n7
      refine ⟨m', hm, i + 1, σ7, H7, I7.unpinned, T.keep _ _ _ st5 fun b hb o e => (I7.pin (b, o) (List.mem_append_right _ (List.mem_append_right _ (mem_pinsAt hb e)))).1, fun b hb => ?_, w7⟩
      obtain ⟨o, e, d⟩ := T.obj _ _ st5 b hb
      exact (I7.pin (b, o) (List.mem_append_right _ (List.mem_append_right _ (mem_pinsAt hb e)))).2.1
    cases f with
    | next => obtain ⟨σ7, H7, I7, n7⟩ := q7; exact again I7 n7
    | cont => obtain ⟨σ7, H7, I7, n7⟩ := q7; exact again I7 n7
    | brk => obtain ⟨σ7, H7, I7, q7⟩ := q7; exact ⟨σ7, H7, I7.unpinned, q7⟩
    | ret v => obtain ⟨x7, σ7, H7, I7, r7, q7⟩ := q7; exact ⟨x7, σ7, H7, I7.unpinned, r7, q7⟩
end
theorem for_list {K : PySem.W.Frag} {a : Addr} {xs : List V} {g : TG} {tb : TS} {D : Ends} {σ : St} {H : Hp} (Pv : Nat → St → Hp → Prop) (h0 : Pv 0 σ H) (hl : ∀ i σ H, i ≤ xs.length → Pv i σ H → SqL K H a xs)
    (hs : ∀ i x σ H, xs[i]? = some x → Pv i σ H → g x σ H fun σ2 H2 => tb { D with nx := Pv (i + 1), ct := Pv (i + 1), bk := D.nx } σ2 H2) (hd : ∀ σ H, Pv xs.length σ H → D.nx σ H) :
    ∃ W : Nat → Nat → St → Hp → Prop, (∃ m, W 0 m σ H) ∧ ∀ i m σ H, W i m σ H →
      ((Itl K a).stop i H ∧ D.nx σ H) ∨ ((Itl K a).go i H ∧ ∃ N : St → Hp → Prop, (∀ σ' H', N σ' H' → ∃ m', m' < m ∧ W (i + 1) m' σ' H') ∧ ∀ x H', (Itl K a).yld i H x H' → g x σ H' fun σ2 H2 => tb { D with nx := N, ct := N, bk := D.nx } σ2 H2) := by
  refine ⟨fun i m σ H => m = xs.length - i ∧ i ≤ xs.length ∧ Pv i σ H, ⟨xs.length, by simp, Nat.zero_le _, h0⟩, ?_⟩
  rintro i m σ H ⟨rfl, hi, p⟩
  have q := hl i σ H hi p
  by_cases hlt : i < xs.length
  · refine .inr ⟨⟨xs, xs[i], q, by simp [hlt]⟩, Pv (i + 1), fun σ' H' p' => ⟨xs.length - (i + 1), by omega, rfl, hlt, p'⟩, fun x H' y => ?_⟩
    obtain ⟨e, y⟩ := y
    subst e
    exact hs i x σ _ (y xs q) p
  · have e : i = xs.length := by omega
    subst e
    exact .inl ⟨⟨xs, q, Nat.le_refl _⟩, hd σ H p⟩
end L2
namespace L2
open PySem PySem.Spec PyProof.Rows
abbrev R2 := V → V → Hp → VK → Prop
def OpR (X : Cx) (f : Value → Value → Sem Value) (r : R2) : Prop :=
  ∀ (pins : List (Addr × Obj)) (s : Shared) (σ : St) (H : Hp) (x y : V) (v u : Value) (Q : VK), Inv X pins σ H s → RelV x v → RelV y u → r x y H Q →
    wpAny (model X.prog X.w) X.A (f v u) (EP X pins σ Q) X.xe s
def UnR (X : Cx) (f : Value → Sem Value) (r : V → Hp → VK → Prop) : Prop :=
  ∀ (pins : List (Addr × Obj)) (s : Shared) (σ : St) (H : Hp) (x : V) (v : Value) (Q : VK), Inv X pins σ H s → RelV x v → r x H Q →
    wpAny (model X.prog X.w) X.A (f v) (EP X pins σ Q) X.xe s
def CallR (X : Cx) (f : Value) (r : List V → Hp → VK → Prop) : Prop :=
  ∀ (pins : List (Addr × Obj)) (s : Shared) (σ : St) (H : Hp) (xs : List V) (us : List Value) (Q : VK), Inv X pins σ H s → Vals xs us → r xs H Q →
    wpAny (model X.prog X.w) X.A (call f us) (EP X pins σ Q) X.xe s
def TruR (X : Cx) (r : V → Hp → (Bool → Hp → Prop) → Prop) : Prop :=
  ∀ (pins : List (Addr × Obj)) (s : Shared) (σ : St) (H : Hp) (x : V) (v : Value) (Q : Bool → Hp → Prop), Inv X pins σ H s → RelV x v → r x H Q →
    wpAny (model X.prog X.w) X.A (truthy v) (TP X pins σ Q) X.xe s
def tOp (r : R2) (ta tb : TE) : TE := fun σ H Q => ta σ H fun x H1 => tb σ H1 fun y H2 => r x y H2 Q
def tUn (r : V → Hp → VK → Prop) (ta : TE) : TE := fun σ H Q => ta σ H fun x H1 => r x H1 Q
def rI (C : Int → Int → Prop) (g : Int → Int → V) : R2 := fun x y H Q => ∃ i j, x = .int i ∧ y = .int j ∧ C i j ∧ Q (g i j) H
def rI0 (g : Int → Int → V) : R2 := fun x y H Q => ∃ i j, x = .int i ∧ y = .int j ∧ Q (g i j) H
def rU (g : Int → V) : V → Hp → VK → Prop := fun x H Q => ∃ i, x = .int i ∧ Q (g i) H
section
variable {X : Cx} {a b c : Expr} {ta tb tc : TE} {pos : Pos}
theorem binT (ha : PE X a ta) (hb : PE X b tb) {pins : List (Addr × Obj)} {s : Shared} {σ : St} {H : Hp} {R : V → V → Hp → Prop} (I : Inv X pins σ H s)
    (h : ta σ H fun x H1 => tb σ H1 fun y H2 => R x y H2) {Q : Value → Shared → Prop} {f : Value → Value → Sem Value}
    (hf : ∀ v u s2 x y H2, Inv X pins σ H2 s2 → RelV x v → RelV y u → R x y H2 → wpAny (model X.prog X.w) X.A (f v u) Q X.xe s2) :
    wpAny (model X.prog X.w) X.A (eval a X.env) (fun v s₁ => wpAny (model X.prog X.w) X.A (eval b X.env) (fun u s₂ => wpAny (model X.prog X.w) X.A (f v u) Q X.xe s₂) X.xe s₁) X.xe s := by
  refine thn (ha pins s σ H _ I h) fun v s1 ⟨x, H1, I1, r1, q1⟩ => ?_
  refine thn (hb pins s1 σ H1 _ I1 q1) fun u s2 ⟨y, H2, I2, r2, q2⟩ => ?_
  exact hf v u s2 x y H2 I2 r1 r2 q2
theorem pe_op {op : Operator} {r : R2} (ho : OpR X (binaryOp op) r) (ha : PE X a ta) (hb : PE X b tb) : PE X (.BinOp a op b pos) (tOp r ta tb) := by
  intro pins s σ H Q I h
  exact wpAny_BinOp (binT ha hb I h fun v u s2 x y H2 I2 rx ry q => ho pins s2 σ H2 x y v u Q I2 rx ry q)
theorem pe_un {op : UnaryOp} {r : V → Hp → VK → Prop} (ho : UnR X (unaryOp op) r) (ha : PE X a ta) : PE X (.UnaryOp op a pos) (tUn r ta) := by
  intro pins s σ H Q I h
  exact UnaryOp_ (thn (ha pins s σ H _ I h) fun v s1 ⟨x, H1, I1, r1, q1⟩ => ho pins s1 σ H1 x v Q I1 r1 q1)
theorem opI {f : Value → Value → Sem Value} {C : Int → Int → Prop} {g : Int → Int → Int}
    (rule : ∀ (i j : Int) (t u : Tok) (s : Shared) (Q : Value → Shared → Prop) (E : Value → Shared → Prop), C i j → Q (.int (g i j) s.toks) { s with toks := s.toks + 1 } → wpAny (model X.prog X.w) X.A (f (.int i t) (.int j u)) Q E s) :
    OpR X f (rI C fun i j => .int (g i j)) := by
  intro pins s σ H x y v u Q I rx ry h
  obtain ⟨i, j, rfl, rfl, hc, q⟩ := h
  obtain ⟨t, rfl⟩ := rx
  obtain ⟨t', rfl⟩ := ry
  exact rule i j t t' s _ _ hc ⟨.int (g i j), H, I.tok _, ⟨_, rfl⟩, q⟩
theorem opI0 {f : Value → Value → Sem Value} {g : Int → Int → Int}
    (rule : ∀ (i j : Int) (t u : Tok) (s : Shared) (Q : Value → Shared → Prop) (E : Value → Shared → Prop), Q (.int (g i j) s.toks) { s with toks := s.toks + 1 } → wpAny (model X.prog X.w) X.A (f (.int i t) (.int j u)) Q E s) :
    OpR X f (rI0 fun i j => .int (g i j)) := by
  intro pins s σ H x y v u Q I rx ry h
  obtain ⟨i, j, rfl, rfl, q⟩ := h
  obtain ⟨t, rfl⟩ := rx
  obtain ⟨t', rfl⟩ := ry
  exact rule i j t t' s _ _ ⟨.int (g i j), H, I.tok _, ⟨_, rfl⟩, q⟩
theorem opB0 {f : Value → Value → Sem Value} {g : Int → Int → Bool}
    (rule : ∀ (i j : Int) (t u : Tok) (s : Shared) (Q : Value → Shared → Prop) (E : Value → Shared → Prop), Q (.bool (g i j)) s → wpAny (model X.prog X.w) X.A (f (.int i t) (.int j u)) Q E s) :
    OpR X f (rI0 fun i j => .bl (g i j)) := by
  intro pins s σ H x y v u Q I rx ry h
  obtain ⟨i, j, rfl, rfl, q⟩ := h
  obtain ⟨t, rfl⟩ := rx
  obtain ⟨t', rfl⟩ := ry
  exact rule i j t t' s _ _ ⟨.bl (g i j), H, I, rfl, q⟩
def CPow (i j : Int) : Prop := 0 ≤ j ∧ j ≤ 1000000 ∧ i.natAbs < 2 ^ 64
def CMul (i j : Int) : Prop := (-(2 ^ 64) < i ∧ i < 2 ^ 64) ∨ (-(2 ^ 64) < j ∧ j < 2 ^ 64)
theorem CMul.ok {i j : Int} (h : CMul i j) : IntMulOk i j := by
  rcases h with ⟨h1, h2⟩ | ⟨h1, h2⟩
  · exact .of_left (intBits_le_64 h1 h2)
  · exact .of_right (intBits_le_64 h1 h2)
theorem two_pow_nn (k : Nat) : (0 : Int) ≤ 2 ^ k := by
  rw [two_pow_cast]
  exact Int.natCast_nonneg _
theorem op_add : OpR X (binaryOp .Add) (rI0 fun i j => .int (i + j)) := opI0 fun _ _ _ _ _ _ _ q => add_int q
theorem op_sub : OpR X (binaryOp .Sub) (rI0 fun i j => .int (i - j)) := opI0 fun _ _ _ _ _ _ _ q => sub_int q
theorem op_mul : OpR X (binaryOp .Mult) (rI CMul fun i j => .int (i * j)) := opI fun _ _ _ _ _ _ _ hc q => mul_int q hc.ok
theorem op_mod : OpR X (binaryOp .Mod) (rI (fun _ j => 0 < j) fun i j => .int (i % j)) := opI fun i j _ _ _ _ _ hc q => by
  have h1 : (0 : Int) < j := hc
  exact mod_int' (by omega) (by rw [Int.fmod_eq_emod_of_nonneg i (by omega)]; exact q)
theorem op_shl : OpR X (binaryOp .LShift) (rI CPow fun i j => .int (i * 2 ^ j.toNat)) := opI fun _ _ _ _ _ _ _ hc q => lshift_int_small hc.1 hc.2.1 hc.2.2 q
theorem op_shr : OpR X (binaryOp .RShift) (rI (fun _ j => 0 ≤ j) fun i j => .int (i / 2 ^ j.toNat)) := opI fun i j _ _ _ _ _ hc q =>
  rshift_int hc (by rw [Int.fdiv_eq_ediv_of_nonneg i (two_pow_nn _)]; exact q)
theorem op_and : OpR X (binaryOp .BitAnd) (rI0 fun i j => .int (Builtin.bitAnd i j)) := opI0 fun _ _ _ _ _ _ _ q => and_int q
theorem op_or : OpR X (binaryOp .BitOr) (rI0 fun i j => .int (Builtin.bitOr i j)) := opI0 fun _ _ _ _ _ _ _ q => or_int q
theorem unI {f : Value → Sem Value} {g : Int → Int}
    (rule : ∀ (i : Int) (t : Tok) (s : Shared) (Q : Value → Shared → Prop) (E : Value → Shared → Prop), Q (.int (g i) s.toks) { s with toks := s.toks + 1 } → wpAny (model X.prog X.w) X.A (f (.int i t)) Q E s) :
    UnR X f (rU fun i => .int (g i)) := by
  intro pins s σ H x v Q I rx h
  obtain ⟨i, rfl, q⟩ := h
  obtain ⟨t, rfl⟩ := rx
  exact rule i t s _ _ ⟨.int (g i), H, I.tok _, ⟨_, rfl⟩, q⟩
theorem un_neg : UnR X (unaryOp .USub) (rU fun i => .int (-i)) := unI fun _ _ _ _ _ q => neg_int q
end
def scal : V → V → Bool
  | .non, .non => true | .non, .int _ => true | .int _, .non => true | .non, .bl _ => true | .bl _, .non => true | .non, .str _ => true | .str _, .non => true
  | .int _, .int _ => true | .bl _, .bl _ => true | .str _, .str _ => true | .byt _, .byt _ => true
  | .int _, .str _ => true | .str _, .int _ => true | .bl _, .str _ => true | .str _, .bl _ => true
  | _, _ => false
def rEq : R2 := fun x y H Q => scal x y = true ∧ Q (.bl (decide (x = y))) H
def rNe : R2 := fun x y H Q => scal x y = true ∧ Q (.bl (!decide (x = y))) H
theorem dec_int {i j : Int} : decide (V.int i = V.int j) = (i == j) := by
  rw [Bool.eq_iff_iff]
  simp
theorem dec_bl {i j : Bool} : decide (V.bl i = V.bl j) = (i == j) := by
  rw [Bool.eq_iff_iff]
  simp
theorem dec_str {i j : Str} : decide (V.str i = V.str j) = (i == j) := by
  rw [Bool.eq_iff_iff]
  simp
theorem dec_byt {i j : Array UInt8} : decide (V.byt i = V.byt j) = (i.toList == j.toList) := by
  rw [Bool.eq_iff_iff]
  cases i
  cases j
  simp
section
variable {X : Cx} {a b c : Expr} {ta tb tc : TE} {pos : Pos}
theorem fin_bl {pins : List (Addr × Obj)} {σ : St} {H : Hp} {s : Shared} {Q : VK} {k k' : Bool} (I : Inv X pins σ H s) (q : Q (.bl k) H) (e : k = k') : EP X pins σ Q (.bool k') s := by
  subst e
  exact ⟨.bl k, H, I, rfl, q⟩
theorem op_eq : OpR X (compareOp .Eq) rEq := by
  intro pins s σ H x y v u Q I rx ry h
  obtain ⟨hs, q⟩ := h
  cases x with
  | non =>
    cases rx
    cases y with
    | non => cases ry; exact PySem.EqNone.eq_none_none (fin_bl I q (by simp))
    | bl j => cases ry; exact PySem.EqNone.eq_none_bool (fin_bl I q (by simp))
    | int j => obtain ⟨t', rfl⟩ := ry; exact PySem.EqNone.eq_none_int (fin_bl I q (by simp))
    | str j => obtain ⟨t', rfl⟩ := ry; exact PySem.EqNone.eq_none_str (fin_bl I q (by simp))
    | _ => exact absurd (show false = true from hs) Bool.false_ne_true
  | bl i =>
    cases rx
    cases y with
    | non => cases ry; exact PySem.EqNone.eq_bool_none (fin_bl I q (by simp))
    | bl j => cases ry; exact eq_bool (fin_bl I q dec_bl)
    | str j => obtain ⟨t', rfl⟩ := ry; exact PySem.EqMixed.eq_bool_str (fin_bl I q (by simp))
    | _ => exact absurd (show false = true from hs) Bool.false_ne_true
  | int i =>
    obtain ⟨t, rfl⟩ := rx
    cases y with
    | non => cases ry; exact PySem.EqNone.eq_int_none (fin_bl I q (by simp))
    | int j => obtain ⟨t', rfl⟩ := ry; exact eq_int (fin_bl I q dec_int)
    | str j => obtain ⟨t', rfl⟩ := ry; exact PySem.EqMixed.eq_int_str (fin_bl I q (by simp))
    | _ => exact absurd (show false = true from hs) Bool.false_ne_true
  | str i =>
    obtain ⟨t, rfl⟩ := rx
    cases y with
    | non => cases ry; exact PySem.EqNone.eq_str_none (fin_bl I q (by simp))
    | bl j => cases ry; exact PySem.EqMixed.eq_str_bool (fin_bl I q (by simp))
    | int j => obtain ⟨t', rfl⟩ := ry; exact PySem.EqMixed.eq_str_int (fin_bl I q (by simp))
    | str j => obtain ⟨t', rfl⟩ := ry; exact eq_str (fin_bl I q dec_str)
    | _ => exact absurd (show false = true from hs) Bool.false_ne_true
  | byt i =>
    obtain ⟨t, rfl⟩ := rx
    cases y with
    | byt j => obtain ⟨t', rfl⟩ := ry; exact PySem.W.eq_bytes (fin_bl I q dec_byt)
    | _ => exact absurd (show false = true from hs) Bool.false_ne_true
  | _ => cases y <;> exact absurd (show false = true from hs) Bool.false_ne_true
theorem op_ne : OpR X (compareOp .NotEq) rNe := by
  intro pins s σ H x y v u Q I rx ry h
  obtain ⟨hs, q⟩ := h
  cases x with
  | non =>
    cases rx
    cases y with
    | non => cases ry; exact PySem.EqNone.ne_none_none (fin_bl I q (by simp))
    | bl j => cases ry; exact PySem.EqNone.ne_none_bool (fin_bl I q (by simp))
    | int j => obtain ⟨t', rfl⟩ := ry; exact PySem.EqNone.ne_none_int (fin_bl I q (by simp))
    | str j => obtain ⟨t', rfl⟩ := ry; exact PySem.EqNone.ne_none_str (fin_bl I q (by simp))
    | _ => exact absurd (show false = true from hs) Bool.false_ne_true
  | bl i =>
    cases rx
    cases y with
    | non => cases ry; exact PySem.EqNone.ne_bool_none (fin_bl I q (by simp))
    | bl j => cases ry; exact ne_bool (fin_bl I q (congrArg not dec_bl))
    | str j => obtain ⟨t', rfl⟩ := ry; exact PySem.EqMixed.ne_bool_str (fin_bl I q (by simp))
    | _ => exact absurd (show false = true from hs) Bool.false_ne_true
  | int i =>
    obtain ⟨t, rfl⟩ := rx
    cases y with
    | non => cases ry; exact PySem.EqNone.ne_int_none (fin_bl I q (by simp))
    | int j => obtain ⟨t', rfl⟩ := ry; exact ne_int (fin_bl I q (congrArg not dec_int))
    | str j => obtain ⟨t', rfl⟩ := ry; exact PySem.EqMixed.ne_int_str (fin_bl I q (by simp))
    | _ => exact absurd (show false = true from hs) Bool.false_ne_true
  | str i =>
    obtain ⟨t, rfl⟩ := rx
    cases y with
    | non => cases ry; exact PySem.EqNone.ne_str_none (fin_bl I q (by simp))
    | bl j => cases ry; exact PySem.EqMixed.ne_str_bool (fin_bl I q (by simp))
    | int j => obtain ⟨t', rfl⟩ := ry; exact PySem.EqMixed.ne_str_int (fin_bl I q (by simp))
    | str j => obtain ⟨t', rfl⟩ := ry; exact ne_str (fin_bl I q (congrArg not dec_str))
    | _ => exact absurd (show false = true from hs) Bool.false_ne_true
  | byt i =>
    obtain ⟨t, rfl⟩ := rx
    cases y with
    | byt j => obtain ⟨t', rfl⟩ := ry; exact PySem.W.ne_bytes (fin_bl I q (congrArg not dec_byt))
    | _ => exact absurd (show false = true from hs) Bool.false_ne_true
  | _ => cases y <;> exact absurd (show false = true from hs) Bool.false_ne_true
theorem op_lt : OpR X (compareOp .Lt) (rI0 fun i j => .bl (decide (i < j))) := opB0 fun _ _ _ _ _ _ _ q => lt_int q
theorem op_le : OpR X (compareOp .LtE) (rI0 fun i j => .bl (decide (i ≤ j))) := opB0 fun _ _ _ _ _ _ _ q => le_int q
theorem op_gt : OpR X (compareOp .Gt) (rI0 fun i j => .bl (decide (j < i))) := opB0 fun _ _ _ _ _ _ _ q => gt_int q
theorem op_ge : OpR X (compareOp .GtE) (rI0 fun i j => .bl (decide (j ≤ i))) := opB0 fun _ _ _ _ _ _ _ q => ge_int q
theorem op_isN : OpR X (compareOp .Is) (fun x y H Q => y = .non ∧ Q (.bl (decide (x = .non))) H) := by
  intro pins s σ H x y v u Q I rx ry h
  obtain ⟨rfl, q⟩ := h
  cases ry
  refine is_none_gen (fin_bl I q ?_)
  cases x <;> first
    | (cases rx; rfl)
    | (obtain ⟨t, rfl⟩ := rx; rfl)
theorem nomark (b : Expr) {op : CmpOp} (h : op ≠ .In := by decide) (h2 : op ≠ .NotIn := by decide) : behindInMarks op b = false := by
  have e1 : (op == CmpOp.In) = false := by cases op <;> first | rfl | exact absurd rfl h
  have e2 : (op == CmpOp.NotIn) = false := by cases op <;> first | rfl | exact absurd rfl h2
  cases b <;> simp [behindInMarks, e1, e2]
theorem pe_cmpR {op : CmpOp} {r : R2} (ho : OpR X (compareOp op) r) (ha : PE X a ta) (hb : PE X b tb) (hm : behindInMarks op b = false) : PE X (.Compare a [op] [b] pos) (tOp r ta tb) := by
  intro pins s σ H Q I h
  exact wpAny_Compare1 (binT ha hb I h fun v u s2 x y H2 I2 rx ry q => ho pins s2 σ H2 x y v u Q I2 rx ry q) hm
def tTest (t : TE) : TT := fun σ H Q => t σ H fun x H' => ∃ k, x = .bl k ∧ Q k H'
theorem pt_cmpR {op : CmpOp} {r : R2} (ho : OpR X (compareOp op) r) (ha : PE X a ta) (hb : PE X b tb) (hm : behindInMarks op b = false) : PT X (.Compare a [op] [b] pos) (tTest (tOp r ta tb)) := by
  intro pins s σ H Q I h
  refine wpAny_isTrue_Compare1 (thn (ha pins s σ H _ I h) fun v s1 ⟨x, H1, I1, r1, q1⟩ => thn (hb pins s1 σ H1 _ I1 q1) fun u s2 ⟨y, H2, I2, r2, q2⟩ =>
    thn (ho pins s2 σ H2 x y v u _ I2 r1 r2 q2) fun c s3 ⟨z, H3, I3, r3, k, e, q3⟩ => ?_) hm
  subst e
  cases r3
  exact wpAny_truthy_bool ⟨H3, I3, q3⟩
def tChain (r r' : R2) (ta tb tc : TE) : TE := fun σ H Q => ta σ H fun x H1 => tb σ H1 fun y H2 => r x y H2 fun z H3 => ∃ k, z = .bl k ∧
  (if k = true then tc σ H3 fun w' H4 => r' y w' H4 Q else Q (.bl false) H3)
theorem pe_chain {op op' : CmpOp} {r r' : R2} (ho : OpR X (compareOp op) r) (ho' : OpR X (compareOp op') r') (ha : PE X a ta) (hb : PE X b tb) (hc : PE X c tc)
    (hm : lastMarks [op, op'] [b, c] = false := by with_unfolding_all rfl) : PE X (.Compare a [op, op'] [b, c] pos) (tChain r r' ta tb tc) := by
  intro pins s σ H Q I h
  refine Compare_chain (thn (ha pins s σ H _ I h) fun v s1 ⟨x, H1, I1, r1, q1⟩ => chain_link (thn (hb pins s1 σ H1 _ I1 q1) fun u s2 ⟨y, H2, I2, r2, q2⟩ =>
    thn (ho pins s2 σ H2 x y v u _ I2 r1 r2 q2) fun d s3 ⟨z, H3, I3, r3, k, e, q3⟩ => ?_)) hm
  subst e
  cases r3
  refine wpAny_truthy_bool ?_
  cases k with
  | false => exact ite_ff ⟨.bl false, H3, I3, rfl, q3⟩
  | true => exact ite_tt (chain_last (thn (hc pins s3 σ H3 _ I3 q3) fun w' s4 ⟨z', H4, I4, r4, q4⟩ => ho' pins s4 σ H4 y z' u w' Q I4 r2 r4 q4))
theorem pt_chain {op op' : CmpOp} {r r' : R2} (ho : OpR X (compareOp op) r) (ho' : OpR X (compareOp op') r') (ha : PE X a ta) (hb : PE X b tb) (hc : PE X c tc)
    (hm : lastMarks [op, op'] [b, c] = false := by with_unfolding_all rfl) : PT X (.Compare a [op, op'] [b, c] pos) (tTest (tChain r r' ta tb tc)) := by
  intro pins s σ H Q I h
  refine isTrue_chain (thn (ha pins s σ H _ I h) fun v s1 ⟨x, H1, I1, r1, q1⟩ => test_link (thn (hb pins s1 σ H1 _ I1 q1) fun u s2 ⟨y, H2, I2, r2, q2⟩ =>
    thn (ho pins s2 σ H2 x y v u _ I2 r1 r2 q2) fun d s3 ⟨z, H3, I3, r3, k, e, q3⟩ => ?_)) hm
  subst e
  cases r3
  refine wpAny_truthy_bool ?_
  cases k with
  | false =>
    obtain ⟨k', e', q'⟩ := q3
    cases e'
    exact ite_ff ⟨H3, I3, q'⟩
  | true =>
    refine ite_tt (test_last (thn (hc pins s3 σ H3 _ I3 q3) fun w' s4 ⟨z', H4, I4, r4, q4⟩ => thn (ho' pins s4 σ H4 y z' u w' _ I4 r2 r4 q4) fun d' s5 ⟨z2, H5, I5, r5, k2, e2, q5⟩ => ?_))
    subst e2
    cases r5
    exact wpAny_truthy_bool ⟨H5, I5, q5⟩
def TruV (K : PySem.W.Frag) (x : V) (H : Hp) (k : Bool) : Prop :=
  match x with
  | .non => k = false
  | .bl b => k = b
  | .int i => k = (i != 0)
  | .str y => y.length ≤ sizeLine ∧ k = ((y.length : Int) != 0)
  | .byt y => y.size ≤ sizeLine ∧ k = ((y.size : Int) != 0)
  | .ref p => (∃ xs, SqL K H p xs ∧ k = !xs.isEmpty) ∨ (∃ xs, SqT K H p xs ∧ k = !xs.isEmpty) ∨ ∃ kvs, H p = some (.dK kvs) ∧ k = !kvs.isEmpty
  | _ => False
theorem isEmpty_kv {κ : Type} {kvs : List (κ × V)} {vs : List (κ × Value)} (r : KV kvs vs) : (!vs.isEmpty) = !kvs.isEmpty := by
  cases r <;> rfl
theorem isEmpty_of {xs : List V} {its : List Value} (r : Vals xs its) : (!its.toArray.isEmpty) = !xs.isEmpty := by
  cases r <;> simp
theorem line63 : (sizeLine : Nat) < 2 ^ 63 := by rw [sizeLine_eq]; decide
theorem tru_ok : TruR X (fun x H Q => ∃ k, TruV X.K x H k ∧ Q k H) := by
  intro pins s σ H x v Q I rx h
  obtain ⟨k, e, q⟩ := h
  have hl := line63
  have hs : sizeLine = 16777216 := sizeLine_eq
  cases x with
  | non =>
    cases rx
    have e' : k = false := e
    subst e'
    exact truthy_none ⟨H, I, q⟩
  | bl b =>
    cases rx
    have e' : k = b := e
    subst e'
    exact wpAny_truthy_bool ⟨H, I, q⟩
  | int i =>
    obtain ⟨t, rfl⟩ := rx
    have e' : k = (i != 0) := e
    subst e'
    exact PySem.P.truthy_int ⟨H, I, q⟩
  | str y =>
    obtain ⟨t, rfl⟩ := rx
    obtain ⟨hy, e'⟩ : y.length ≤ sizeLine ∧ k = ((y.length : Int) != 0) := e
    subst e'
    exact PySem.P.truthy_str (by omega) ⟨H, I.tok _, q⟩
  | byt y =>
    obtain ⟨t, rfl⟩ := rx
    obtain ⟨hy, e'⟩ : y.size ≤ sizeLine ∧ k = ((y.size : Int) != 0) := e
    subst e'
    exact PySem.W.truthy_bytes (by omega) ⟨H, I.tok _, q⟩
  | ref p =>
    cases rx
    have e' : (∃ xs, SqL X.K H p xs ∧ k = !xs.isEmpty) ∨ (∃ xs, SqT X.K H p xs ∧ k = !xs.isEmpty) ∨ ∃ kvs, H p = some (.dK kvs) ∧ k = !kvs.isEmpty := e
    rcases e' with ⟨xs, hx, e'⟩ | ⟨xs, hx, e'⟩ | ⟨kvs, hx, e'⟩
    · subst e'
      obtain ⟨its, r, pl, hz⟩ := I.list hx
      have hlen := r.length
      exact wpAny_truthy_list pl.isList (by simp only [List.size_toArray]; omega) ⟨H, I.tok _, by rw [isEmpty_of r]; exact q⟩
    · subst e'
      obtain ⟨its, r, pl, hz⟩ := I.tuple hx
      have hlen := r.length
      exact truthy_tuple pl (by simp only [List.size_toArray]; omega) ⟨H, I.tok _, by rw [isEmpty_of r]; exact q⟩
    · subst e'
      obtain ⟨hz, hS, vs, r, m⟩ : kvs.length ≤ sizeLine ∧ (p == sysModules) = false ∧ ∃ vs, KV kvs vs ∧ s.heap.DictOf (mixKind X.prog X.w) p vs := I.hok p _ hx
      have hlen : kvs.length = vs.length := Paired.length r
      exact wpAny_truthy_dict hS m (by omega) ⟨H, I.tok _, by rw [isEmpty_kv r]; exact q⟩
  | _ => exact (show False from e).elim
theorem pt_truth (ha : PE X a ta) (he : ∀ whole, isTrue a X.env whole = (do let v ← whole; standAt a.pos; holding [v] (truthy v))) :
    PT X a (fun σ H Q => ta σ H fun x H' => ∃ k, TruV X.K x H' k ∧ Q k H') := by
  intro pins s σ H Q I h
  exact isTrue_plain (thn (ha pins s σ H _ I h) fun v s1 ⟨x, H1, I1, r1, q1⟩ => tru_ok pins s1 σ H1 x v Q I1 r1 q1) (he _)
theorem vals1 {x : V} {us : List Value} (r : Vals [x] us) : ∃ u, us = [u] ∧ RelV x u := by
  cases r with
  | cons r1 r2 => cases r2; exact ⟨_, rfl, r1⟩
theorem vals2 {x y : V} {us : List Value} (r : Vals [x, y] us) : ∃ u w', us = [u, w'] ∧ RelV x u ∧ RelV y w' := by
  cases r with
  | cons r1 r2 =>
    cases r2 with
    | cons r3 r4 => cases r4; exact ⟨_, _, rfl, r1, r3⟩
theorem call_abs : CallR X (.builtin "abs") (fun xs H Q => ∃ i, xs = [.int i] ∧ Q (.int (if i < 0 then -i else i)) H) := by
  intro pins s σ H xs us Q I r h
  obtain ⟨i, rfl, q⟩ := h
  obtain ⟨u, rfl, t, rfl⟩ := vals1 r
  exact call_abs_int fun u tk => ⟨.int (if i < 0 then -i else i), H, I.tok _, ⟨_, rfl⟩, q⟩
theorem call_max2 (hc : X.calm = true) : CallR X (.builtin "max") (fun xs H Q => ∃ i j, xs = [.int i, .int j] ∧ Q (.int (if j > i then j else i)) H) := by
  intro pins s σ H xs us Q I r h
  obtain ⟨i, j, rfl, q⟩ := h
  obtain ⟨u, w', rfl, ⟨t, rfl⟩, ⟨t', rfl⟩⟩ := vals2 r
  refine max_two_ints (I.ok.hd hc) fun h' tk k => ⟨_, H, I.kept k, ?_, q⟩
  by_cases hj : j > i
  · rw [if_pos hj, if_pos hj]; exact ⟨_, rfl⟩
  · rw [if_neg hj, if_neg hj]; exact ⟨_, rfl⟩
end
end L2
namespace L2
open PySem PySem.Spec PyProof.Rows
structure ObjM (h : Heap) (x dx C : Addr) (mA : Str → Option Value) : Prop where
  obj : h.get? x = some (PySem.W.instObj C dx)
  ns : h.Ns1 dx mA
  ne : dx ≠ x
theorem lookIn_ns {h : Heap} {dx : Addr} {mA : Str → Option Value} (n : h.Ns1 dx mA) : ∃ od, h.get? dx = some od ∧ ∀ name, PySem.W.lookIn name od = some (mA name) := by
  obtain ⟨o, es, ep, ho, hd, hk, _, hm⟩ := n
  refine ⟨o, ho, fun name => ?_⟩
  have e := hm name
  unfold nsFind findBy at e
  rw [← Array.find?_toList] at e
  unfold PySem.W.lookIn
  rw [hd]
  dsimp only
  split
  · rename_i y q
    rw [q] at e
    exact congrArg some e
  · rename_i q
    rw [q] at e
    have a : es.toList.any (·.refKey) = false := by
      rw [List.any_eq_false]
      intro y hy
      obtain ⟨z, t, hkey⟩ := hk y (Array.mem_toList_iff.mp hy)
      simp [DictEntry.refKey, hkey]
    have a' : ¬ es.toList.any (·.refKey) = true := by rw [a]; exact Bool.false_ne_true
    rw [if_neg a']
    exact congrArg some e
theorem ObjM.look {h : Heap} {x dx C : Addr} {mA : Str → Option Value} (I : ObjM h x dx C mA) : ∃ od, PySem.W.InstAt h x (PySem.W.instObj C dx) C (some od) ∧ ∀ name, PySem.W.lookIn name od = some (mA name) :=
  let ⟨od, ho, hl⟩ := lookIn_ns I.ns
  ⟨od, ⟨I.obj, rfl, rfl, ho⟩, hl⟩
section
variable {prog : Program} {w : World} {A : Around} {E : Value → Shared → Prop} {s : Shared} {K : PySem.W.Frag} {x dx C f : Addr} {mA : Str → Option Value} {name : Str} {v : Value}
theorem get_map {expr : Bool} {Q : Value → Shared → Prop} (X : K.In s.heap) (I : ObjM s.heap x dx C mA) (hg : PySem.W.plainGet K C name = true) (hh : PySem.W.hasDictIn K C = true)
    (ha : PySem.W.findIn K (.ref C) name = some none) (hv : mA name = some v) (hv' : PySem.W.handedIn v = true) (h : Q v { s with toks := s.toks + 1 }) :
    wpAny (model prog w) A (getAttr (.ref x) name expr) Q E s := by
  obtain ⟨od, J, hl⟩ := I.look
  exact PySem.W.get_value X J (PySem.W.plainGet_of hg).1 (PySem.W.findObj_own hh ha rfl (by rw [hl, hv])) hv' h
theorem get_meth {pl : Sem Bool} {Q : Value × List Value → Shared → Prop} (X : K.In s.heap) (I : ObjM s.heap x dx C mA) (hg : PySem.W.plainGet K C name = true)
    (hf : PySem.W.findIn K (.ref C) name = some (some (.ref f))) (ht : PySem.W.isFn K (.ref f) = true) (hv : mA name = none) (h : Q (.ref f, [.ref x]) s) :
    wpAny (model prog w) A (getMethod (.ref x) name pl) Q E s := by
  obtain ⟨od, J, hl⟩ := I.look
  exact PySem.W.method_fn X J (PySem.W.plainGet_of hg).1 (PySem.W.plainGet_of hg).2 hf (beq_iff_eq.mp ht) (by show (PySem.W.lookIn name od).map (·.isSome) = some false; rw [hl, hv]; rfl) h
theorem set_map {ns : List Str} {Q : Unit → Shared → Prop} (X : K.In s.heap) (I : ObjM s.heap x dx C mA)
    (hs : PySem.W.findIn K (.ref C) "__setattr__" = some (some (.builtin "object.__setattr__"))) (hp : PySem.W.plainOver K C = true) (ht : PySem.W.takerIn K C name = some none) (hh : PySem.W.hasDictIn K C = true)
    (hw : PySem.Within mA ns) (hsz : ns.length ≤ sizeLine)
    (h : ∀ h', ObjM h' x dx C (fun y => if y = name then some v else mA y) → Heap.SameBut dx s.heap h' → Q () { s with heap := h', toks := s.toks + 2 }) :
    wpAny (model prog w) A (setAttr (.ref x) name v) Q E s := by
  obtain ⟨od, J, hl⟩ := I.look
  refine PySem.W.set_plain X J hs (PySem.W.osa_open (s := { s with toks := s.toks + 1 }) (r := none) X J hp ht fun b => ?_)
  obtain ⟨cd, hc, hd'⟩ := PySem.W.any_some hh
  have hx : s.heap.get? x = some ⟨.ref C, some dx, .plain, #[]⟩ := I.obj
  refine wpAny_bind (wpAny_pure (wpAny_bind (wpAny_bind (wpAny_loadPart hx (wpAny_bind (PySem.W.Looks.here (s := { s with toks := s.toks + 1 }) (PySem.W.looks_clsIn X hc) ?_))))))
  rw [hd']
  refine wpAny_pure (a := some dx) (wpAny_bind (wpAny_pure (wpAny_bind ?_)))
  refine wpAny_nsSet1 (s := { s with toks := s.toks + 1 }) I.ns fun h' hn2 hs2 => ?_
  obtain ⟨oD, esD, epD, hoD, hdD, hcD⟩ := hn2.count (PySem.Within.cons name v hw)
  refine wpAny_bind (wpAny_lookBehind hoD (by rw [hdD]; exact pastItsLine_dict (Nat.le_trans hcD (by rw [List.length_cons]; omega))) ?_)
  exact wpAny_pure (h _ ⟨(hs2.2 _ (Ne.symm I.ne)).trans I.obj, hn2, I.ne⟩ hs2)
theorem make_map {R : Result → Shared → Prop} {vs : List Value} {kw : List (Str × Value)} (X : K.In s.heap) (hm : PySem.W.makesIn K C = true)
    (hi : PySem.W.findIn K (.ref C) "__init__" = some (some (.ref f))) (hf : PySem.W.typeIn K (.ref f) = some (.type "function"))
    (h : codeAny (model prog w) (A.under (.builtin "type.__call__" ⟨.ref C :: vs, kw⟩)) (.call (.ref f) ⟨.ref (s.heap.objs.size + 1) :: vs, kw⟩) (PySem.W.InitBack (s.heap.objs.size + 1) R)
      { s with heap := (s.heap.push PySem.W.emptyDict).push (PySem.W.instObj C s.heap.objs.size) }) :
    codeAny (model prog w) A (.call (.ref C) ⟨vs, kw⟩) R s := by
  obtain ⟨hh, g, d, t, os⟩ := s
  exact PySem.W.make_core (PySem.W.makes_of X hm) (PySem.W.looks_findIn X hi) (fun self => PySem.W.bind_fn X self hf) (.inl rfl) h
end
def putF (f : Str) (v : V) : List (Str × V) → List (Str × V)
  | [] => [(f, v)]
  | (g, x) :: r => if g = f then (g, v) :: r else (g, x) :: putF f v r
theorem lookup_putF (f g : Str) (v : V) : ∀ fs : List (Str × V), (putF f v fs).lookup g = if g = f then some v else fs.lookup g
  | [] => by
    show List.lookup g [(f, v)] = _
    by_cases h : g = f
    · have hb : (g == f) = true := beq_iff_eq.mpr h
      simp only [List.lookup, hb, if_pos h]
    · have hb : (g == f) = false := beq_eq_false_iff_ne.mpr h
      simp only [List.lookup, hb, if_neg h]
  | (k, x) :: r => by
    have ih := lookup_putF f g v r
    rw [show putF f v ((k, x) :: r) = (if k = f then (k, v) :: r else (k, x) :: putF f v r) from rfl]
    by_cases hk : k = f
    · rw [if_pos hk]
      by_cases h : g = k
      · have hb : (g == k) = true := beq_iff_eq.mpr h
        simp only [List.lookup, hb, if_pos (h.trans hk)]
      · have hb : (g == k) = false := beq_eq_false_iff_ne.mpr h
        simp only [List.lookup, hb, if_neg (fun e : g = f => h (e.trans hk.symm))]
    · rw [if_neg hk]
      by_cases h : g = k
      · have hb : (g == k) = true := beq_iff_eq.mpr h
        simp only [List.lookup, hb, if_neg (fun e : g = f => hk (h.symm.trans e))]
      · have hb : (g == k) = false := beq_eq_false_iff_ne.mpr h
        simp only [List.lookup, hb]
        exact ih
theorem keys_putF (f : Str) (v : V) : ∀ fs : List (Str × V), f ∈ (putF f v fs).map (·.1) ∧ ∀ g, g ∈ fs.map (·.1) → g ∈ (putF f v fs).map (·.1)
  | [] => ⟨by simp [putF], fun g h => by simp at h⟩
  | (k, x) :: r => by
    obtain ⟨i1, i2⟩ := keys_putF f v r
    rw [show putF f v ((k, x) :: r) = (if k = f then (k, v) :: r else (k, x) :: putF f v r) from rfl]
    by_cases hk : k = f
    · rw [if_pos hk]
      subst hk
      exact ⟨by simp, fun g h => by simpa using h⟩
    · rw [if_neg hk]
      refine ⟨?_, fun g h => ?_⟩
      · rw [List.map_cons]
        exact List.mem_cons_of_mem _ i1
      · rw [List.map_cons] at h ⊢
        rcases List.mem_cons.mp h with e | e
        · exact List.mem_cons.mpr (.inl e)
        · exact List.mem_cons_of_mem _ (i2 g e)
theorem length_putF (f : Str) (v : V) : ∀ fs : List (Str × V), (putF f v fs).length ≤ fs.length + 1
  | [] => by simp [putF]
  | (k, x) :: r => by
    have ih := length_putF f v r
    rw [show putF f v ((k, x) :: r) = (if k = f then (k, v) :: r else (k, x) :: putF f v r) from rfl]
    by_cases hk : k = f
    · rw [if_pos hk, List.length_cons, List.length_cons]; omega
    · rw [if_neg hk, List.length_cons, List.length_cons]; omega
theorem RelO.some_of {v : V} {o : Option Value} (r : RelO (some v) o) : ∃ u, o = some u ∧ RelV v u := by
  cases o with
  | none => exact (show False from r).elim
  | some u => exact ⟨u, rfl, r⟩
theorem RelO.none_of {o : Option Value} (r : RelO none o) : o = none := by
  cases o with
  | none => rfl
  | some u => exact (show False from r).elim
theorem handed_of {v : V} {u : Value} (r : RelV v u) : PySem.W.handedIn u = true := by
  cases v with
  | non => cases (show u = Value.none from r); rfl
  | bl b => cases (show u = Value.bool b from r); rfl
  | int i => obtain ⟨t, e⟩ := (show ∃ t, u = Value.int i t from r); cases e; rfl
  | str x => obtain ⟨t, e⟩ := (show ∃ t, u = Value.str x t from r); cases e; rfl
  | byt b => obtain ⟨t, e⟩ := (show ∃ t, u = Value.bytes b t from r); cases e; rfl
  | flt b => obtain ⟨t, e⟩ := (show ∃ t, u = Value.float b t from r); cases e; rfl
  | ref a => cases (show u = Value.ref a from r); rfl
  | ty n => cases (show u = Value.type n from r); rfl
section
variable {P : Program} {w : World} {H H' : Hp} {h h' : Heap} {a C dx : Addr} {fs fs' : List (Str × V)}
theorem ins_get (hok : HOk P w H h) (e : H a = some (.ins C dx fs)) : ∃ mA, ObjM h a dx C mA ∧ (∀ f, RelO (fs.lookup f) (mA f)) ∧ PySem.Within mA (fs.map (·.1)) ∧ fs.length ≤ 1000 ∧ H dx = some (.own a) := by
  obtain ⟨d, z, ne, ob, mA, n, r, q⟩ := (show ObjOk P w H h a (.ins C dx fs) from hok a _ e)
  exact ⟨mA, ⟨ob, n, ne⟩, r, q, z, d⟩
end
structure Cls (K : PySem.W.Frag) (C : Addr) : Prop where
  pg : PySem.W.plainGet K C Str.empty = true
  hd : PySem.W.hasDictIn K C = true
  po : PySem.W.plainOver K C = true
  sa : PySem.W.findIn K (.ref C) "__setattr__" = some (some (.builtin "object.__setattr__"))
theorem Cls.get {K : PySem.W.Frag} {C : Addr} (c : Cls K C) (f : Str) : PySem.W.plainGet K C f = true := c.pg
def NoAttr (K : PySem.W.Frag) (C : Addr) (f : Str) : Prop := PySem.W.findIn K (.ref C) f = some none
theorem NoAttr.taker {K : PySem.W.Frag} {C : Addr} {f : Str} (n : NoAttr K C f) : PySem.W.takerIn K C f = some none := by
  unfold PySem.W.takerIn
  rw [show PySem.W.findIn K (.ref C) f = some none from n]
  rfl
structure Con (K : PySem.W.Frag) (C : Addr) (f : Str) (v : V) (u : Value) : Prop where
  at_ : PySem.W.findIn K (.ref C) f = some (some u)
  rel : RelV v u
  get : PySem.W.specialIn K u "__get__" = some none
  cp : PySem.W.copiedNames.contains f = false
structure Meth (K : PySem.W.Frag) (C : Addr) (m : Str) (f : Addr) : Prop where
  at_ : PySem.W.findIn K (.ref C) m = some (some (.ref f))
  fn : PySem.W.isFn K (.ref f) = true
  kp : PySem.W.keepIn K (.ref f) = true
section
variable {X : Cx} {pins : List (Addr × Obj)} {σ : St} {H : Hp} {s : Shared} {a C dx : Addr} {fs : List (Str × V)} {f : Str} {v : V} {A : Around} {E : Value → Shared → Prop}
theorem getattr_ok {b : Bool} {Q : Value → Shared → Prop} (I : Inv X pins σ H s) (e : H a = some (.ins C dx fs)) (c : Cls X.K C) (n : NoAttr X.K C f) (l : fs.lookup f = some v)
    (h : ∀ u s', Inv X pins σ H s' → RelV v u → Q u s') : wpAny (model X.prog X.w) A (getAttr (.ref a) f b) Q E s := by
  obtain ⟨mA, O, r, _, _, _⟩ := ins_get I.hok e
  obtain ⟨u, hu, ru⟩ := RelO.some_of (v := v) (o := mA f) (by rw [← l]; exact r f)
  exact get_map I.kIn O (c.get f) c.hd n hu (handed_of ru) (h u _ (I.tok _) ru)
theorem getmeth_ok {m : Str} {g : Addr} {pl : Sem Bool} {Q : Value × List Value → Shared → Prop} (I : Inv X pins σ H s) (e : H a = some (.ins C dx fs)) (c : Cls X.K C) (k : Meth X.K C m g) (l : fs.lookup m = none)
    (h : Q (.ref g, [.ref a]) s) : wpAny (model X.prog X.w) A (getMethod (.ref a) m pl) Q E s := by
  obtain ⟨mA, O, r, _, _, _⟩ := ins_get I.hok e
  have hn : mA m = none := RelO.none_of (by rw [← l]; exact r m)
  exact get_meth I.kIn O (c.get m) k.at_ k.fn hn h
theorem setattr_ok {y : V} {u : Value} {Q : Unit → Shared → Prop} (I : Inv X pins σ H s) (e : H a = some (.ins C dx fs)) (c : Cls X.K C) (n : NoAttr X.K C f) (hl : fs.length < 1000) (ry : RelV y u)
    (h : ∀ s', Inv X pins σ (upd H a (.ins C dx (putF f y fs))) s' → Q () s') : wpAny (model X.prog X.w) A (setAttr (.ref a) f u) Q E s := by
  obtain ⟨mA, O, r, wi, _, ho⟩ := ins_get I.hok e
  have hz : (fs.map (·.1)).length ≤ sizeLine := by rw [List.length_map, sizeLine_eq]; omega
  refine set_map I.kIn O c.sa c.po n.taker c.hd wi hz fun h' O' sb => h _ ?_
  have hd : ∃ o, h'.get? dx = some o := let ⟨o, _, _, e', _⟩ := O'.ns; ⟨o, e'⟩
  refine I.write (x := a) (e := dx) (by rw [e]; exact True.intro) (.inr ho) (fun b q hb z => (sb.2 b hb).trans z) hd ?_
  refine ⟨by rw [upd_ne O.ne]; exact ho, ?_, O.ne, O'.obj, _, O'.ns, fun g => ?_, fun g hg => ?_⟩
  · have := length_putF f y fs; omega
  · show RelO ((putF f y fs).lookup g) (if g = f then some u else mA g)
    rw [lookup_putF]
    by_cases q : g = f
    · rw [if_pos q, if_pos q]; exact ry
    · rw [if_neg q, if_neg q]; exact r g
  · by_cases q : g = f
    · rw [q]; exact (keys_putF f y fs).1
    · refine (keys_putF f y fs).2 g (wi g fun z => hg ?_)
      show (if g = f then some u else mA g) = none
      rw [if_neg q]; exact z
theorem Inv.made (I : Inv X pins σ H s) : Inv X pins σ (upd (upd H s.heap.objs.size (.own (s.heap.objs.size + 1))) (s.heap.objs.size + 1) (.ins C s.heap.objs.size []))
    { s with heap := (s.heap.push PySem.W.emptyDict).push (PySem.W.instObj C s.heap.objs.size) } := by
  have e1 : (s.heap.push PySem.W.emptyDict).get? s.heap.objs.size = some PySem.W.emptyDict := Heap.get?_push_size s.heap rfl
  have e2 : ((s.heap.push PySem.W.emptyDict).push (PySem.W.instObj C s.heap.objs.size)).get? (s.heap.objs.size + 1) = some (PySem.W.instObj C s.heap.objs.size) := by
    have := Heap.get?_push_size (s.heap.push PySem.W.emptyDict) (o := PySem.W.instObj C s.heap.objs.size) rfl
    rwa [Heap.size_push] at this
  have e3 : (s.heap.push PySem.W.emptyDict).Ns s.heap.objs.size (fun _ => none) := ⟨PySem.W.emptyDict, #[], _, e1, rfl, (fun e he => absurd he (by simp)), fun _ => rfl⟩
  have I1 := I.laid (a := s.heap.objs.size) (o := .own (s.heap.objs.size + 1)) (h' := s.heap.push PySem.W.emptyDict) (t' := s.toks) (fun b u q => Heap.get?_push_of_some _ q) (Nat.le_refl _) ⟨_, e1⟩
  refine I1.laid (a := s.heap.objs.size + 1) (o := .ins C s.heap.objs.size []) (t' := s.toks) (fun b u q => Heap.get?_push_of_some _ q) (Nat.le_of_eq (Heap.size_push _ _)) ?_
  have ne : s.heap.objs.size ≠ s.heap.objs.size + 1 := Nat.ne_of_lt (Nat.lt_succ_self _)
  refine ⟨by rw [upd_ne ne, upd_same], Nat.zero_le _, ne, e2, fun _ => none, (Heap.Ns1.of_empty e3).at fun o q => Heap.get?_push_of_some _ q, fun _ => True.intro, fun y hy => absurd rfl hy⟩
theorem attr_of {prog : Program} {w : World} {env : Env} {e : Expr} {f : Str} {pos : Pos} {s : Shared} {Q : Value → Shared → Prop} (hb : attributeBase e f env (eval e env) = eval e env)
    (h : wpAny (model prog w) A (eval e env) (fun o s₁ => wpAny (model prog w) A (getAttr o f true) Q E s₁) E s) : wpAny (model prog w) A (eval (.Attribute e f pos) env) Q E s :=
  Attribute_any_ h (by rw [arm_eval_Attribute, hb])
end
def tFld (K : PySem.W.Frag) (ta : TE) (f : Str) : TE := fun σ H Q => ta σ H fun x H1 => ∃ a C dx fs v, x = .ref a ∧ H1 a = some (.ins C dx fs) ∧ Cls K C ∧ NoAttr K C f ∧ fs.lookup f = some v ∧ Q v H1
def sFld (K : PySem.W.Frag) (ta tv : TE) (f : Str) : TS := fun D σ H => tv σ H fun y H1 => ta σ H1 fun x H2 => ∃ a C dx fs, x = .ref a ∧ H2 a = some (.ins C dx fs) ∧ Cls K C ∧ NoAttr K C f ∧ fs.length < 1000 ∧
  D.nx σ (upd H2 a (.ins C dx (putF f y fs)))
section
variable {X : Cx} {o e value : Expr} {f : Str} {pos pos' tpos : Pos} {ta tv : TE}
theorem pe_fld (he : PE X e ta) (hb : attributeBase e f X.env (eval e X.env) = eval e X.env) : PE X (.Attribute e f pos) (tFld X.K ta f) := by
  intro pins s σ H Q I h
  refine attr_of hb (thn (he pins s σ H _ I h) fun u s1 ⟨x, H1, I1, rx, a, C, dx, fs, v, ex, ea, c, n, l, q⟩ => ?_)
  subst ex
  obtain rfl : u = Value.ref a := rx
  exact getattr_ok I1 ea c n l fun u' s2 I2 ru => ⟨v, H1, I2, ru, q⟩
theorem ps_fld (ha : PE X o ta) (hv : PE X value tv) (hs : swapsWith value (some (.Attribute o f pos')) pos.line X.env = pure false) : PS X (.Assign [.Attribute o f pos'] value pos) (sFld X.K ta tv f) := by
  intro pins s σ H D I h
  refine plainObj_wpAny_Assign_Attribute (thn (hv pins s σ H _ I h) fun u s1 ⟨y, H1, I1, ry, q⟩ => thn (ha pins s1 σ H1 _ I1 q) fun ov s2 ⟨x, H2, I2, rx, a, C, dx, fs, ex, ea, c, n, l, q2⟩ => ?_) hs
  subst ex
  obtain rfl : ov = Value.ref a := rx
  exact setattr_ok I2 ea c n l ry fun s3 I3 => ⟨σ, _, I3, q2⟩
end
section
variable {X : Cx} {pins : List (Addr × Obj)} {σ : St} {H : Hp} {s : Shared} {A : Around} {E : Value → Shared → Prop} {Q : Value → Shared → Prop} {c : Value} {b : Bool}
inductive TyOf (K : PySem.W.Frag) (H : Hp) : V → Value → Prop where
  | non : TyOf K H .non (.type "NoneType")
  | bl (x : Bool) : TyOf K H (.bl x) (.type "bool")
  | int (i : Int) : TyOf K H (.int i) (.type "int")
  | str (x : Str) : TyOf K H (.str x) (.type "str")
  | flt (x : UInt64) : TyOf K H (.flt x) (.type "float")
  | lst {a : Addr} {xs : List V} (e : H a = some (.lst xs)) : TyOf K H (.ref a) (.type "list")
  | frz {a : Addr} {o : Obj} {xs : List V} (e : H a = some (.frz o (.lst xs))) : TyOf K H (.ref a) (.type "list")
  | tup {a : Addr} {xs : List V} (e : H a = some (.tup xs)) : TyOf K H (.ref a) (.type "tuple")
  | dK {a : Addr} {kvs : List (Key × V)} (e : H a = some (.dK kvs)) : TyOf K H (.ref a) (.type "dict")
  | dT {a : Addr} {kvs : List (List Key × V)} (e : H a = some (.dT kvs)) : TyOf K H (.ref a) (.type "dict")
  | ins {a C dx : Addr} {fs : List (Str × V)} (e : H a = some (.ins C dx fs)) (cl : Cls K C) (ha : PySem.W.findIn K (.ref C) "__class__" = some (some (.builtin "object.__class__")))
      (hn : PySem.W.specialIn K (.builtin "object.__class__") "__get__" = some (some (.builtin "getset_descriptor.__get__"))) (htk : PySem.W.takesIn K (.builtin "object.__class__") = some true)
      (hm : PySem.W.mroIn K C (.type "object") = some true) : TyOf K H (.ref a) (.ref C)
end
end L2
namespace L2
open PySem PySem.Spec PyProof.Rows
structure Room (k : Nat) (A : Around) : Prop where
  hd : A.handled = none
  dp : A.depth + 3 * k + 5 < recursionLimit
  un : A.units + 16 * k + 200 < cLine
theorem Room.mono {j k : Nat} {A : Around} (r : Room k A) (h : j ≤ k) : Room j A := ⟨r.hd, by have := r.dp; omega, by have := r.un; omega⟩
theorem Room.deeper {k : Nat} {A : Around} (r : Room (k + 1) A) (env : Env) : Room k (A.deeper env) :=
  ⟨r.hd, by have := r.dp; show A.depth + 1 + 3 * k + 5 < _; omega, by have := r.un; show A.units + 3 + 16 * k + 200 < _; omega⟩
theorem Room.in1 {k : Nat} {A : Around} (r : Room (k + 1) A) : Room k A.in1 :=
  ⟨r.hd, by have := r.dp; show A.depth + 3 * k + 5 < _; omega, by have := r.un; show A.units + 1 + 16 * k + 200 < _; omega⟩
theorem make_depth {A : Around} {C : Addr} {us : List Value} {kw : List (Str × Value)} : (A.under (.builtin "type.__call__" ⟨.ref C :: us, kw⟩)).depth = A.depth + 1 := by
  first | rfl | simp [Around.under, Code.weight, Code.isCreation, Code.isGuard, Code.isCaller, Code.frames, Code.isFrame, guardIds]
theorem make_units {A : Around} {C : Addr} {us : List Value} {kw : List (Str × Value)} : (A.under (.builtin "type.__call__" ⟨.ref C :: us, kw⟩)).units = A.units + 1 := by
  first | rfl | simp [Around.under, Code.cUnits, Code.frames, Code.isFrame]
theorem Room.make {k : Nat} {A : Around} (r : Room (k + 1) A) (C : Addr) (us : List Value) (kw : List (Str × Value)) : Room k (A.under (.builtin "type.__call__" ⟨.ref C :: us, kw⟩)) :=
  ⟨r.hd, by have := r.dp; rw [make_depth]; omega, by have := r.un; rw [make_units]; omega⟩
theorem Room.depth {k : Nat} {A : Around} (r : Room k A) : A.depth < recursionLimit := by have := r.dp; omega
theorem Room.units {k : Nat} {A : Around} (r : Room k A) : A.units + 64 < cLine := by have := r.un; omega
def tNil : TA := fun _ H Q => Q [] H
def tCons (ta : TE) (tr : TA) : TA := fun σ H Q => ta σ H fun x H1 => tr σ H1 fun xs H2 => Q (x :: xs) H2
section
variable {X : Cx} {e : Expr} {es : List Expr} {te : TE} {t : TA} {pos : Pos}
theorem pa_nil : PA X [] tNil := fun _ _ _ _ H Q I h => Calls.spliced_nil ⟨[], H, I, .nil, h⟩
theorem pa_cons (ha : PE X e te) (hr : PA X es t) (hs : starEach (e :: es) X.env = (false, eval e X.env) :: starEach es X.env := by rfl) : PA X (e :: es) (tCons te t) := by
  intro pos pins s σ H Q I h
  rw [hs]
  show wpAny _ _ (spliced ((false, eval e X.env) :: backTo pos (starEach es X.env))) _ _ s
  refine Calls.spliced_cons (thn (ha pins s σ H _ I h) fun u s1 ⟨x, H1, I1, r1, q1⟩ => ?_)
  exact thn (hr pos pins s1 σ H1 _ I1 q1) fun us s2 ⟨xs, H2, I2, r2, q2⟩ => ⟨x :: xs, H2, I2, .cons r1 r2, q2⟩
def tTup (t : TA) : TE := fun σ H Q => t σ H fun xs H1 => xs.length ≤ sizeLine ∧ ∀ p, H1 p = none → Q (.ref p) (upd H1 p (.tup xs))
def tLst (t : TA) : TE := fun σ H Q => t σ H fun xs H1 => xs.length ≤ sizeLine ∧ ∀ p, H1 p = none → Q (.ref p) (upd H1 p (.lst xs))
theorem pe_tup {x1} (h : PA X es t) : PE X (.Tuple es x1 pos) (tTup t) := by
  intro pins s σ H Q I hq
  refine wpAny_Tuple_spliced (thn (h pos pins s σ H _ I hq) fun us s1 ⟨xs, H1, I1, r, z, q⟩ => ⟨by rw [← r.length]; exact z, ?_⟩)
  have hf : H1 s1.heap.objs.size = none := I1.hok.fresh (Nat.le_refl _)
  refine ⟨.ref s1.heap.objs.size, upd H1 s1.heap.objs.size (.tup xs), I1.laid (t' := s1.toks) (fun b u e => Heap.get?_push_of_some _ e) (Nat.le_refl _) ?_, rfl, q _ hf⟩
  exact ⟨z, us, r, ⟨_, Heap.get?_push_size _ rfl, rfl, _, rfl⟩⟩
theorem pe_lst (h : PA X es t) : PE X (.List es pos) (tLst t) := by
  intro pins s σ H Q I hq
  refine wpAny_List_spliced (thn (h pos pins s σ H _ I hq) fun us s1 ⟨xs, H1, I1, r, z, q⟩ => ⟨by rw [← r.length]; exact z, ?_⟩)
  have hf : H1 s1.heap.objs.size = none := I1.hok.fresh (Nat.le_refl _)
  refine ⟨.ref s1.heap.objs.size, upd H1 s1.heap.objs.size (.lst xs), I1.laid (t' := s1.toks) (fun b u e => Heap.get?_push_of_some _ e) (Nat.le_refl _) ?_, rfl, q _ hf⟩
  exact ⟨z, us, 0, r, Heap.get?_push_size _ rfl⟩
end
abbrev Sp := List V → Hp → VK → XK → Prop
abbrev CXT := List Env → Hp → Shared → XK → Value → Shared → Prop
structure Env0 (P : Program) (w : World) (K : PySem.W.Frag) (mg : Str → Option Value) (base : Heap) (A : Around) (outer : List Env) (s : Shared) (H : Hp) : Prop where
  frames : A.frames = some outer
  mod : Mod K mg base
  bs : ∀ b o, base.get? b = some o → s.heap.get? b = some o ∧ H b = none
  bsz : base.objs.size ≤ s.heap.objs.size
  funs : s.heap.FunFrames base outer
  frf : ∀ b ∈ frs outer, H b = none
  hok : HOk P w H s.heap
  bare : AllBare s.gens
def CE (outer : List Env) (P : Program) (w : World) (H : Hp) (s : Shared) (Q : VK) (u : Value) (s' : Shared) : Prop :=
  ∃ v H', s'.os = s.os ∧ AllBare s'.gens ∧ Un (frs outer) [] H H' s.heap s'.heap ∧ HOk P w H' s'.heap ∧ RelV v u ∧ Q v H'
def CR (CX : CXT) (outer : List Env) (P : Program) (w : World) (H : Hp) (s : Shared) (Q : VK) (E : XK) (r : Result) (s' : Shared) : Prop :=
  match r with
  | .ok (.ret u) => CE outer P w H s Q u s'
  | .ok _ => False
  | .error e => CX outer H s E e s'
structure FnOk (P : Program) (w : World) (K : PySem.W.Frag) (mg : Str → Option Value) (base : Heap) (CX : CXT) (k : Nat) (f : Addr) (fd : FuncData) (ps : List Str) (sp : Sp) : Prop where
  len : ∀ vs H Q E, sp vs H Q E → vs.length = ps.length
  run : ∀ (A : Around) (outer : List Env) (s : Shared) (H : Hp) (args : Args) (us : List Value) (vs : List V) (Q : VK) (E : XK), Room k A → Env0 P w K mg base A outer s H → BindsTo s fd args (ps.zip us) → Vals vs us → sp vs H Q E →
    codeAny (model P w) A (.call (.ref f) args) (CR CX outer P w H s Q E) s
theorem Env0.make {P : Program} {w : World} {K : PySem.W.Frag} {mg : Str → Option Value} {base : Heap} {A : Around} {outer : List Env} {s : Shared} {H : Hp} (e : Env0 P w K mg base A outer s H) (C : Addr) (us : List Value) (kw : List (Str × Value)) :
    Env0 P w K mg base (A.under (.builtin "type.__call__" ⟨.ref C :: us, kw⟩)) outer s H := ⟨by first | exact e.frames | (simpa [Around.under, Code.envs, Code.isFrame, pushEnvs] using e.frames), e.mod, e.bs, e.bsz, e.funs, e.frf, e.hok, e.bare⟩
section
variable {X : Cx} {pins : List (Addr × Obj)} {σ : St} {H : Hp} {s s' : Shared}
theorem Inv.env0 (I : Inv X pins σ H s) : Env0 X.prog X.w X.K X.mg X.base X.A X.stack s H :=
  ⟨I.ok.frames, I.ok.mod, I.bs, Nat.le_trans I.ok.bsz I.sz, I.stack, I.stkFree, I.hok, I.bare⟩
theorem Inv.after {Q : VK} {u : Value} (I : Inv X pins σ H s) (h : CE X.stack X.prog X.w H s Q u s') : EP X pins σ Q u s' := by
  obtain ⟨v, H', os, bare, un, hok, r, q⟩ := h
  obtain ⟨hh, g, d, t, os'⟩ := s'
  obtain rfl : os' = s.os := os
  exact ⟨v, H', I.call (h' := hh) (g' := g) (d' := d) (t' := t) (ch := []) un hok bare (fun b z => absurd z (by simp)), r, q⟩
end
def tCall (sp : Sp) (dvs : List V) (E : XK) (t : TA) : TE := fun σ H Q => t σ H fun vs H1 => sp (vs ++ dvs) H1 Q E
def tMeth (C : Addr) (m : Str) (sp : Sp) (dvs : List V) (E : XK) (ta : TE) (t : TA) : TE := fun σ H Q => ta σ H fun x H1 => ∃ a dx fs, x = .ref a ∧ H1 a = some (.ins C dx fs) ∧ fs.lookup m = none ∧
  t σ H1 fun vs H2 => sp (x :: (vs ++ dvs)) H2 Q E
def tMake (C : Addr) (sp : Sp) (dvs : List V) (E : XK) (t : TA) : TE := fun σ H Q => t σ H fun vs H1 => ∀ x dx, H1 x = none → H1 dx = none → dx ≠ x →
  sp (.ref x :: (vs ++ dvs)) (upd (upd H1 dx (.own x)) x (.ins C dx [])) (fun v H2 => v = .non ∧ Q (.ref x) H2) E
def Binds (K : PySem.W.Frag) (fd : FuncData) (ps : List Str) (ds : List Value) : Prop :=
  ∀ (s : Shared) (us : List Value), K.In s.heap → (us ++ ds).length = ps.length → BindsTo s fd ⟨us, []⟩ (ps.zip (us ++ ds))
theorem Binds.all {K : PySem.W.Frag} {fd : FuncData} {ps : List Str} (h : ∀ us : List Value, us.length = ps.length → bindArgs fd ⟨us, []⟩ = pure (ps.zip us)) : Binds K fd ps [] := fun s us _ hl => by
  rw [List.append_nil] at hl ⊢
  exact .of_eq (h us hl)
def Passes (CX : CXT) (X : Cx) (E : XK) : Prop := ∀ (pins : List (Addr × Obj)) (σ : St) (H : Hp) (s : Shared) (e : Value) (s' : Shared), Inv X pins σ H s → CX X.stack H s E e s' → X.xe e s'
section
variable {X : Cx} {CX : CXT} {k : Nat} {f C : Addr} {fd : FuncData} {ps : List Str} {sp : Sp} {dvs : List V} {ds : List Value} {E : XK} {x m : Str} {p pos apos : Pos} {e o : Expr} {es : List Expr} {ta : TE} {t : TA}
theorem run_fn {pins : List (Addr × Obj)} {σ : St} {H : Hp} {s : Shared} {Q : VK} {us : List Value} {vs : List V} (F : FnOk X.prog X.w X.K X.mg X.base CX k f fd ps sp) (hr : Room k X.A) (hb : Binds X.K fd ps ds) (hd : Vals dvs ds) (hx : Passes CX X E)
    (I : Inv X pins σ H s) (r : Vals vs us) (h : sp (vs ++ dvs) H Q E) : wpAny (model X.prog X.w) X.A (call (.ref f) us) (EP X pins σ Q) X.xe s := by
  have r2 : Vals (vs ++ dvs) (us ++ ds) := r.append hd
  have hl : (us ++ ds).length = ps.length := by rw [← r2.length]; exact F.len _ _ _ _ h
  refine wpAny_call (codeAny_mono (F.run X.A X.stack s H ⟨us, []⟩ (us ++ ds) (vs ++ dvs) Q E hr I.env0 (hb s us I.kIn hl) r2 h) fun r s' hq => ?_)
  cases r with
  | error e => exact hx pins σ H s e s' I hq
  | ok fl =>
    cases fl with
    | ret u => exact I.after hq
    | next => exact False.elim hq
    | brk => exact False.elim hq
    | cont => exact False.elim hq
theorem pe_call (F : FnOk X.prog X.w X.K X.mg X.base CX k f fd ps sp) (hr : Room k X.A) (hg : Gl X x) (hm : X.mg x = some (.ref f)) (hk : PySem.W.keepIn X.K (.ref f) = true) (hb : Binds X.K fd ps ds) (hd : Vals dvs ds) (hx : Passes CX X E)
    (ha : PA X (e :: es) t) (hdb : (x == ("__debug__" : Str)) = false := by decide) (he : starEach (e :: es) X.env = (false, eval e X.env) :: starEach es X.env := by rfl) (hpl : (backTo pos (starEach es X.env)).any (·.1) = false := by rfl) :
    PE X (.Call (.Name x p) (e :: es) [] pos) (tCall sp dvs E t) := by
  intro pins s σ H Q I h
  refine wpAny_Call_Name_kw (ld_glob I hg hm ?_ hdb)
  refine PySem.W.callWith_K (h₀ := X.base) I.ok.mod.kin hk (thn (ha pos pins s σ H _ I h) fun us s1 ⟨vs, H1, I1, r, q⟩ => ⟨I1.kIn, ?_⟩) he hpl
  exact run_fn F hr hb hd hx I1 r q
theorem pe_meth {pl : Sem Bool} (he : PE X o ta) (c : Cls X.K C) (hm : Meth X.K C m f) (F : FnOk X.prog X.w X.K X.mg X.base CX k f fd ps sp) (hr : Room k X.A) (hb : Binds X.K fd ps ds) (hd : Vals dvs ds) (hx : Passes CX X E) (ha : PA X (e :: es) t)
    (hst : starEach (e :: es) X.env = (false, eval e X.env) :: starEach es X.env := by rfl) (hpl : (backTo pos (starEach es X.env)).any (·.1) = false := by rfl)
    (ht : eval (.Call (.Attribute o m apos) (e :: es) [] pos) X.env = (do
      let ov ← eval o X.env
      standAt apos.atName
      let (f, first) ← holding [ov] (getMethod ov m pl)
      callWith pos f first (backTo pos (starEach (e :: es) X.env)) (backToKw pos (keywordEach [] X.env))) := by rfl) :
    PE X (.Call (.Attribute o m apos) (e :: es) [] pos) (tMeth C m sp dvs E ta t) := by
  intro pins s σ H Q I h
  refine PySem.W.methodCall_KW (pl := pl) (thn (he pins s σ H _ I h) fun u s1 ⟨x, H1, I1, rx, a, dx, fs, ex, ea, l, q⟩ => ?_) ht
  subst ex
  obtain rfl : u = Value.ref a := rx
  refine getmeth_ok I1 ea c hm l ?_
  refine PySem.W.callWith_K (first := [.ref a]) (h₀ := X.base) I.ok.mod.kin hm.kp (thn (ha pos pins s1 σ H1 _ I1 q) fun us s2 ⟨vs, H2, I2, r, q2⟩ => ⟨I2.kIn, ?_⟩) hst hpl
  exact run_fn (us := .ref a :: us) (vs := .ref a :: vs) F hr hb hd hx I2 (.cons rfl r) q2
theorem pe_meth0 {pl : Sem Bool} (he : PE X o ta) (c : Cls X.K C) (hm : Meth X.K C m f) (F : FnOk X.prog X.w X.K X.mg X.base CX k f fd ps sp) (hr : Room k X.A) (hb : Binds X.K fd ps ds) (hd : Vals dvs ds) (hx : Passes CX X E)
    (ht : eval (.Call (.Attribute o m apos) [] [] pos) X.env = (do
      let ov ← eval o X.env
      standAt apos.atName
      let (f, first) ← holding [ov] (getMethod ov m pl)
      callWith pos f first (backTo pos (starEach [] X.env)) (backToKw pos (keywordEach [] X.env))) := by rfl) :
    PE X (.Call (.Attribute o m apos) [] [] pos) (tMeth C m sp dvs E ta tNil) := by
  intro pins s σ H Q I h
  refine PySem.W.methodCall_KW (pl := pl) (thn (he pins s σ H _ I h) fun u s1 ⟨x, H1, I1, rx, a, dx, fs, ex, ea, l, q⟩ => ?_) ht
  subst ex
  obtain rfl : u = Value.ref a := rx
  refine getmeth_ok I1 ea c hm l ?_
  exact PySem.W.callWith_K0 (first := [.ref a]) I1.kIn hm.kp (run_fn (us := [.ref a]) (vs := [.ref a]) F hr hb hd hx I1 (.cons rfl .nil) q)
structure Mk (K : PySem.W.Frag) (C f : Addr) : Prop where
  makes : PySem.W.makesIn K C = true
  init : PySem.W.findIn K (.ref C) "__init__" = some (some (.ref f))
  fn : PySem.W.isFn K (.ref f) = true
  kp : PySem.W.keepIn K (.ref C) = true
theorem run_make {pins : List (Addr × Obj)} {σ : St} {H : Hp} {s : Shared} {Q : VK} {us : List Value} {vs : List V} (M : Mk X.K C f) (F : FnOk X.prog X.w X.K X.mg X.base CX k f fd ps sp) (hr : Room (k + 1) X.A) (hb : Binds X.K fd ps ds) (hd : Vals dvs ds)
    (hx : Passes CX X E) (I : Inv X pins σ H s) (r : Vals vs us)
    (h : ∀ x dx, H x = none → H dx = none → dx ≠ x → sp (.ref x :: (vs ++ dvs)) (upd (upd H dx (.own x)) x (.ins C dx [])) (fun v H2 => v = .non ∧ Q (.ref x) H2) E) :
    wpAny (model X.prog X.w) X.A (call (.ref C) us) (EP X pins σ Q) X.xe s := by
  have hq := h (s.heap.objs.size + 1) s.heap.objs.size (I.hok.fresh (Nat.le_succ _)) (I.hok.fresh (Nat.le_refl _)) (Nat.ne_of_lt (Nat.lt_succ_self _))
  have I2 := Inv.made (C := C) I
  have r2 : Vals (V.ref (s.heap.objs.size + 1) :: (vs ++ dvs)) (Value.ref (s.heap.objs.size + 1) :: (us ++ ds)) := .cons rfl (r.append hd)
  have hl : (Value.ref (s.heap.objs.size + 1) :: us ++ ds).length = ps.length := by
    have e := r2.length
    rw [F.len _ _ _ _ hq] at e
    exact e.symm
  refine wpAny_call (make_map (f := f) I.kIn M.makes M.init (beq_iff_eq.mp M.fn) (codeAny_mono (F.run _ X.stack _ _ ⟨Value.ref (s.heap.objs.size + 1) :: us, []⟩ (Value.ref (s.heap.objs.size + 1) :: (us ++ ds)) _ _ E (hr.make C us [])
    (I2.env0.make C us []) (hb _ (Value.ref (s.heap.objs.size + 1) :: us) I2.kIn hl) r2 hq) fun r s' hq' => ?_))
  cases r with
  | error e => exact hx pins σ _ _ e s' I2 hq'
  | ok fl =>
    cases fl with
    | ret u =>
      obtain ⟨v, H', I3, rv, ev, q3⟩ := I2.after hq'
      subst ev
      exact ⟨rv, ⟨V.ref (s.heap.objs.size + 1), H', I3, rfl, q3⟩⟩
    | next => exact False.elim hq'
    | brk => exact False.elim hq'
    | cont => exact False.elim hq'
theorem pe_make (M : Mk X.K C f) (F : FnOk X.prog X.w X.K X.mg X.base CX k f fd ps sp) (hr : Room (k + 1) X.A) (hg : Gl X x) (hm : X.mg x = some (.ref C)) (hb : Binds X.K fd ps ds) (hd : Vals dvs ds) (hx : Passes CX X E)
    (ha : PA X (e :: es) t) (hdb : (x == ("__debug__" : Str)) = false := by decide) (he : starEach (e :: es) X.env = (false, eval e X.env) :: starEach es X.env := by rfl) (hpl : (backTo pos (starEach es X.env)).any (·.1) = false := by rfl) :
    PE X (.Call (.Name x p) (e :: es) [] pos) (tMake C sp dvs E t) := by
  intro pins s σ H Q I h
  refine wpAny_Call_Name_kw (ld_glob I hg hm ?_ hdb)
  refine PySem.W.callWith_K (h₀ := X.base) I.ok.mod.kin M.kp (thn (ha pos pins s σ H _ I h) fun us s1 ⟨vs, H1, I1, r, q⟩ => ⟨I1.kIn, ?_⟩) he hpl
  exact run_make M F hr hb hd hx I1 r q
theorem pe_make0 (M : Mk X.K C f) (F : FnOk X.prog X.w X.K X.mg X.base CX k f fd ps sp) (hr : Room (k + 1) X.A) (hg : Gl X x) (hm : X.mg x = some (.ref C)) (hb : Binds X.K fd ps ds) (hd : Vals dvs ds) (hx : Passes CX X E)
    (hdb : (x == ("__debug__" : Str)) = false := by decide) : PE X (.Call (.Name x p) [] [] pos) (tMake C sp dvs E tNil) := by
  intro pins s σ H Q I h
  refine wpAny_Call_Name_kw (ld_glob I hg hm ?_ hdb)
  exact PySem.W.callWith_K0 I.kIn M.kp (run_make (us := []) M F hr hb hd hx I .nil h)
end
section
variable {X : Cx} {CX : CXT} {k : Nat} {f C : Addr} {fd : FuncData} {ps ks : List Str} {sp : Sp} {E : XK} {x m : Str} {p pos apos kpos : Pos} {e o : Expr} {es : List Expr} {kws : List Keyword} {te ta : TE} {t tk : TA} {nm : Option Str}
structure KBinds (K : PySem.W.Frag) (fd : FuncData) (ps ks : List Str) (g : List Value → List Value → List Value) (gV : List V → List V → List V) : Prop where
  to : ∀ (s : Shared) (us ws : List Value), K.In s.heap → (g us ws).length = ps.length → BindsTo s fd ⟨us, ks.zip ws⟩ (ps.zip (g us ws))
  rel : ∀ {vs : List V} {us : List Value} {zs : List V} {ws : List Value}, Vals vs us → Vals zs ws → Vals (gV vs zs) (g us ws)
variable {g : List Value → List Value → List Value} {gV : List V → List V → List V}
end
structure FnScope (N P : List Str) (sc : Scope) : Prop where
  kind : sc.kind = .function
  co : sc.isCoroutine = false
  gen : sc.isGenerator = false
  nd : N.Nodup
  pre : N.take P.length = P
  par : ∀ x ∈ P, sc.names.lookup x = some .local ∨ sc.names.lookup x = some .cell
  nofree : ∀ y ∈ sc.names, y.2 ≠ .free
theorem bindL_out {kindOf : Str → Option NameKind} {x : Str} : ∀ {binds : List (Str × Value)} {m : Str → Option Value}, (∀ v, (x, v) ∉ binds) → bindL kindOf binds m x = m x
  | [], _, _ => rfl
  | (n, v) :: r, m, h => by
    unfold bindL
    rw [bindL_out fun w hw => h w (List.mem_cons_of_mem _ hw)]
    split
    · have : x ≠ n := by rintro rfl; exact h v List.mem_cons_self
      simp [this]
    · rfl
theorem bindC_out {kindOf : Str → Option NameKind} {x : Str} : ∀ {binds : List (Str × Value)} {m : Str → Option Value}, (∀ v, (x, v) ∉ binds) → bindC kindOf binds m x = m x
  | [], _, _ => rfl
  | (n, v) :: r, m, h => by
    unfold bindC
    rw [bindC_out fun w hw => h w (List.mem_cons_of_mem _ hw)]
    split
    · rfl
    · have : x ≠ n := by rintro rfl; exact h v List.mem_cons_self
      simp [this]
theorem bindL_get {kindOf : Str → Option NameKind} {x : Str} {v : Value} : ∀ {P : List Str} {vs : List Value} {i : Nat} {m : Str → Option Value}, P.Nodup → P[i]? = some x → vs[i]? = some v → kindOf x = some .local →
    bindL kindOf (P.zip vs) m x = some v
  | [], _, _, _, _, h, _, _ => by simp at h
  | _ :: _, [], _, _, _, _, h, _ => by simp at h
  | p :: P, w :: vs, 0, m, nd, h1, h2, hk => by
    simp at h1 h2; subst h1; subst h2
    show bindL kindOf ((p, w) :: P.zip vs) m p = _
    unfold bindL
    rw [bindL_out fun v hv => (List.nodup_cons.mp nd).1 (List.of_mem_zip hv).1, if_pos hk]
    simp
  | p :: P, w :: vs, i + 1, m, nd, h1, h2, hk => by
    show bindL kindOf ((p, w) :: P.zip vs) m x = _
    unfold bindL
    exact bindL_get (i := i) (List.nodup_cons.mp nd).2 (by simpa using h1) (by simpa using h2) hk
theorem bindC_get {kindOf : Str → Option NameKind} {x : Str} {v : Value} : ∀ {P : List Str} {vs : List Value} {i : Nat} {m : Str → Option Value}, P.Nodup → P[i]? = some x → vs[i]? = some v → kindOf x ≠ some .local →
    bindC kindOf (P.zip vs) m x = some v
  | [], _, _, _, _, h, _, _ => by simp at h
  | _ :: _, [], _, _, _, _, h, _ => by simp at h
  | p :: P, w :: vs, 0, m, nd, h1, h2, hk => by
    simp at h1 h2; subst h1; subst h2
    show bindC kindOf ((p, w) :: P.zip vs) m p = _
    unfold bindC
    rw [bindC_out fun v hv => (List.nodup_cons.mp nd).1 (List.of_mem_zip hv).1, if_neg hk]
    simp
  | p :: P, w :: vs, i + 1, m, nd, h1, h2, hk => by
    show bindC kindOf ((p, w) :: P.zip vs) m x = _
    unfold bindC
    exact bindC_get (i := i) (List.nodup_cons.mp nd).2 (by simpa using h1) (by simpa using h2) hk
def start (N : List Str) (vs : List V) : St := vs.map some ++ List.replicate (N.length - vs.length) none
def cxOf (CX : CXT) (P : Program) (w : World) (K : PySem.W.Frag) (mg : Str → Option Value) (base : Heap) (N : List Str) (qual : Str) (scope : Scope) (f : Addr) (cd : Value) (A : Around) (outer : List Env) (s : Shared) (H : Hp) (E : XK) : Cx where
  prog := P
  w := w
  K := K
  mg := mg
  base := base
  A := A.deeper (envOfC qual scope s.heap.objs.size f cd)
  N := N
  s_0 := s
  H_0 := H
  env := envOfC qual scope s.heap.objs.size f cd
  outer := outer
  stack := envOfC qual scope s.heap.objs.size f cd :: outer
  ex := []
  calm := true
  fn := fun _ => true
  pn := []
  xe := fun e s' => wpAny (model P w) (A.deeper (envOfC qual scope s.heap.objs.size f cd)) (leaving (envOfC qual scope s.heap.objs.size f cd) e) (fun _ s'' => CX outer H s E e s'') (fun e' s'' => CX outer H s E e' s'') s'
theorem cell_has {sc : Scope} {n : Nat} {x : Str} (h : sc.names.lookup x = some .cell) : ∃ c, (cellsFrom n sc.names []).lookup x = some c := by
  have q := PySem.W.cellsFrom_some sc.names n [] (.inl h)
  exact Option.isSome_iff_exists.mp q
theorem inv_start {CX : CXT} {P : Program} {w : World} {K : PySem.W.Frag} {mg : Str → Option Value} {base : Heap} {N ps : List Str} {qual : Str} {scope : Scope} {f : Addr} {cd : Value} {A : Around} {outer : List Env} {s s1 : Shared} {H : Hp} {E : XK} {us : List Value} {vs : List V}
    (S : FnScope N ps scope) (hd : A.handled = none) (e0 : Env0 P w K mg base A outer s H) (hl : vs.length = ps.length) (r : Vals vs us)
    (x : InCallC s s.heap.objs.size (bindL (envOfC qual scope s.heap.objs.size f cd).kindOf (ps.zip us) fun _ => none) (cellsFrom (s.heap.objs.size + 1) scope.names []) (bindC (envOfC qual scope s.heap.objs.size f cd).kindOf (ps.zip us) fun _ => none) s1) :
    Inv (cxOf CX P w K mg base N qual scope f cd A outer s H E) [] (start N vs) H s1 := by
  have hpl : ps.length ≤ N.length := by have := congrArg List.length S.pre; rw [List.length_take] at this; omega
  obtain ⟨h1, tk, rfl, hk⟩ := x.done
  have noA : ∀ b : Addr, b ∉ (cxOf CX P w K mg base N qual scope f cd A outer s H E).ex := fun b z => absurd (show b ∈ ([] : List Addr) from z) (by simp)
  refine ⟨⟨e0.mod, S.kind, rfl, rfl, Nat.le_refl _, fun y z c h1 h2 => ?_, fun y hy => ?_, fun y c _ h => ?_, fun _ => hd, Around.frames_deeper e0.frames, .inr ⟨rfl, rfl⟩, fun b z => absurd z (noA b), e0.bs, e0.bsz, fun b _ _ => noA b, fun b z => absurd z (noA b), e0.funs, e0.frf⟩,
    rfl, e0.bare, Un.kept hk, ⟨_, x.toInCall.ns, fun i y v h1 h2 h3 => ?_⟩, fun y c h => ⟨_, x.cell y c h⟩, e0.hok.fresh (Nat.le_refl _), fun y c h => ?_, fun p hp => absurd (show p ∈ ([] : List (Addr × Obj)) from hp) (by simp), e0.hok.kept hk, ?_⟩
  · exact name_of_addr x.apart (PySem.mem_of_lookup h1) (PySem.mem_of_lookup h2)
  · have hy : scope.names.lookup y = some .cell ∨ scope.names.lookup y = some .free := hy
    rcases hy with hy | hy
    · exact cell_has hy
    · exact absurd rfl (S.nofree _ (PySem.mem_of_lookup hy))
  · exact Nat.le_of_lt (x.above y c (PySem.mem_of_lookup h))
  · have hi : i < vs.length := by
      unfold start at h2
      by_cases hi : i < vs.length
      · exact hi
      · rw [List.getElem?_append_right (by simpa using hi)] at h2
        rw [List.getElem?_replicate] at h2
        split at h2 <;> cases h2
    have ha : vs[i]? = some v := by
      unfold start at h2
      rw [List.getElem?_append_left (by simpa using hi), List.getElem?_map] at h2
      cases e : vs[i]? with
      | none => rw [e] at h2; cases h2
      | some a => rw [e] at h2; cases h2; rfl
    obtain ⟨u, hu, rv⟩ := r.get ha
    have hp : ps[i]? = some y := by
      rw [← S.pre, List.getElem?_take_of_lt (by omega)]; exact h1
    have ndP : ps.Nodup := by rw [← S.pre]; exact S.nd.sublist (List.take_sublist _ _)
    refine ⟨u, rv, ?_⟩
    rcases S.par y (List.mem_of_getElem? hp) with k | k
    · exact .inl ⟨k, bindL_get ndP hp hu k⟩
    · obtain ⟨c, e⟩ := cell_has (n := s.heap.objs.size + 1) k
      refine .inr ⟨.inl k, c, e, ?_⟩
      have q := x.cell y c e
      rw [bindC_get ndP hp hu (by show scope.names.lookup y ≠ _; rw [k]; decide)] at q
      exact q
  · exact e0.hok.fresh (Nat.le_of_lt (x.above y c (PySem.mem_of_lookup h)))
  · unfold start
    show _ = N.length
    rw [List.length_append, List.length_map, List.length_replicate]
    omega
theorem fn_of {CX : CXT} {P : Program} {w : World} {K : PySem.W.Frag} {mg : Str → Option Value} {base : Heap} {k : Nat} {f : Addr} {name qual : Str} {params : Arguments} {body : List Stmt} {scope : Scope} {dV kV doc pm cdv ct oc : Value} {an od : Option Addr}
    {osl : Array (Option Value)} {N ps : List Str} {sp : Sp} (lk : K.lookup f = some ⟨oc, od, .func (PySem.W.fnOf name qual params body scope dV kV doc pm an cdv ct), osl⟩) (hcd : PySem.W.codeIn K cdv qual = true) (S : FnScope N ps scope)
    (len : ∀ vs H Q E, sp vs H Q E → vs.length = ps.length)
    (hbody : ∀ (A : Around) (outer : List Env) (s : Shared) (H : Hp) (vs : List V) (Q : VK) (E : XK), Room k (A.deeper (envOfC qual scope s.heap.objs.size f cdv)) → sp vs H Q E →
      ∃ t, PSs (cxOf CX P w K mg base N qual scope f cdv A outer s H E) body t ∧ t { nx := fun _ H' => Q .non H', rt := Q } (start N vs) H) :
    FnOk P w K mg base CX (k + 1) f (PySem.W.fnOf name qual params body scope dV kV doc pm an cdv ct) ps sp := by
  refine ⟨len, fun A outer s H args us vs Q E hr e0 hb r hsp => ?_⟩
  have hl := len _ _ _ _ hsp
  have KX : K.In s.heap := e0.mod.kin.keeps fun b o e => (e0.bs b o e).1
  have lim : s.heap.NoLimit := e0.mod.nolimit.keeps fun b o e => (e0.bs b o e).1
  have hkind : ∀ y ∈ ps.zip us, scope.names.lookup y.1 = some .local ∨ (scope.names.lookup y.1 = some .cell ∧ ((cellsFrom (s.heap.objs.size + 1) scope.names []).lookup y.1).isSome = true) := fun ⟨n, v⟩ hy => by
    rcases S.par n (List.of_mem_zip hy).1 with q | q
    · exact .inl q
    · exact .inr ⟨q, PySem.W.cellsFrom_some _ _ _ (.inl q)⟩
  refine codeAny_call_function hr.depth (KX _ _ lk) rfl S.co S.gen rfl (PySem.W.codeRec_of KX hcd) (hb _ _ _ _ ?_)
  refine wpAny_newFunctionEnv_cells S.kind hkind fun env he s1 x => ?_
  subst he
  refine ⟨lim.keeps x.toInCall.keep, codeAny_func ?_⟩
  obtain ⟨t, ht, hq⟩ := hbody A outer s H vs Q E (hr.deeper _) hsp
  have I : Inv (cxOf CX P w K mg base N qual scope f cdv A outer s H E) [] (start N vs) H s1 := inv_start S hr.hd e0 hl r x
  refine wpAny_mono (ht [] s1 (start N vs) H _ I hq) (fun fl s' hs => ?_) fun e s' hs => hs
  have fin : ∀ {σ' : St} {H' : Hp} {v : V} {u : Value}, Inv (cxOf CX P w K mg base N qual scope f cdv A outer s H E) [] σ' H' s' → RelV v u → Q v H' → CE outer P w H s Q u s' :=
    fun {σ' H' v u} J rv q => ⟨v, H', J.os, J.bare, J.base, J.hok, rv, q⟩
  cases fl with
  | ret u =>
    obtain ⟨v, σ', H', J, rv, q⟩ := hs
    exact fin J rv q
  | next =>
    obtain ⟨σ', H', J, q⟩ := hs
    exact fin (v := V.non) (u := Value.none) J rfl q
  | brk =>
    obtain ⟨_, _, _, q⟩ := hs
    exact False.elim q
  | cont =>
    obtain ⟨_, _, _, q⟩ := hs
    exact False.elim q
end L2
namespace L2
open PySem PySem.Spec PyProof.Rows
section
variable {X : Cx} {x : Str} {p pos : Pos} {e : Expr} {es : List Expr} {t : TA} {id T : String} {r : List V → Hp → VK → Prop}
def tCB (r : List V → Hp → VK → Prop) (t : TA) : TE := fun σ H Q => t σ H fun vs H1 => r vs H1 Q
theorem pe_callB (hc : CallR X (.builtin id) r) (hg : Gl X x) (hm : X.mg x = none) (hv : bootBuiltins x = some (.builtin id)) (ha : PA X (e :: es) t) (hn : x ≠ "__name__" := by decide) (hdb : (x == ("__debug__" : Str)) = false := by decide)
    (he : starEach (e :: es) X.env = (false, eval e X.env) :: starEach es X.env := by rfl) (hpl : (backTo pos (starEach es X.env)).any (·.1) = false := by rfl) : PE X (.Call (.Name x p) (e :: es) [] pos) (tCB r t) := by
  intro pins s σ H Q I h
  refine wpAny_Call_Name_kw (ld_blt I hg hm hv ?_ hn hdb)
  exact PyProof.Rows.callWith_builtin1 (thn (ha pos pins s σ H _ I h) fun us s1 ⟨vs, H1, I1, r1, q1⟩ => hc pins s1 σ H1 vs us Q I1 r1 q1) he hpl
end
end L2
namespace HT
open PySem PyProof.Rows
section
open PySem.SeqAt
open PySem.AutoSeq1 (wpAny_loadPart')
open PySem.MeetsSeq PySem.MeetsSeq2 PySem.MeetsSeq3
end
section
variable {prog : Program} {w : World} {A : Around} {E : Value → Shared → Prop} {s : Shared}
def sIx (n d : Nat) : Option Int → Nat
  | none => d
  | some v => if v < 0 then (v + (n : Int)).toNat else min v.toNat n
theorem sIx_none (n d : Nat) : sIx n d none = d := rfl
theorem sIx_nat (n d k : Nat) : sIx n d (some (k : Int)) = min k n := by
  show (if (k : Int) < 0 then ((k : Int) + (n : Int)).toNat else min (k : Int).toNat n) = min k n
  rw [if_neg (by omega), Int.toNat_natCast]
end
end HT
namespace L2
open PySem PySem.Spec PyProof.Rows
abbrev TO := St → Hp → (Option Int → Hp → Prop) → Prop
def PO (X : Cx) (e : Option Expr) (t : TO) : Prop :=
  ∀ (pins : List (Addr × Obj)) (s : Shared) (σ : St) (H : Hp) (Q : Option Int → Hp → Prop), Inv X pins σ H s → t σ H Q →
    wpAny (model X.prog X.w) X.A (evalPart e X.env) (fun u s' => ∃ o H', Inv X pins σ H' s' ∧ IsPart u o ∧ Q o H') X.xe s
def tNoPart : TO := fun _ H Q => Q none H
def tPart (t : TE) : TO := fun σ H Q => t σ H fun x H1 => ∃ i, x = .int i ∧ Q (some i) H1
section
variable {X : Cx} {e : Expr} {te : TE} {lo hi : Option Expr} {tl th : TO} {pos p2 : Pos}
theorem po_none : PO X none tNoPart := by
  intro pins s σ H Q I h
  rw [evalPart_none]
  exact wpAny_pure ⟨none, H, I, .none, h⟩
theorem po_some (h : PE X e te) : PO X (some e) (tPart te) := by
  intro pins s σ H Q I hw
  rw [evalPart_some]
  refine thn (h pins s σ H _ I hw) fun u s1 ⟨x, H1, I1, r1, q1⟩ => ?_
  obtain ⟨i, rfl, q⟩ := q1
  obtain ⟨t, rfl⟩ := r1
  exact ⟨some i, H1, I1, .int i t, q⟩
def SlR (X : Cx) (r : V → Option Int → Option Int → Hp → VK → Prop) : Prop :=
  ∀ (pins : List (Addr × Obj)) (s : Shared) (σ : St) (H : Hp) (x : V) (v vl vu : Value) (lo hi : Option Int) (sl : Addr) (Q : VK), Inv X pins σ H s → RelV x v → s.heap.IsSliceOf sl vl vu .none → IsPart vl lo → IsPart vu hi → r x lo hi H Q →
    ∃ T id, typeLookup (.type T) "__getitem__" = pure (some (.builtin id)) ∧ s.TypeIs v T ∧ wpAny (model X.prog X.w) X.A (getItem v (.ref sl)) (EP X pins σ Q) X.xe s
def tSl (r : V → Option Int → Option Int → Hp → VK → Prop) (te : TE) (tl th : TO) : TE := fun σ H Q => te σ H fun x H1 => tl σ H1 fun l H2 => th σ H2 fun u H3 => r x l u H3 Q
theorem pe_slice {r : V → Option Int → Option Int → Hp → VK → Prop} (hr : SlR X r) (he : PE X e te) (hl : PO X lo tl) (hu : PO X hi th) : PE X (.Subscript e (.Slice lo hi none p2) pos) (tSl r te tl th) := by
  intro pins s σ H Q I h
  refine Subscript_ (thn (he pins s σ H _ I h) fun v s1 ⟨x, H1, I1, r1, q1⟩ => ?_)
  refine wpAny_Slice (thn (hl pins s1 σ H1 _ I1 q1) fun vl s2 ⟨l, H2, I2, pl, q2⟩ => thn (hu pins s2 σ H2 _ I2 q2) fun vu s3 ⟨u, H3, I3, pu, q3⟩ => ?_)
  rw [evalPart_none]
  refine wpAny_pure ?_
  have I4 : Inv X pins σ H3 { s3 with heap := s3.heap.push { cls := .type "slice", data := .fields #[vl, vu, .none] } } := I3.kept (t' := s3.toks) fun b ob q => Heap.get?_push_of_some _ q
  obtain ⟨T, id, hT, ht, hg⟩ := hr pins { s3 with heap := s3.heap.push { cls := .type "slice", data := .fields #[vl, vu, .none] } } σ H3 x v vl vu l u s3.heap.objs.size Q I4 r1 (Heap.IsSliceOf.new ..) pl pu q3
  show wpAny (model X.prog X.w) X.A (subscriptTail e (.Slice lo hi none p2) v (.ref s3.heap.objs.size)) (EP X pins σ Q) X.xe { s3 with heap := s3.heap.push { cls := .type "slice", data := .fields #[vl, vu, .none] } }
  exact tail_any (ops := [.ref s3.heap.objs.size, v]) ht hT hg (by with_unfolding_all rfl)
def cutV (xs : List V) (lo hi : Option Int) : List V := (xs.drop (HT.sIx xs.length 0 lo)).take (HT.sIx xs.length xs.length hi - HT.sIx xs.length 0 lo)
theorem cutV_length (xs : List V) (lo hi : Option Int) : (cutV xs lo hi).length ≤ xs.length := by
  unfold cutV
  rw [List.length_take, List.length_drop]
  omega
end
end L2
namespace L2
open PySem PySem.Spec PyProof.Rows
def ixN (n : Nat) (i : Int) : Option Nat := if 0 ≤ i then (if i < n then some i.toNat else none) else if -(n : Int) ≤ i then some (i + n).toNat else none
def atI {α : Type} (xs : List α) (i : Int) : Option α := (ixN xs.length i).bind fun j => xs[j]?
theorem ixN_seq {n : Nat} {i : Int} {j : Nat} (h : ixN n i = some j) : seqIndex? i n = some j ∧ j < n ∧ -(n : Int) ≤ i ∧ i < n := by
  unfold ixN at h
  by_cases h0 : 0 ≤ i
  · rw [if_pos h0] at h
    by_cases h1 : i < n
    · rw [if_pos h1] at h
      have e : i.toNat = j := Option.some.inj h
      exact ⟨by rw [seqIndex_of h0 h1, e], by omega, by omega, h1⟩
    · rw [if_neg h1] at h; cases h
  · rw [if_neg h0] at h
    by_cases h1 : -(n : Int) ≤ i
    · rw [if_pos h1] at h
      have e : (i + n).toNat = j := Option.some.inj h
      exact ⟨by rw [seqIndex_neg (by omega) h1, e], by omega, h1, by omega⟩
    · rw [if_neg h1] at h; cases h
theorem atI_get {α : Type} {xs : List α} {i : Int} {v : α} (h : atI xs i = some v) : ∃ j, seqIndex? i xs.length = some j ∧ xs[j]? = some v ∧ j < xs.length ∧ -(xs.length : Int) ≤ i ∧ i < xs.length := by
  unfold atI at h
  cases e : ixN xs.length i with
  | none => rw [e] at h; cases h
  | some j =>
    rw [e] at h
    obtain ⟨h1, h2, h3, h4⟩ := ixN_seq e
    exact ⟨j, h1, h, h2, h3, h4⟩
theorem atI_nat {α : Type} {xs : List α} {j : Nat} {v : α} (h : xs[j]? = some v) : atI xs (j : Int) = some v := by
  have hj : j < xs.length := (List.getElem?_eq_some_iff.mp h).1
  have e : ixN xs.length (j : Int) = some j := by
    unfold ixN
    rw [if_pos (by omega), if_pos (by omega)]; simp
  unfold atI; rw [e]; exact h
def PlainIx (b : Expr) : Prop := ∀ o i, subscripted b false o i = operate [o, i] (getItem o i)
def IxR (X : Cx) (r : R2) : Prop :=
  ∀ (value slice : Expr) (pins : List (Addr × Obj)) (s : Shared) (σ : St) (H : Hp) (x y : V) (v u : Value) (Q : VK), Inv X pins σ H s → RelV x v → RelV y u → r x y H Q →
    subscripted slice false v u = operate [v, u] (getItem v u) → wpAny (model X.prog X.w) X.A (subscriptTail value slice v u) (EP X pins σ Q) X.xe s
def MtR (X : Cx) (id : String) (r : V → List V → Hp → VK → Prop) : Prop :=
  ∀ (pins : List (Addr × Obj)) (s : Shared) (σ : St) (H : Hp) (x : V) (xs : List V) (v : Value) (us : List Value) (Q : VK), Inv X pins σ H s → RelV x v → Vals xs us → r x xs H Q →
    wpAny (model X.prog X.w) X.A (call (.builtin id) (v :: us)) (EP X pins σ Q) X.xe s
section
variable {X : Cx} {a b : Expr} {ta tb : TE} {pos : Pos}
theorem pe_ix {r : R2} (hr : IxR X r) (ha : PE X a ta) (hb : PE X b tb) (hs : PlainIx b) : PE X (.Subscript a b pos) (tOp r ta tb) := by
  intro pins s σ H Q I h
  exact Subscript_ (binT ha hb I h fun v u s2 x y H2 I2 rx ry q => hr a b pins s2 σ H2 x y v u Q I2 rx ry q (hs _ _))
def rIxL (K : PySem.W.Frag) : R2 := fun x y H Q => ∃ p xs i v, x = .ref p ∧ y = .int i ∧ SqL K H p xs ∧ atI xs i = some v ∧ Q v H
def rIxT (K : PySem.W.Frag) : R2 := fun x y H Q => ∃ p xs i v, x = .ref p ∧ y = .int i ∧ SqT K H p xs ∧ atI xs i = some v ∧ Q v H
theorem ix_list : IxR X (rIxL X.K) := by
  intro value slice pins s σ H x y v u Q I rx ry h hs
  obtain ⟨p, xs, i, z, rfl, rfl, hq, he, q⟩ := h
  cases rx
  obtain ⟨t, rfl⟩ := ry
  obtain ⟨its, r, pl, hz⟩ := I.list hq
  obtain ⟨j, h1, h2, h3, h4, h5⟩ := atI_get he
  obtain ⟨w, ew, rw'⟩ := r.get h2
  have hl := r.length
  have hn := line63
  have fin : EP X pins σ Q w s := ⟨z, H, I, rw', q⟩
  by_cases h0 : 0 ≤ i
  · have hj : i.toNat = j := by
      rw [seqIndex_of h0 h5] at h1
      exact Option.some.inj h1
    exact item_listR pl.isList h0 (by omega) (by rw [hj]; simpa using ew) fin hs
  · have hj : (i + (its.toArray.size : Int)).toNat = j := by
      rw [seqIndex_neg (by omega) h4] at h1
      rw [List.size_toArray, ← hl]
      exact Option.some.inj h1
    exact subscriptTail_builtinR (x := w) pl.isList.typeIs slot_list_getitem.lookup
      (wpAny_getItem_list_neg (Q := fun r s' => r = w ∧ EP X pins σ Q r s') pl.isList (by omega) (by rw [List.size_toArray] <;> omega) (by omega) (by rw [hj]; simpa using ew) ⟨rfl, fin⟩) hs
theorem ix_tup : IxR X (rIxT X.K) := by
  intro value slice pins s σ H x y v u Q I rx ry h hs
  obtain ⟨p, xs, i, z, rfl, rfl, hq, he, q⟩ := h
  cases rx
  obtain ⟨t, rfl⟩ := ry
  obtain ⟨its, r, pl, hz⟩ := I.tuple hq
  obtain ⟨j, h1, h2, h3, h4, h5⟩ := atI_get he
  obtain ⟨w, ew, rw'⟩ := r.get h2
  have hl := r.length
  have hn := line63
  have fin : EP X pins σ Q w s := ⟨z, H, I, rw', q⟩
  exact subscriptTail_builtinR (x := w) pl.typeIs slot_tuple_getitem.lookup
    (getItem_tuple (j := j) (Q := fun r s' => r = w ∧ EP X pins σ Q r s') pl (by omega) (by omega) (by rw [List.size_toArray, ← hl]; exact h1) (by simpa using ew) ⟨rfl, fin⟩) hs
theorem slice_bounds (lo hi : Option Int) (n : Nat) : (sliceBounds lo hi none n).1 = ((HT.sIx n 0 lo : Nat) : Int) ∧ (sliceBounds lo hi none n).2.1 = ((HT.sIx n n hi : Nat) : Int) ∧ (sliceBounds lo hi none n).2.2 = 1 := by
  refine ⟨?_, ?_, rfl⟩
  · cases lo with
    | none => simp [sliceBounds, HT.sIx]
    | some i =>
      simp only [sliceBounds, HT.sIx, Option.getD_none, show (1 : Int) > 0 by decide, if_true]
      by_cases h : i < 0
      · simp only [h, if_true] <;> omega
      · simp only [h, if_false] <;> omega
  · cases hi with
    | none => simp [sliceBounds, HT.sIx]
    | some i =>
      simp only [sliceBounds, HT.sIx, Option.getD_none, show (1 : Int) > 0 by decide, if_true]
      by_cases h : i < 0
      · simp only [h, if_true] <;> omega
      · simp only [h, if_false] <;> omega
theorem slicePick_cut (its : List Value) (lo hi : Option Int) : slicePick its.toArray lo hi none = ((its.drop (HT.sIx its.length 0 lo)).take (HT.sIx its.length its.length hi - HT.sIx its.length 0 lo)).toArray := by
  obtain ⟨h1, h2, h3⟩ := slice_bounds lo hi its.toArray.size
  unfold slicePick
  rw [h1, h2, h3]
  simp only [sliceRange_one, pick_run, List.size_toArray] <;> rfl
def rSlL (K : PySem.W.Frag) : V → Option Int → Option Int → Hp → VK → Prop := fun x lo hi H Q => ∃ a xs, x = .ref a ∧ SqL K H a xs ∧ ∀ p, H p = none → Q (.ref p) (upd H p (.lst (cutV xs lo hi)))
theorem sl_list : SlR X (rSlL X.K) := by
  intro pins s σ H x v vl vu lo hi sl Q I rx hs pl pu h
  obtain ⟨a, xs, rfl, hx, q⟩ := h
  cases rx
  obtain ⟨its, r, ht, hz⟩ := I.list hx
  have hlen := r.length
  refine ⟨"list", _, slot_list_getitem.lookup, ht.isList.typeIs, ?_⟩
  refine wpAny_getItem_list_slice ht.isList hs pl pu .none (by simp) ?_ (by rw [List.size_toArray] <;> omega)
  rw [slicePick_cut, ← hlen]
  refine ⟨.ref s.heap.objs.size, _, I.laid (t' := s.toks) (o := .lst (cutV xs lo hi)) (fun b ob q => Heap.get?_push_of_some _ q) (Nat.le_refl _) ?_, rfl, q _ (I.hok.fresh (Nat.le_refl _))⟩
  exact ⟨Nat.le_trans (cutV_length xs lo hi) hz, _, 0, (r.drop (HT.sIx xs.length 0 lo)).take (HT.sIx xs.length xs.length hi - HT.sIx xs.length 0 lo), Heap.get?_push_size _ rfl⟩
def flatV : V → Bool
  | .non => true
  | .bl _ => true
  | .int _ => true
  | .str _ => true
  | _ => false
def eqV : V → V → Bool
  | .non, .non => true
  | .bl a, .bl b => a == b
  | .bl a, .int b => (if a then 1 else 0) == b
  | .int a, .bl b => a == (if b then 1 else 0)
  | .int a, .int b => a == b
  | .str a, .str b => a == b
  | _, _ => false
theorem eqAt_V {A : Around} {s : Shared} {y x : V} {u v : Value} (ry : RelV y u) (rx : RelV x v) (fy : flatV y = true) (fx : flatV x = true) : SeqAt.EqAt A s u v (eqV y x) := by
  cases y with
  | non =>
    cases ry
    cases x with
    | non => cases rx; exact SeqAt.EqAt.same _
    | bl b => cases rx; exact SeqAt.EqAt.none_bool b
    | int b => obtain ⟨t, rfl⟩ := rx; exact SeqAt.EqAt.none_int b t
    | str b => obtain ⟨t, rfl⟩ := rx; exact SeqAt.EqAt.none_str b t
    | _ => exact absurd (show false = true from fx) Bool.false_ne_true
  | bl a =>
    cases ry
    cases x with
    | non => cases rx; exact SeqAt.EqAt.bool_none a
    | bl b => cases rx; exact SeqAt.EqAt.bool_bool a b
    | int b => obtain ⟨t, rfl⟩ := rx; exact SeqAt.EqAt.bool_int a b t
    | str b => obtain ⟨t, rfl⟩ := rx; exact SeqAt.EqAt.bool_str a b t
    | _ => exact absurd (show false = true from fx) Bool.false_ne_true
  | int a =>
    obtain ⟨t', rfl⟩ := ry
    cases x with
    | non => cases rx; exact SeqAt.EqAt.int_none a t'
    | bl b => cases rx; exact SeqAt.EqAt.int_bool a t' b
    | int b => obtain ⟨t, rfl⟩ := rx; exact SeqAt.EqAt.int_int a t' b t
    | str b => obtain ⟨t, rfl⟩ := rx; exact SeqAt.EqAt.int_str a t' b t
    | _ => exact absurd (show false = true from fx) Bool.false_ne_true
  | str a =>
    obtain ⟨t', rfl⟩ := ry
    cases x with
    | non => cases rx; exact SeqAt.EqAt.str_none a t'
    | bl b => cases rx; exact SeqAt.EqAt.str_bool a t' b
    | int b => obtain ⟨t, rfl⟩ := rx; exact SeqAt.EqAt.str_int a t' b t
    | str b => obtain ⟨t, rfl⟩ := rx; exact SeqAt.EqAt.str_str a t' b t
    | _ => exact absurd (show false = true from fx) Bool.false_ne_true
  | _ => exact absurd (show false = true from fy) Bool.false_ne_true
def eqU (x : V) (u : Value) : Bool := match u with
  | .none => eqV .non x
  | .bool b => eqV (.bl b) x
  | .int i _ => eqV (.int i) x
  | .str z _ => eqV (.str z) x
  | _ => false
theorem eqU_of {x y : V} {u : Value} (r : RelV y u) (f : flatV y = true) : eqU x u = eqV y x := by
  cases y with
  | non => cases r; rfl
  | bl b => cases r; rfl
  | int i => obtain ⟨t, rfl⟩ := r; rfl
  | str z => obtain ⟨t, rfl⟩ := r; rfl
  | _ => exact absurd (show false = true from f) Bool.false_ne_true
theorem any_eqU {x : V} : ∀ {xs : List V} {us : List Value}, Vals xs us → xs.all flatV = true → us.any (eqU x) = xs.any fun y => eqV y x
  | _, _, .nil, _ => rfl
  | y :: xs, u :: us, .cons r t, f => by
    rw [List.all_cons, Bool.and_eq_true] at f
    rw [List.any_cons, List.any_cons, eqU_of r f.1, any_eqU t f.2]
theorem mem_eqAt {A : Around} {s : Shared} {x : V} {v : Value} (rx : RelV x v) (fx : flatV x = true) : ∀ {xs : List V} {us : List Value}, Vals xs us → xs.all flatV = true → ∀ u ∈ us, SeqAt.EqAt A s u v (eqU x u)
  | _, _, .nil, _ => fun u hu => by cases hu
  | y :: xs, u :: us, .cons r t, f => fun u' hu => by
    rw [List.all_cons, Bool.and_eq_true] at f
    rcases List.mem_cons.mp hu with rfl | hu
    · rw [eqU_of r f.1]; exact eqAt_V r rx f.1 fx
    · exact mem_eqAt rx fx t f.2 u' hu
def inV (x : V) (xs : List V) : Bool := xs.any fun y => eqV y x
def rIn (K : PySem.W.Frag) (neg : Bool) : R2 := fun x y H Q => ∃ p xs, y = .ref p ∧ (SqL K H p xs ∨ SqT K H p xs) ∧ flatV x = true ∧ xs.all flatV = true ∧ Q (.bl (if neg then !inV x xs else inV x xs)) H
theorem op_in_seq : OpR X (compareOp .In) (rIn X.K false) := by
  intro pins s σ H x y v u Q I rx ry h
  obtain ⟨p, xs, rfl, hq, fx, fs, q⟩ := h
  cases ry
  rcases hq with hq | hq
  · obtain ⟨its, r, pl, hz⟩ := I.list hq
    refine SeqAt.in_listAt (eqU x) pl.isList (fun w hw => mem_eqAt rx fx r fs w (by simpa using hw)) ⟨.bl _, H, I, rfl, ?_⟩
    rw [show its.toArray.any (eqU x) = its.any (eqU x) by simp, any_eqU r fs]
    exact q
  · obtain ⟨its, r, pl, hz⟩ := I.tuple hq
    refine SeqAt.in_tupleAt (eqU x) pl (fun w hw => mem_eqAt rx fx r fs w (by simpa using hw)) ⟨.bl _, H, I, rfl, ?_⟩
    rw [show its.toArray.any (eqU x) = its.any (eqU x) by simp, any_eqU r fs]
    exact q
theorem call_len_seq : CallR X (.builtin "len") (fun xs H Q => ∃ p ys, xs = [.ref p] ∧ (SqL X.K H p ys ∨ SqT X.K H p ys) ∧ Q (.int ys.length) H) := by
  intro pins s σ H xs us Q I r h
  obtain ⟨p, ys, rfl, hq, q⟩ := h
  obtain ⟨u, rfl, rx⟩ := vals1 r
  cases rx
  have hn := line63
  rcases hq with hq | hq
  · obtain ⟨its, r', pl, hz⟩ := I.list hq
    have hlen := r'.length
    exact Calls.call_len_list pl.isList (by simp only [List.size_toArray] <;> omega) ⟨.int ys.length, H, I.tok _, ⟨s.toks + 1, by rw [List.size_toArray, hlen]⟩, q⟩
  · obtain ⟨its, r', pl, hz⟩ := I.tuple hq
    have hlen := r'.length
    exact len_tuple pl (by simp only [List.size_toArray] <;> omega) ⟨.int ys.length, H, I.tok _, ⟨s.toks + 1, by rw [List.size_toArray, hlen]⟩, q⟩
def tyV (K : PySem.W.Frag) (T : String) (x : V) (H : Hp) : Prop := match x with
  | .str _ => T = "str"
  | .int _ => T = "int"
  | .ref p => (T = "list" ∧ ∃ xs, SqL K H p xs) ∨ (T = "tuple" ∧ ∃ o, K.lookup p = some o ∧ o.cls = .type "tuple" ∧ o.dict = none) ∨
      (T = "dict" ∧ ((∃ kvs, H p = some (.dK kvs)) ∨ ∃ kvs, H p = some (.dT kvs))) ∨ (T = "set" ∧ ∃ S n, H p = some (.set S n))
  | _ => False
theorem tyV_is {pins : List (Addr × Obj)} {σ : St} {H : Hp} {s : Shared} {T : String} {x : V} {v : Value} (I : Inv X pins σ H s) (r : RelV x v) (ty : tyV X.K T x H) :
    s.TypeIs v T ∧ ∀ a, v = .ref a → ∃ ob, s.heap.get? a = some ob ∧ ob.dict = none := by
  cases x with
  | str z =>
    obtain ⟨t, rfl⟩ := r
    cases (show T = "str" from ty)
    exact ⟨typeIs_str s z t, fun _ e => nomatch e⟩
  | int i =>
    obtain ⟨t, rfl⟩ := r
    cases (show T = "int" from ty)
    exact ⟨typeIs_int s i t, fun _ e => nomatch e⟩
  | ref p =>
    cases r
    rcases ty with ⟨rfl, xs, hq⟩ | ⟨rfl, o, hk, hc, hd⟩ | ⟨rfl, hk⟩ | ⟨rfl, S, n, hk⟩
    · obtain ⟨its, _, pl, _⟩ := I.list hq
      refine ⟨pl.isList.typeIs, fun a e => ?_⟩
      cases e
      obtain ⟨o, n, e, c, hd, _⟩ := pl
      exact ⟨o, e, hd⟩
    · refine ⟨⟨o, I.kIn p o hk, hc⟩, fun a e => ?_⟩
      cases e
      exact ⟨o, I.kIn _ o hk, hd⟩
    · have z : ∃ o, s.heap.get? p = some o ∧ o.ExactDict := by
        rcases hk with ⟨kvs, hk⟩ | ⟨kvs, hk⟩
        · obtain ⟨_, _, _, _, o, _, _, e, ex, _⟩ := I.hok p _ hk
          exact ⟨o, e, ex⟩
        · obtain ⟨_, _, _, _, o, _, _, e, ex, _⟩ := I.hok p _ hk
          exact ⟨o, e, ex⟩
      obtain ⟨o, e, ex⟩ := z
      refine ⟨⟨o, e, ex.1⟩, fun a e2 => ?_⟩
      cases e2
      exact ⟨o, e, ex.2.1⟩
    · obtain ⟨o, _, _, _, e, ex, _⟩ := I.hok p _ hk
      refine ⟨⟨o, e, ex.1⟩, fun a e2 => ?_⟩
      cases e2
      exact ⟨o, e, ex.2.1⟩
  | _ => exact False.elim ty
def tBM0 (K : PySem.W.Frag) (T : String) (r : V → List V → Hp → VK → Prop) (to : TE) : TE := fun σ H Q => to σ H fun x H1 => tyV K T x H1 ∧ r x [] H1 Q
def tBM (K : PySem.W.Frag) (T : String) (r : V → List V → Hp → VK → Prop) (to : TE) (t : TA) : TE := fun σ H Q => to σ H fun x H1 => tyV K T x H1 ∧ t σ H1 fun xs H2 => r x xs H2 Q
variable {o e : Expr} {es : List Expr} {to : TE} {t : TA} {name : Str} {apos cpos : Pos} {T id : String} {r : V → List V → Hp → VK → Prop}
theorem pe_bm0 (pa : PlainAttrs T) (slot : Slot T name id) (hty : typeOf (.builtin id) = pure (.type "method_descriptor")) (hm : MtR X id r) (ho : PE X o to)
    (hbase : attributeBase o name X.env (eval o X.env) = eval o X.env := by rfl) (hline : (apos.endLine == cpos.line) = true := by rfl) : PE X (.Call (.Attribute o name apos) [] [] cpos) (tBM0 X.K T r to) := by
  intro pins s σ H Q I h
  refine wpAny_Call_method0_late hbase hline (thn (ho pins s σ H _ I h) fun v s1 ⟨x, H1, I1, r1, ty, q1⟩ => ?_)
  obtain ⟨h1, h2⟩ := tyV_is I1 r1 ty
  exact ⟨T, id, pa, slot, hty, h1, h2, Calls.callWith_builtin rfl (PySem.evalArgs_none (hm pins s1 σ H1 x [] v [] Q I1 r1 .nil q1))⟩
theorem pe_bm (pa : PlainAttrs T) (slot : Slot T name id) (hty : typeOf (.builtin id) = pure (.type "method_descriptor")) (hm : MtR X id r) (ho : PE X o to) (ha : PA X (e :: es) t)
    (hbase : attributeBase o name X.env (eval o X.env) = eval o X.env := by rfl)
    (hfew : ((backTo cpos (starEach (e :: es) X.env)).all (fun x => !x.1) && (backToKw cpos (keywordEach [] X.env)).all (fun x => x.1.isSome)
      && decide ((e :: es).length + ([] : List Keyword).length + (if ([] : List Keyword).isEmpty then 0 else 1) < 30)) = true := by rfl)
    (hline : (apos.endLine == cpos.line) = true := by rfl) (hs : starEach (e :: es) X.env = (false, eval e X.env) :: starEach es X.env := by rfl) (hplain : (backTo cpos (starEach es X.env)).any (·.1) = false := by rfl) :
    PE X (.Call (.Attribute o name apos) (e :: es) [] cpos) (tBM X.K T r to t) := by
  intro pins s σ H Q I h
  refine wpAny_Call_method_late hbase hfew hline rfl (thn (ho pins s σ H _ I h) fun v s1 ⟨x, H1, I1, r1, ty, q1⟩ => ?_)
  obtain ⟨h1, h2⟩ := tyV_is I1 r1 ty
  refine ⟨T, id, pa, slot, hty, h1, h2, ?_⟩
  have hA := ha cpos pins s1 σ H1 _ I1 q1
  rw [hs] at hA ⊢
  refine Calls.callWith_builtin (by show (false || (backTo cpos (starEach es X.env)).any (·.1)) = false; rw [hplain] <;> rfl) (Calls.evalArgs_plain ?_)
  exact thn hA fun us s2 ⟨vs, H2, I2, r2, q2⟩ => hm pins s2 σ H2 x vs v us Q I2 r1 r2 q2
end
end L2
namespace L2
open PySem PySem.Spec PyProof.Rows
def MtM (X : Cx) (id : String) (r : V → List V → Hp → VK → Prop) : Prop :=
  ∀ (pins : List (Addr × Obj)) (s : Shared) (σ : St) (H : Hp) (x : V) (xs : List V) (v : Value) (us : List Value) (Q : VK), Inv X pins σ H s → RelV x v → Vals xs us → r x xs H Q →
    wpAny (model X.prog X.w) X.A (call (.builtin id) (v :: us)) (EP X pins σ Q) X.xe s
theorem Vals.one : ∀ {x : V} {us : List Value}, Vals [x] us → ∃ u, us = [u] ∧ RelV x u
  | _, _, .cons r .nil => ⟨_, rfl, r⟩
section
variable {X : Cx} {pins : List (Addr × Obj)} {σ : St} {H : Hp} {s : Shared} {l b : Addr} {xs ys zs : List V}
theorem Inv.lset {its its' : List Value} {n : Nat} {f : Array Value → Array Value} {t' : Nat} (I : Inv X pins σ H s) (hH : H l = some (.lst xs))
    (e : s.heap.get? l = some { cls := .type "list", data := .seq its.toArray n }) (hf : f its.toArray = its'.toArray) (hv : Vals ys its') (hz : ys.length ≤ sizeLine) :
    Inv X pins σ (upd H l (.lst ys)) { s with heap := s.heap.update l (Obj.mapSeq f), toks := t' } := by
  have q := PySem.IsL.update e f
  rw [hf] at q
  refine I.write (x := l) (e := l) (by rw [hH]; exact trivial) (.inl rfl) (fun b' u hb hu => (Heap.get?_update_other s.heap (Obj.mapSeq f) (Ne.symm hb)).trans hu) ⟨_, q⟩ ?_
  exact ⟨hz, its', _, hv, q⟩
theorem Inv.lnew {its : List Value} {t' : Nat} (I : Inv X pins σ H s) (hv : Vals ys its) (hz : ys.length ≤ sizeLine) :
    Inv X pins σ (upd H s.heap.objs.size (.lst ys)) { s with heap := s.heap.push { cls := .type "list", data := .seq its.toArray }, toks := t' } :=
  I.laid (fun _ _ q => Heap.get?_push_of_some _ q) (Nat.le_refl _) ⟨hz, its, 0, hv, Heap.get?_push_size _ rfl⟩
theorem Inv.fresh (I : Inv X pins σ H s) : H s.heap.objs.size = none := I.hok.fresh (Nat.le_refl _)
theorem Inv.lstM (I : Inv X pins σ H s) (hH : H l = some (.lst xs)) : xs.length ≤ sizeLine ∧ ∃ (its : List Value) (n : Nat), Vals xs its ∧ xs.length = its.length ∧ s.heap.get? l = some { cls := .type "list", data := .seq its.toArray n } := by
  obtain ⟨z, its, n, r, e⟩ := I.hok l _ hH
  exact ⟨z, its, n, r, r.length, e⟩
theorem notLongL {n : Nat} (h : n ≤ sizeLine) : Builtin.List.listTooLong n = false := by
  unfold Builtin.List.listTooLong
  exact decide_eq_false (by omega)
end
section
variable {X : Cx}
def rAppend : V → List V → Hp → VK → Prop := fun x vs H Q => ∃ l xs y, x = .ref l ∧ vs = [y] ∧ H l = some (.lst xs) ∧ xs.length < sizeLine ∧ Q .non (upd H l (.lst (xs ++ [y])))
theorem mt_append : MtM X "list.append" rAppend := by
  intro pins s σ H x vs v us Q I rx rv h
  obtain ⟨l, xs, y, rfl, rfl, hH, hz, q⟩ := h
  cases rx
  obtain ⟨u, rfl, ru⟩ := rv.one
  obtain ⟨z, its, n, r, hl, e⟩ := I.lstM hH
  refine call_meets F.slot_list_append ⟨_, e, rfl⟩ F.entry_list_append (F.args_list_append_2 _ _) (PySem.list_append l its.toArray n u (by rw [List.size_toArray]; omega)) ⟨e, ?_⟩
  refine ⟨.non, _, I.lset (its' := its ++ [u]) hH e (by simp) (r.append (.cons ru .nil)) ?_, rfl, q⟩
  rw [List.length_append, List.length_singleton]
  omega
def rExtend : V → List V → Hp → VK → Prop := fun x vs H Q => ∃ l b xs zs, x = .ref l ∧ vs = [.ref b] ∧ H l = some (.lst xs) ∧ H b = some (.lst zs) ∧ xs.length + zs.length ≤ sizeLine ∧ Q .non (upd H l (.lst (xs ++ zs)))
theorem mt_extend : MtM X "list.extend" rExtend := by
  intro pins s σ H x vs v us Q I rx rv h
  obtain ⟨l, b, xs, zs, rfl, rfl, hH, hB, hz, q⟩ := h
  cases rx
  obtain ⟨u, rfl, ru⟩ := rv.one
  cases ru
  obtain ⟨z, its, n, r, hl, e⟩ := I.lstM hH
  obtain ⟨z2, its2, n2, r2, hl2, e2⟩ := I.lstM hB
  have hsz : its.toArray.size + its2.toArray.size ≤ sizeLine := by rw [List.size_toArray, List.size_toArray]; omega
  have hlong : ¬ (!its.toArray.isEmpty && Builtin.List.listTooLong (its.toArray.size + its2.toArray.size)) = true := by
    rw [notLongL hsz, Bool.and_false]
    exact Bool.false_ne_true
  refine call_meets F.slot_list_extend ⟨_, e, rfl⟩ F.entry_list_extend (F.args_list_extend_2 _ _)
    (AutoSeq1.list_extend_list_list_0 l its.toArray n b its2.toArray n2 hlong (by rw [List.size_toArray]; omega) (by omega)) ⟨e, e2, ?_⟩
  refine ⟨.non, _, I.lset (its' := its ++ its2) hH e (by simp) (r.append r2) ?_, rfl, q⟩
  rw [List.length_append]
  omega
def rCat : R2 := fun x y H Q => ∃ l b xs zs, x = .ref l ∧ y = .ref b ∧ H l = some (.lst xs) ∧ H b = some (.lst zs) ∧ xs.length + zs.length ≤ sizeLine ∧ ∀ p, H p = none → Q (.ref p) (upd H p (.lst (xs ++ zs)))
theorem op_cat : OpR X (binaryOp .Add) rCat := by
  intro pins s σ H x y v u Q I rx ry h
  obtain ⟨l, b, xs, zs, rfl, rfl, hH, hB, hz, q⟩ := h
  cases rx
  cases ry
  obtain ⟨z, its, n, r, hl, e⟩ := I.lstM hH
  obtain ⟨z2, its2, n2, r2, hl2, e2⟩ := I.lstM hB
  refine PySem.P.add_list e e2 ?_ (by rw [List.size_toArray, List.size_toArray]; omega)
  have ea : its.toArray ++ its2.toArray = (its ++ its2).toArray := by simp
  rw [ea]
  exact ⟨.ref _, _, I.lnew (t' := s.toks) (r.append r2) (by rw [List.length_append]; omega), rfl, q _ I.fresh⟩
end
section
variable {prog : Program} {w : World} {A : Around} {E : Value → Shared → Prop} {s : Shared}
set_option maxRecDepth 100000 in
end
section
variable {X : Cx}
end
end L2
namespace L2
open PySem PySem.Spec PyProof.Rows
theorem Vals.ints : ∀ {ns : List Int} {us : List Value}, Vals (ns.map V.int) us → IntsAre us ns
  | [], us, h => by
    rw [List.map_nil] at h
    cases h
    exact IntsAre.nil
  | n :: ns, us, h => by
    rw [List.map_cons] at h
    cases h with
    | cons r t =>
      obtain ⟨k, rfl⟩ := r
      exact IntsAre.cons n k (Vals.ints t)
theorem Vals.ref1 {a : Addr} {us : List Value} (r : Vals [V.ref a] us) : us = [Value.ref a] := by
  cases r with
  | cons r t =>
    cases t
    cases r
    rfl
section
variable {prog : Program} {w : World} {A : Around} {E : Value → Shared → Prop} {s : Shared} {l : Addr} {its : List Value} {ns : List Int} {Q : Value → Shared → Prop}
theorem sum_raw (hh : A.handled = none) (hl : s.heap.IsList l its.toArray) (hi : IntsAre its ns)
    (h : ∀ h' tk t', (∀ b o, s.heap.get? b = some o → h'.get? b = some o) → Q (.int ns.sum t') { s with heap := h', toks := tk }) : wpAny (model prog w) A (call (.builtin "sum") [.ref l]) Q E s := by
  obtain ⟨xs, e⟩ := hi.allInts.items
  have hn : numsOf (intItems xs).toList = ns := by rw [← e]; exact hi.numsOf
  rw [nums_intItems] at hn
  rw [e] at hl
  refine PySem.sum_intListG hh hl fun h' tk t' hk => ?_
  have := h h' tk t' hk
  rw [preSum_eq, List.take_of_length_le (by simp), hn]; exact this
end
section
variable {X : Cx}
def rSum (K : PySem.W.Frag) : List V → Hp → VK → Prop := fun vs H Q => ∃ (a : Addr) (ns : List Int), vs = [V.ref a] ∧ SqL K H a (ns.map V.int) ∧ Q (.int ns.sum) H
theorem cr_sum (hc : X.calm = true) : CallR X (.builtin "sum") (rSum X.K) := by
  intro pins s σ H vs us Q I r h
  obtain ⟨a, ns, rfl, hs, q⟩ := h
  obtain ⟨its, rv, hl, _⟩ := I.list hs
  rw [Vals.ref1 r]
  exact sum_raw (I.ok.hd hc) hl.isList rv.ints fun h' tk t' hk => ⟨.int _, H, I.kept hk, ⟨_, rfl⟩, q⟩
end
section
variable {X : Cx}
end
section
variable {X : Cx}
end
theorem iter_any {prog : Program} {w : World} {A : Around} {E : Value → Shared → Prop} {s : Shared} {l : Addr} {items : Array Value} {Q : Value → Shared → Prop} (hl : s.heap.IsList l items)
    (h : ∀ s₂ : Shared, s₂ = { s with heap := s.heap.push { cls := .type "list_iterator", data := .fields #[.ref l, .int 0 0] } } →
      (s₂.heap.IsListIter s.heap.objs.size l 0 ∧ s₂.heap.IsList l items) → l ≠ s.heap.objs.size → Q (.ref s.heap.objs.size) s₂) : wpAny (model prog w) A (pyIter (.ref l)) Q E s := by
  have hlt : l < s.heap.objs.size := by obtain ⟨_, e, _⟩ := hl; exact Heap.lt_size e
  exact wpAny_pyIter_list hl (h _ rfl ⟨⟨_, Heap.get?_push_size _ rfl, rfl, rfl⟩, hl.push _⟩ (Nat.ne_of_lt hlt))
theorem any_range : ∀ bs : List Bool, (List.range bs.length).any (fun i => bs.getD i false) = bs.any id
  | [] => rfl
  | b :: bs => by
    rw [List.length_cons, List.range_succ_eq_map, List.any_cons, List.any_map, List.any_cons, ← any_range bs]
    all_goals rfl
section
variable {X : Cx}
end
mutual
inductive Dp (K : PySem.W.Frag) (H : Hp) : V → PyData → Prop
  | non : Dp K H .non .none
  | bl (b : Bool) : Dp K H (.bl b) (.bool b)
  | int (i : Int) : Dp K H (.int i) (.int i)
  | str (x : Str) : Dp K H (.str x) (.str x)
  | lst {a : Addr} {xs : List V} {ds : List PyData} : SqL K H a xs → DpAll K H xs ds → Dp K H (.ref a) (.list ds)
  | tup {a : Addr} {xs : List V} {ds : List PyData} : SqT K H a xs → DpAll K H xs ds → Dp K H (.ref a) (.tuple ds)
inductive DpAll (K : PySem.W.Frag) (H : Hp) : List V → List PyData → Prop
  | nil : DpAll K H [] []
  | cons {v : V} {vs : List V} {d : PyData} {ds : List PyData} : Dp K H v d → DpAll K H vs ds → DpAll K H (v :: vs) (d :: ds)
end
section
variable {X : Cx} {pins : List (Addr × Obj)} {σ : St} {H : Hp} {s : Shared}
mutual
theorem Dp.reads (I : Inv X pins σ H s) : ∀ (d : PyData) (v : V) (u : Value), Dp X.K H v d → RelV v u → ∃ as, Reads s.heap u d as
  | .none, _, _, h, r => by
    cases h
    cases r
    exact ⟨_, Reads.none⟩
  | .bool b, _, _, h, r => by
    cases h
    cases r
    exact ⟨_, Reads.bool b⟩
  | .int i, _, _, h, r => by
    cases h
    obtain ⟨t, rfl⟩ := r
    exact ⟨_, Reads.int i t⟩
  | .str x, _, _, h, r => by
    cases h
    obtain ⟨t, rfl⟩ := r
    exact ⟨_, Reads.str x t⟩
  | .list ds, _, _, h, r => by
    cases h with
    | lst hs ha =>
      cases r
      obtain ⟨its, rv, ⟨o, n, ho, hc, _, hd⟩, _⟩ := I.list hs
      obtain ⟨as, hr⟩ := Dp.readsAll I ds _ its ha rv
      exact ⟨_, Reads.list ho hc hd hr⟩
  | .tuple ds, _, _, h, r => by
    cases h with
    | tup hs ha =>
      cases r
      obtain ⟨its, rv, ⟨o, ho, hc, n, hd⟩, _⟩ := I.tuple hs
      obtain ⟨as, hr⟩ := Dp.readsAll I ds _ its ha rv
      exact ⟨_, Reads.tuple ho hc hd hr⟩
  | .dict _, _, _, h, _ => by cases h
theorem Dp.readsAll (I : Inv X pins σ H s) : ∀ (ds : List PyData) (vs : List V) (us : List Value), DpAll X.K H vs ds → Vals vs us → ∃ as, ReadsAll s.heap us ds as
  | [], _, _, h, r => by
    cases h
    cases r
    exact ⟨_, ReadsAll.nil⟩
  | d :: ds, _, _, h, r => by
    cases h with
    | cons h1 h2 =>
      cases r with
      | cons r1 r2 =>
        obtain ⟨as, q1⟩ := Dp.reads I d _ _ h1 r1
        obtain ⟨bs, q2⟩ := Dp.readsAll I ds _ _ h2 r2
        exact ⟨_, ReadsAll.cons q1 q2⟩
end
end
section
variable {X : Cx}
def rEqD (K : PySem.W.Frag) : R2 := fun x y H Q => ∃ d e, Dp K H x d ∧ Dp K H y e ∧ SeqAt.shaped d = true ∧ SeqAt.shaped e = true ∧ Q (.bl (PyData.eqv d e)) H
theorem op_eqD (hu : X.A.units + 64 < cLine) : OpR X (compareOp .Eq) (rEqD X.K) := by
  intro pins s σ H x y v u Q I rx ry h
  obtain ⟨d, e, hd, he, sd, se, q⟩ := h
  obtain ⟨as, r1⟩ := Dp.reads I d x v hd rx
  obtain ⟨bs, r2⟩ := Dp.reads I e y u he ry
  exact SeqAt.compareEq_shaped r1 r2 sd se hu ⟨.bl _, H, I, rfl, q⟩
end
end L2
namespace L2
open PySem PySem.Spec PyProof.Rows
abbrev CellAt (h : Heap) (c : Addr) (v : Option Value) : Prop := h.IsCell c v
def relS (scope sc : Scope) : Scope :=
  { scope with names := scope.names.map fun (n, k) => if (k == .free && sc.kind == .function && sc.names.lookup n == some .cell) then (n, .cell) else (n, k) }
def cloFrom (cells : List (Str × Addr)) : List (Str × NameKind) → List (Str × Addr) → List (Str × Addr)
  | [], acc => acc
  | (n, k) :: r, acc => if k == .free then cloFrom cells r ((n, (cells.lookup n).getD 0) :: acc) else cloFrom cells r acc
theorem closure_loop (env : Env) (f : Str × NameKind → List (Str × Addr) → Sem (ForInStep (List (Str × Addr))))
    (hf : ∀ n k c, f (n, k) c = if k == .free then (do let a ← cellOf env n; pure (.yield ((n, a) :: c))) else pure (.yield c)) :
    ∀ (names : List (Str × NameKind)) (acc : List (Str × Addr)), (∀ y ∈ names, y.2 = .free → ∃ c, env.cells.lookup y.1 = some c) → forIn names acc f = pure (cloFrom env.cells names acc)
  | [], acc, _ => by rw [List.forIn_nil]; rfl
  | (n, k) :: r, acc, h => by
    rw [List.forIn_cons, hf]
    have ih := fun acc => closure_loop env f hf r acc fun y hy => h y (List.mem_cons_of_mem _ hy)
    unfold cloFrom
    by_cases hk : (k == NameKind.free) = true
    · rw [if_pos hk, if_pos hk]
      obtain ⟨c, hc⟩ := h (n, k) List.mem_cons_self (by simpa using hk)
      have e : cellOf env n = pure c := by unfold cellOf; rw [hc]
      rw [e]
      have e2 : (env.cells.lookup n).getD 0 = c := by rw [hc]; rfl
      rw [e2]
      exact ih _
    · rw [if_neg hk, if_neg hk]
      exact ih _
theorem closure_ok {scope : Scope} {env : Env} (h : ∀ y ∈ scope.names, y.2 = .free → ∃ c, env.cells.lookup y.1 = some c) : closureFor scope env = pure (cloFrom env.cells scope.names []) := by
  simp only [closureFor]
  rw [closure_loop env _ (fun n k c => rfl) scope.names [] h]
  rfl
theorem mem_lookup {α : Type} : ∀ {l : List (Str × α)} {n : Str} {c : α}, (n, c) ∈ l → ∃ c', l.lookup n = some c'
  | (k, v) :: r, n, c, h => by
    rw [List.lookup_cons]
    cases hb : n == k with
    | true => exact ⟨_, rfl⟩
    | false =>
      rcases List.mem_cons.mp h with e | h
      · cases e; simp at hb
      · exact mem_lookup h
theorem cloFrom_mem {cells : List (Str × Addr)} : ∀ {names : List (Str × NameKind)} {acc : List (Str × Addr)} {n : Str} {c : Addr}, (n, c) ∈ cloFrom cells names acc → (n, c) ∈ acc ∨ ((n, .free) ∈ names ∧ c = (cells.lookup n).getD 0)
  | [], _, _, _, h => .inl h
  | (m, k) :: r, acc, n, c, h => by
    unfold cloFrom at h
    split at h
    · rename_i hk
      have hk : k = .free := by simpa using hk
      rcases cloFrom_mem h with h | ⟨h1, h2⟩
      · rcases List.mem_cons.mp h with e | h
        · cases e; exact .inr ⟨hk ▸ List.mem_cons_self, rfl⟩
        · exact .inl h
      · exact .inr ⟨List.mem_cons_of_mem _ h1, h2⟩
    · rcases cloFrom_mem h with h | ⟨h1, h2⟩
      · exact .inl h
      · exact .inr ⟨List.mem_cons_of_mem _ h1, h2⟩
theorem cloFrom_acc {cells : List (Str × Addr)} : ∀ {names : List (Str × NameKind)} {acc : List (Str × Addr)} {p : Str × Addr}, p ∈ acc → p ∈ cloFrom cells names acc
  | [], _, _, h => h
  | (m, k) :: r, acc, p, h => by
    unfold cloFrom
    split
    · exact cloFrom_acc (List.mem_cons_of_mem _ h)
    · exact cloFrom_acc h
theorem cloFrom_has {cells : List (Str × Addr)} : ∀ {names : List (Str × NameKind)} {acc : List (Str × Addr)} {n : Str}, (n, .free) ∈ names → (n, (cells.lookup n).getD 0) ∈ cloFrom cells names acc
  | (m, k) :: r, acc, n, h => by
    unfold cloFrom
    rcases List.mem_cons.mp h with e | h
    · cases e
      exact cloFrom_acc List.mem_cons_self
    · split
      · exact cloFrom_has h
      · exact cloFrom_has h
theorem cells_mem : ∀ {names : List (Str × NameKind)} {h : Heap} {acc : List (Str × Addr)} {x : Str} {c : Addr}, (x, c) ∈ cellsFrom h.objs.size names acc →
    (x, c) ∈ acc ∨ ((x, .cell) ∈ names ∧ h.objs.size ≤ c ∧ CellAt (pushCells h names) c none)
  | [], _, _, _, _, h => .inl h
  | (n, k) :: r, h, acc, x, c, hm => by
    unfold cellsFrom at hm
    unfold pushCells
    split at hm
    · rename_i hk
      rw [if_pos hk]
      have hk : k = .cell := by simpa using hk
      rw [← Heap.size_push h { cls := .type "cell", data := .cell none }] at hm
      rcases cells_mem hm with hm | ⟨h1, h2, h3⟩
      · rcases List.mem_cons.mp hm with e | hm
        · cases e
          exact .inr ⟨hk ▸ List.mem_cons_self, Nat.le_refl _, _, pushCells_keeps r _ _ _ (Heap.get?_push_size _ rfl), rfl⟩
        · exact .inl hm
      · rw [Heap.size_push] at h2
        exact .inr ⟨List.mem_cons_of_mem _ h1, Nat.le_of_succ_le h2, h3⟩
    · rename_i hk
      rw [if_neg hk]
      rcases cells_mem hm with hm | ⟨h1, h2, h3⟩
      · exact .inl hm
      · exact .inr ⟨List.mem_cons_of_mem _ h1, h2, h3⟩
theorem cells_acc : ∀ {names : List (Str × NameKind)} {n : Nat} {acc : List (Str × Addr)} {p : Str × Addr}, p ∈ acc → p ∈ cellsFrom n names acc
  | [], _, _, _, h => h
  | (m, k) :: r, n, acc, p, h => by
    unfold cellsFrom
    split
    · exact cells_acc (List.mem_cons_of_mem _ h)
    · exact cells_acc h
theorem cells_has : ∀ {names : List (Str × NameKind)} {n : Nat} {acc : List (Str × Addr)} {x : Str}, (x, .cell) ∈ names → ∃ c, (x, c) ∈ cellsFrom n names acc
  | (m, k) :: r, n, acc, x, h => by
    unfold cellsFrom
    rcases List.mem_cons.mp h with e | h
    · cases e
      exact ⟨n, cells_acc List.mem_cons_self⟩
    · split
      · exact cells_has h
      · exact cells_has h
theorem cells_inj : ∀ {names : List (Str × NameKind)} {h : Heap} {acc : List (Str × Addr)} {x y : Str} {c : Addr}, (∀ p ∈ acc, p.2 < h.objs.size) → (∀ x y c, (x, c) ∈ acc → (y, c) ∈ acc → x = y) →
    (x, c) ∈ cellsFrom h.objs.size names acc → (y, c) ∈ cellsFrom h.objs.size names acc → x = y
  | [], _, _, _, _, _, _, hi, h1, h2 => hi _ _ _ h1 h2
  | (n, k) :: r, h, acc, x, y, c, hl, hi, h1, h2 => by
    unfold cellsFrom at h1 h2
    split at h1
    · rename_i hk
      rw [if_pos hk] at h2
      rw [← Heap.size_push h { cls := .type "cell", data := .cell none }] at h1 h2
      refine cells_inj (h := h.push _) (fun p hp => ?_) (fun x y c a b => ?_) h1 h2
      · rw [Heap.size_push]
        rcases List.mem_cons.mp hp with rfl | hp
        · exact Nat.lt_succ_self _
        · exact Nat.lt_succ_of_lt (hl p hp)
      · rcases List.mem_cons.mp a with e | a <;> rcases List.mem_cons.mp b with e' | b
        · cases e; cases e'; rfl
        · cases e; exact absurd (hl _ b) (Nat.lt_irrefl _)
        · cases e'; exact absurd (hl _ a) (Nat.lt_irrefl _)
        · exact hi _ _ _ a b
    · rename_i hk
      rw [if_neg hk] at h2
      exact cells_inj hl hi h1 h2
theorem newEnv_comp {M : Model} {A : Around} {E : Value → Shared → Prop} {s : Shared} {scope : Scope} {globals : Addr} {closure : List (Str × Addr)} {qual : Str} {func : Option Addr} {code : Value} {around : Env} {builtins : Addr} {Q : Env → Shared → Prop}
    (h : Q (newEnv scope s.heap.objs.size globals (cellsFrom (s.heap.objs.size + 1) scope.names closure) qual func code (some around) builtins)
      { s with heap := pushCells (s.heap.push { cls := .type "dict", data := .dict #[] }) scope.names }) :
    wpAny M A (newFunctionEnv scope globals closure [] qual func code (some around) builtins) Q E s := by
  simp only [newFunctionEnv, Option.isSome_some, if_true]
  refine wpAny_bind (wpAny_alloc ?_)
  refine wpAny_bind (wpAny_layCells _ (fun n k c => rfl) scope.names closure _ _ ?_)
  rw [show ({ s with heap := s.heap.push { cls := .type "dict", data := .dict #[] } } : Shared).heap.objs.size = s.heap.objs.size + 1 from Heap.size_push ..]
  rw [List.forIn_nil]
  exact wpAny_bind (wpAny_pure (wpAny_pure h))
theorem lookup_relS {sc : Scope} : ∀ {names : List (Str × NameKind)} {x : Str} {k : NameKind},
    (names.map fun (n, k) => if (k == NameKind.free && sc.kind == .function && sc.names.lookup n == some .cell) then (n, NameKind.cell) else (n, k)).lookup x = some k →
    ∃ k', names.lookup x = some k' ∧ (k = k' ∨ (k' = .free ∧ k = .cell))
  | [], _, _, h => by simp at h
  | (n, k₀) :: r, x, k, h => by
    have ih := @lookup_relS sc r x k
    have h' : List.lookup x ((if (k₀ == NameKind.free && sc.kind == .function && sc.names.lookup n == some .cell) = true then (n, NameKind.cell) else (n, k₀)) :: (r.map _)) = some k := h
    cases hx : x == n with
    | true =>
      simp only [List.lookup_cons, hx]
      by_cases hc : (k₀ == NameKind.free && sc.kind == .function && sc.names.lookup n == some .cell) = true
      · rw [if_pos hc] at h'
        simp only [List.lookup_cons, hx] at h'
        cases h'
        simp only [Bool.and_eq_true, beq_iff_eq] at hc
        exact ⟨k₀, rfl, .inr ⟨hc.1.1, rfl⟩⟩
      · rw [if_neg hc] at h'
        simp only [List.lookup_cons, hx] at h'
        cases h'
        exact ⟨_, rfl, .inl rfl⟩
    | false =>
      simp only [List.lookup_cons, hx]
      by_cases hc : (k₀ == NameKind.free && sc.kind == .function && sc.names.lookup n == some .cell) = true
      · rw [if_pos hc] at h'
        simp only [List.lookup_cons, hx] at h'
        exact ih h'
      · rw [if_neg hc] at h'
        simp only [List.lookup_cons, hx] at h'
        exact ih h'
structure BlkOk (N : List Str) (sc scope : Scope) (own : List (Str × Nat)) : Prop where
  kind : scope.kind = .function
  uniq : ∀ y ∈ scope.names, scope.names.lookup y.1 = some y.2
  ix : ∀ p ∈ own, N[p.2]? = some p.1
  free : ∀ y ∈ scope.names, y.2 = .free → sc.names.lookup y.1 = some .cell ∨ sc.names.lookup y.1 = some .free
  own : ∀ y ∈ scope.names, y.2 = .local ∨ y.2 = .cell → y.1 ∈ own.map (·.1) ∨ y.1 ∉ N
def wipe (σ : St) : List Nat → St
  | [] => σ
  | v :: vs => (wipe σ vs).set v none
theorem wipe_length (σ : St) : ∀ vs : List Nat, (wipe σ vs).length = σ.length
  | [] => rfl
  | v :: vs => by unfold wipe; rw [List.length_set, wipe_length σ vs]
theorem wipe_some {σ : St} {i : Nat} {x : V} : ∀ {vs : List Nat}, (wipe σ vs)[i]? = some (some x) → σ[i]? = some (some x) ∧ i ∉ vs
  | [], h => ⟨h, by simp⟩
  | v :: vs, h => by
    unfold wipe at h
    by_cases hi : v = i
    · subst hi
      by_cases hv : v < (wipe σ vs).length
      · rw [List.getElem?_set_self hv] at h; cases h
      · rw [List.getElem?_eq_none (by simpa using hv)] at h; cases h
    · rw [List.getElem?_set_ne hi] at h
      obtain ⟨h1, h2⟩ := wipe_some h
      exact ⟨h1, by simp only [List.mem_cons, not_or]; exact ⟨fun e => hi e.symm, h2⟩⟩
abbrev Cx.blk (X : Cx) (s : Shared) (H : Hp) (scope : Scope) (cenv : Env) (fp : List Addr) : Cx := { X with s_0 := s, H_0 := H, env := cenv, outer := X.stack, ex := fp, fn := fun x => scope.names.lookup x == some .cell, pn := [], xe := fun _ _ => False }
section
variable {X : Cx} {pins : List (Addr × Obj)} {σ : St} {H : Hp} {s : Shared}
theorem block_start {scope : Scope} {own : List (Str × Nat)} {fp : List Addr} (I : Inv X pins σ H s) (ok : BlkOk X.N X.env.scope scope own) (hN : X.N.Nodup) (hfp : ∀ b ∈ fp, FpOk X pins H b ∧ b < s.heap.objs.size) :
    Inv (X.blk s H scope (compEnvC scope (cellsFrom (s.heap.objs.size + 1) scope.names (cloFrom X.env.cells scope.names [])) s.heap.objs.size X.env) fp) [] (wipe σ (own.map (·.2))) H { s with heap := pushCells (s.heap.push { cls := .type "dict", data := .dict #[] }) scope.names } := by
  have hfree : ∀ y ∈ scope.names, y.2 = .free → ∃ c, X.env.cells.lookup y.1 = some c := fun y hy e => by
    rcases ok.free y hy e with k | k
    · exact I.ok.has _ (.inl k)
    · exact I.ok.has _ (.inr k)
  generalize hcenv : compEnvC scope (cellsFrom (s.heap.objs.size + 1) scope.names (cloFrom X.env.cells scope.names [])) s.heap.objs.size X.env = cenv
  have kp : ∀ b o, s.heap.get? b = some o → (pushCells (s.heap.push { cls := .type "dict", data := .dict #[] }) scope.names).get? b = some o := fun b o e => pushCells_keeps _ _ _ _ (Heap.get?_push_of_some _ e)
  have hL : cenv.locals = s.heap.objs.size := by rw [← hcenv]; rfl
  have hcl : cenv.cells = cellsFrom (s.heap.objs.size + 1) scope.names (cloFrom X.env.cells scope.names []) := by rw [← hcenv]; rfl
  have hsc : cenv.scope = relS scope X.env.scope := by rw [← hcenv]; rfl
  rw [← Heap.size_push s.heap { cls := .type "dict", data := .dict #[] }] at hcl
  have cm : ∀ {y c}, (y, c) ∈ cloFrom X.env.cells scope.names [] → X.env.cells.lookup y = some c ∧ c < s.heap.objs.size := fun {y c} hm => by
    rcases cloFrom_mem hm with hm | ⟨h1, rfl⟩
    · cases hm
    · obtain ⟨c, hc⟩ := hfree _ h1 rfl
      rw [hc]
      obtain ⟨w, z⟩ := I.cell _ _ hc
      exact ⟨rfl, z.lt⟩
  have mem : ∀ {y c}, cenv.cells.lookup y = some c → (X.env.cells.lookup y = some c ∧ c < s.heap.objs.size) ∨ (s.heap.objs.size + 1 ≤ c ∧ CellAt (pushCells (s.heap.push { cls := .type "dict", data := .dict #[] }) scope.names) c none) := fun {y c} e => by
    rw [hcl] at e
    rcases cells_mem (PySem.mem_of_lookup e) with hm | ⟨_, h2, h3⟩
    · exact .inl (cm hm)
    · rw [Heap.size_push] at h2; exact .inr ⟨h2, h3⟩
  have look : ∀ {y}, scope.names.lookup y = some .free → ∃ c, cenv.cells.lookup y = some c ∧ X.env.cells.lookup y = some c := fun {y} hl => by
    have hy : (y, NameKind.free) ∈ scope.names := PySem.mem_of_lookup hl
    obtain ⟨c', e'⟩ := mem_lookup (cells_acc (names := scope.names) (n := (s.heap.push { cls := .type "dict", data := .dict #[] }).objs.size) (cloFrom_has (cells := X.env.cells) (acc := []) hy))
    rw [← hcl] at e'
    refine ⟨c', e', ?_⟩
    rw [hcl] at e'
    rcases cells_mem (PySem.mem_of_lookup e') with hm | ⟨h1, _, _⟩
    · exact (cm hm).1
    · have := ok.uniq _ h1
      rw [hl] at this; cases this
  have okB : (X.blk s H scope cenv fp).Ok := by
    refine ⟨I.ok.mod, by show cenv.scope.kind = _; rw [hsc]; exact ok.kind, by show cenv.globals = _; rw [← hcenv]; exact I.ok.glob, by show cenv.builtins = _; rw [← hcenv]; exact I.ok.blt, by show s.heap.objs.size ≤ cenv.locals; rw [hL]; exact Nat.le_refl _,
      fun y z c e1 e2 => ?_, fun y hy => ?_, fun y c z e => ?_, I.ok.hd, I.ok.frames, .inl rfl, fun b hb => ⟨?_, fun y c e z => ?_⟩, I.bs, Nat.le_trans I.ok.bsz I.sz, fun b o e hb => ?_, fun b hb z => ?_, I.stack, I.stkFree⟩
    · have e1 : cenv.cells.lookup y = some c := e1
      have e2 : cenv.cells.lookup z = some c := e2
      rw [hcl] at e1 e2
      refine cells_inj (fun p hp => ?_) (fun y z c a b => I.ok.inj y z c (cm a).1 (cm b).1) (PySem.mem_of_lookup e1) (PySem.mem_of_lookup e2)
      rw [Heap.size_push]
      exact Nat.lt_succ_of_lt (cm (y := p.1) (c := p.2) hp).2
    · show ∃ c, cenv.cells.lookup y = some c
      have key : ∀ k, cenv.kindOf y = some k → (k = .cell ∨ k = .free) → ∃ c, cenv.cells.lookup y = some c := fun k hk hk' => by
        unfold Env.kindOf at hk
        rw [hsc] at hk
        obtain ⟨k', e, r⟩ := lookup_relS hk
        have : k' = .cell ∨ k' = .free := by
          rcases r with rfl | ⟨rfl, _⟩
          · exact hk'
          · exact .inr rfl
        rcases this with rfl | rfl
        · obtain ⟨c, hm⟩ := cells_has (n := (s.heap.push { cls := .type "dict", data := .dict #[] }).objs.size) (acc := cloFrom X.env.cells scope.names []) (PySem.mem_of_lookup e)
          obtain ⟨c', e'⟩ := mem_lookup hm
          exact ⟨c', by rw [hcl]; exact e'⟩
        · obtain ⟨c, h1, _⟩ := look e
          exact ⟨c, h1⟩
      rcases hy with hy | hy
      · exact key _ hy (.inl rfl)
      · exact key _ hy (.inr rfl)
    · have z : (scope.names.lookup y == some NameKind.cell) = true := z
      have z : scope.names.lookup y = some .cell := by simpa using z
      have e : cenv.cells.lookup y = some c := e
      rw [hcl] at e
      rcases cells_mem (PySem.mem_of_lookup e) with hm | ⟨_, h2, _⟩
      · rcases cloFrom_mem hm with hm | ⟨h1, _⟩
        · cases hm
        · have q := ok.uniq _ h1
          rw [z] at q; cases q
      · rw [Heap.size_push] at h2
        exact Nat.le_of_succ_le h2
    · show b ≠ cenv.locals
      rw [hL]; exact Nat.ne_of_lt (hfp b hb).2
    · have e : cenv.cells.lookup y = some c := e
      rcases mem e with ⟨h1, _⟩ | ⟨h1, _⟩
      · exact (hfp b hb).1.2.2.2.2.1 y c h1 z
      · have h2 : s.heap.objs.size + 1 ≤ b := by rw [← z]; exact h1
        exact absurd (Nat.lt_of_lt_of_le (hfp b hb).2 (Nat.le_of_succ_le h2)) (Nat.lt_irrefl _)
    · rcases (hfp b hb).1.2.2.2.1 with z | z
      · exact I.ok.noex b o e z
      · exact absurd (Nat.lt_of_lt_of_le (Heap.lt_size e) (Nat.le_trans I.ok.bsz z)) (Nat.lt_irrefl _)
    · rcases List.mem_cons.mp (I.stkSub b z) with z | z
      · exact (hfp b hb).1.2.1 z
      · exact (hfp b hb).1.2.2.1 z
  refine ⟨okB, rfl, I.bare, Un.kept kp, ⟨fun _ => none, ?_, fun i y av e1 e2 e3 => ?_⟩, fun y c e => ?_, ?_, fun y c e => ?_, fun p hp => ?_, I.hok.kept kp, by rw [wipe_length]; exact I.len⟩
  · show Heap.Ns _ cenv.locals _
    rw [hL]
    exact Heap.Ns.keeps (Heap.Ns.new ..) fun b o e => pushCells_keeps _ _ _ _ e
  · obtain ⟨e2, hne⟩ := wipe_some e2
    have hfr : scope.names.lookup y = some .free ∧ (cenv.kindOf y = some .cell ∨ cenv.kindOf y = some .free) := by
      have key : ∀ k, cenv.scope.names.lookup y = some k → k = .local ∨ k = .cell ∨ k = .free → scope.names.lookup y = some .free ∧ (cenv.kindOf y = some .cell ∨ cenv.kindOf y = some .free) := fun k hk hk' => by
        have hk0 := hk
        rw [hsc] at hk
        obtain ⟨k', e, r⟩ := lookup_relS hk
        have no : ¬ (k' = .local ∨ k' = .cell) := fun hh => by
          rcases ok.own _ (PySem.mem_of_lookup e) hh with e' | e'
          · obtain ⟨p, hp, hpy⟩ := List.mem_map.mp e'
            have e3 := ok.ix p hp
            have : p.1 = y := hpy
            rw [this] at e3
            exact hne (List.mem_map.mpr ⟨p, hp, nodup_ix hN e3 e1⟩)
          · exact e' (List.mem_of_getElem? e1)
        rcases r with rfl | ⟨rfl, rfl⟩
        · rcases hk' with rfl | rfl | rfl
          · exact absurd (.inl rfl) no
          · exact absurd (.inr rfl) no
          · exact ⟨e, .inr hk0⟩
        · exact ⟨e, .inl hk0⟩
      have e3 : Vis cenv.scope y := e3
      rcases e3 with e3 | e3 | e3
      · exact key _ e3 (.inl rfl)
      · exact key _ e3 (.inr (.inl rfl))
      · exact key _ e3 (.inr (.inr rfl))
    obtain ⟨m, hn, hl⟩ := I.loc
    have hvis : Vis X.env.scope y := (ok.free _ (PySem.mem_of_lookup hfr.1) rfl).elim (fun k => .inr (.inl k)) (fun k => .inr (.inr k))
    obtain ⟨w, r, q⟩ := hl i y av e1 e2 hvis
    refine ⟨w, r, .inr ⟨hfr.2, ?_⟩⟩
    obtain ⟨c, h1, h2⟩ := look hfr.1
    rcases q with ⟨k, _⟩ | ⟨_, c', e', z⟩
    · have k : X.env.scope.names.lookup y = some .local := k
      rcases ok.free _ (PySem.mem_of_lookup hfr.1) rfl with k' | k' <;> rw [show X.env.scope.names.lookup y = _ from k'] at k <;> cases k
    · rw [h2] at e'; cases e'
      exact ⟨c, h1, z.keeps kp⟩
  · have e : cenv.cells.lookup y = some c := e
    rcases mem e with ⟨h1, _⟩ | ⟨_, z⟩
    · obtain ⟨w, z⟩ := I.cell y c h1
      exact ⟨w, z.keeps kp⟩
    · exact ⟨_, z⟩
  · show H cenv.locals = none
    rw [hL]; exact I.hok.fresh (Nat.le_refl _)
  · have e : cenv.cells.lookup y = some c := e
    rcases mem e with ⟨h1, _⟩ | ⟨h1, _⟩
    · exact I.freeC y c h1
    · exact I.hok.fresh (Nat.le_of_succ_le h1)
  · exact absurd (show p ∈ ([] : List (Addr × Obj)) ++ [] from hp) (by simp)
theorem app_ok {E : Value → Shared → Prop} {D : Addr} {xs : List V} {y : V} {v : Value} {Q : Value → Shared → Prop} (I : Inv X pins σ H s) (hD : H D = some (.lst xs)) (hz : xs.length < sizeLine) (r : RelV y v)
    (h : ∀ s', Inv X pins σ (upd H D (.lst (xs ++ [y]))) s' → Q .none s') : wpAny (model X.prog X.w) X.A (call (.builtin "list.append") [.ref D, v]) Q E s := by
  obtain ⟨hz', its, n, ri, e⟩ := I.hok D _ hD
  have hl := ri.length
  refine append_at (hsz := by rw [List.size_toArray]; omega) e fun h' sb ho' => ?_
  refine h { s with heap := h' } (I.write (t' := s.toks) (by rw [hD]; trivial) (.inl rfl) (fun b u hb q => (sb.2 b hb).trans q) ⟨_, ho'⟩ ⟨by rw [List.length_append]; exact hz, its ++ [v], n + 1, ri.append (.cons r .nil), ?_⟩)
  rw [ho']
  simp
def PTs (X : Cx) (ifs : List Expr) (t : TT) : Prop :=
  ∀ (pins : List (Addr × Obj)) (s : Shared) (σ : St) (H : Hp) (Q : Bool → Hp → Prop), Inv X pins σ H s → t σ H Q →
    wpAny (model X.prog X.w) X.A (forIn ifs true fun c r => if r = true then do let ok ← isTrue c X.env (eval c X.env); pure (ForInStep.yield ok) else pure (ForInStep.yield r)) (TP X pins σ Q) X.xe s
def tYes : TT := fun _ H Q => Q true H
theorem pts_nil : PTs X [] tYes := fun _ _ _ H _ I h => wpAny_tests_nil ⟨H, I, h⟩
theorem pts_one {c : Expr} {t : TT} (h : PT X c t) : PTs X [c] t := fun pins s σ H Q I hw => wpAny_tests_one (h pins s σ H Q I hw)
end
theorem thnF {α : Type} {t : Sem α} {Q Q' : α → Shared → Prop} {M : Model} {A : Around} {E : Value → Shared → Prop} {s : Shared} (h : wpAny M A t Q (fun _ _ => False) s) (hQ : ∀ a s, Q a s → Q' a s) : wpAny M A t Q' E s := wpAny_mono h hQ fun _ _ z => False.elim z
theorem compLoop_any {prog : Program} {w : World} {A : Around} {R : Result → Shared → Prop} {s : Shared} {elt target iter : Expr} {ifs : List Expr} {scope : Scope} {pos : Pos} {it acc : Value} {env : Env} (I : Nat → Shared → Prop)
    (turn : ∀ n s, I n s → wpAny (model prog w) A (pyNext it) (fun r s₁ => match r with
      | none => R (.ok .next) s₁
      | some v => wpAny (model prog w) A (letOwnedTupleGo target it v) (fun _ s₁' => wpAny (model prog w) A (assign target env v) (fun _ s₂ =>
          wpAny (model prog w) A (forIn ifs true fun c r => if r = true then do let ok ← isTrue c env (eval c env); pure (ForInStep.yield ok) else pure (ForInStep.yield r)) (fun ok s₃ =>
            if ok = true then wpAny (model prog w) A (eval elt env) (fun x s₄ =>
              wpAny (model prog w) A (call (.builtin "list.append") [acc, x]) (fun _ s₅ => ∃ m, m < n ∧ I m s₅) (notedBy (model prog w) A env fun e s' => R (.error e) s') s₄) (notedBy (model prog w) A env fun e s' => R (.error e) s') s₃
            else ∃ m, m < n ∧ I m s₃) (notedBy (model prog w) A env fun e s' => R (.error e) s') s₂) (notedBy (model prog w) A env fun e s' => R (.error e) s') s₁') (notedBy (model prog w) A env fun e s' => R (.error e) s') s₁) (notedBy (model prog w) A env fun e s' => R (.error e) s') s)
    (n : Nat) (h : I n s) :
    codeAny (model prog w) A (.compLoop (.ListComp elt [⟨target, iter, ifs, 0⟩] scope pos) 0 it acc env) R s := by
  refine codeAny_loop rfl I (fun n s hI => ?_) n h
  show wpAny _ A ((compTurn (.ListComp elt [⟨target, iter, ifs, 0⟩] scope pos) 0 it acc env).onRaise (fun x => do noteFrame x env; theTreesLotGoes x)) _ _ s
  refine wpAny_noted ?_
  rw [compTurn_list]
  refine wpAny_bind (wpAny_standAt (wpAny_bind (wpAny_mono (turn n s hI) (fun r s₁ h₁ => ?_) fun _ _ h' => h')))
  cases r with
  | none => exact wpAny_pure h₁
  | some v =>
    refine wpAny_bind (wpAny_mono h₁ (fun _ s₁' h₁' => ?_) fun _ _ h' => h')
    refine wpAny_bind (wpAny_mono h₁' (fun _ s₂ h₂ => wpAny_bind (wpAny_mono h₂ (fun ok s₃ h₃ => ?_) fun _ _ h' => h')) fun _ _ h' => h')
    cases ok with
    | false => exact wpAny_pure ⟨rfl, h₃⟩
    | true =>
      exact wpAny_bind (wpAny_bind (wpAny_mono h₃ (fun x s₄ h₄ => wpAny_bind (wpAny_mono h₄ (fun _ s₅ h₅ => wpAny_pure (wpAny_pure ⟨rfl, h₅⟩)) fun _ _ h' => h')) fun _ _ h' => h'))
section
variable {X : Cx}
def tLc (wi : TI) (g : TG) (tt : TT) (te : TE) (vs : List Nat) : TE := fun σ H Q => wi σ H fun J H1 => ∀ D, H1 D = none → ∃ W : Nat → Nat → Hp → Prop, (∃ m, W 0 m (upd H1 D (.lst []))) ∧ ∀ i m H, W i m H →
  (J.stop i H ∧ Q (.ref D) H) ∨ (J.go i H ∧ ∃ Nx : Hp → Prop, (∀ H', Nx H' → ∃ m', m' < m ∧ W (i + 1) m' H') ∧ ∀ x H', J.yld i H x H' → g x (wipe σ vs) H' fun σ2 H2 => wipe σ2 vs = wipe σ vs ∧ tt σ2 H2 fun b H3 =>
    if b = true then te σ2 H3 fun y H4 => ∃ acc, H4 D = some (.lst acc) ∧ acc.length < sizeLine ∧ Nx (upd H4 D (.lst (acc ++ [y]))) else Nx H3)
theorem lc_core {pins : List (Addr × Obj)} {s : Shared} {σ : St} {H : Hp} {Q : VK} {elt tg iter : Expr} {ifs : List Expr} {scope : Scope} {own : List (Str × Nat)} {pos pos' : Pos} {wi : TI} {g : TG} {tt : TT} {te : TE} {use : Option (Value → Sem Unit)} {Qf : Value → Shared → Prop}
    (hc : X.calm = true) (hN : X.N.Nodup) (I : Inv X pins σ H s) (hi : PI X tg iter wi) (ok : BlkOk X.N X.env.scope scope own)
    (hg : ∀ (s : Shared) (H : Hp) (C : Addr) (cl : List (Str × Addr)) (fp : List Addr), PG (X.blk s H scope (compEnvC scope cl C X.env) fp) tg g) (ht : ∀ (s : Shared) (H : Hp) (C : Addr) (cl : List (Str × Addr)) (fp : List Addr), PTs (X.blk s H scope (compEnvC scope cl C X.env) fp) ifs tt)
    (he : ∀ (s : Shared) (H : Hp) (C : Addr) (cl : List (Str × Addr)) (fp : List Addr), PE (X.blk s H scope (compEnvC scope cl C X.env) fp) elt te) (hs : ∀ x, foldedSetIterable iter X.env x = pure x)
    (h : tLc wi g tt te (own.map (·.2)) σ H Q)
    (hRR : ∀ D C s' m H', Inv X pins σ H' s' → Q (.ref D) H' → s'.heap.Ns C m → FpOk X pins H' C → compPost (model X.prog X.w) X.A X.xe use Qf (.ref D) C (.ok .next) s') :
    wpAny (model X.prog X.w) X.A (comprehension (.ListComp elt [⟨tg, iter, ifs, 0⟩] scope pos) scope X.env pos' (newList []) false (eval iter X.env) use) Qf X.xe s := by
  have hfree : ∀ y ∈ scope.names, y.2 = .free → ∃ c, X.env.cells.lookup y.1 = some c := fun y hy e => by
    rcases ok.free y hy e with k | k
    · exact I.ok.has _ (.inl k)
    · exact I.ok.has _ (.inr k)
  refine wpAny_comprehension_free (use := use) rfl hs (closure_ok hfree) ok.kind (fun y hy e => by rw [ok.uniq y hy, e])
    (thn (hi pins s σ H _ I h) fun xv s1 hx => thn hx fun itv s2 h2 => ?_)
  obtain ⟨it, fp, tn, J, H2, e, I2, T, st2, f2, q⟩ := h2
  subst e
  refine wpAny_newObj_type (newEnv_comp ?_) (by show 0 ≤ sizeLine; decide)
  generalize hD : s2.heap.objs.size = D
  have hDn : H2 D = none := I2.hok.fresh (Nat.le_of_eq hD)
  obtain ⟨W, ⟨m0, w0⟩, turn⟩ := q D hDn
  -- the new list
  generalize hs3 : ({ s2 with heap := s2.heap.push { cls := .type "list", data := .seq ([] : List Value).toArray } } : Shared) = s3
  have I3 : Inv X pins σ (upd H2 D (.lst [])) s3 := by
    rw [← hs3]
    refine I2.laid (t' := s2.toks) (fun b o e => Heap.get?_push_of_some _ e) (Nat.le_of_eq hD) ⟨Nat.zero_le _, [], 0, .nil, ?_⟩
    rw [← hD]
    exact Heap.get?_push_size _ rfl
  have h3 : s3.heap = s2.heap.push { cls := .type "list", data := .seq ([] : List Value).toArray } := by rw [← hs3]
  have sz : ∀ b ∈ fp, b < s2.heap.objs.size := fun b hb => by
    obtain ⟨o, e, _⟩ := T.obj _ _ st2 b hb
    exact Heap.lt_size e
  have f3 : ∀ b ∈ fp, FpOk X pins (upd H2 D (.lst [])) b ∧ b < s3.heap.objs.size := fun b hb => by
    have hlt := sz b hb
    refine ⟨⟨?_, (f2 b hb).2⟩, by rw [h3, Heap.size_push]; exact Nat.lt_succ_of_lt hlt⟩
    rw [upd_ne (by rw [← hD]; exact Nat.ne_of_lt hlt)]
    exact (f2 b hb).1
  have st3 : tn 0 s3.heap := T.keep _ _ _ st2 fun b _ o e => by rw [h3]; exact Heap.get?_push_of_some _ e
  have I4 := block_start I3 ok hN f3
  have pg := hg s3 (upd H2 D (.lst [])) s3.heap.objs.size (cellsFrom (s3.heap.objs.size + 1) scope.names (cloFrom X.env.cells scope.names [])) fp
  have pt := ht s3 (upd H2 D (.lst [])) s3.heap.objs.size (cellsFrom (s3.heap.objs.size + 1) scope.names (cloFrom X.env.cells scope.names [])) fp
  have pe := he s3 (upd H2 D (.lst [])) s3.heap.objs.size (cellsFrom (s3.heap.objs.size + 1) scope.names (cloFrom X.env.cells scope.names [])) fp
  show codeAny _ _ (.compStart (.ListComp elt [⟨tg, iter, ifs, 0⟩] scope pos) 0 (.ref it) (.ref D) (compEnvC scope (cellsFrom (s3.heap.objs.size + 1) scope.names (cloFrom X.env.cells scope.names [])) s3.heap.objs.size X.env)) (compPost (model X.prog X.w) X.A X.xe use Qf (.ref D) s3.heap.objs.size) { s3 with heap := pushCells (s3.heap.push { cls := .type "dict", data := .dict #[] }) scope.names }
  have nfp : ∀ b ∈ fp, (upd H2 D (.lst [])) b = none := fun b hb => (f3 b hb).1.1
  generalize hce : compEnvC scope (cellsFrom (s3.heap.objs.size + 1) scope.names (cloFrom X.env.cells scope.names [])) s3.heap.objs.size X.env = ce at I4 pg pt pe ⊢
  have cL : ce.locals = s3.heap.objs.size := by subst hce; rfl
  generalize hH3 : upd H2 D (.lst []) = H3 at I3 I4 pg pt pe w0 nfp f3
  generalize hs4 : ({ s3 with heap := pushCells (s3.heap.push { cls := .type "dict", data := .dict #[] }) scope.names } : Shared) = s4 at I4 ⊢
  have st4 : tn 0 s4.heap := T.keep _ _ _ st3 fun b _ o e => by rw [← hs4]; exact pushCells_keeps _ _ _ _ (Heap.get?_push_of_some _ e)
  have stat : ∀ {σ' : St} {H' : Hp} {s' : Shared}, Inv (X.blk s3 H3 scope ce fp) [] σ' H' s' → (∀ b ∈ fp, H' b = none) → ∀ b ∈ fp, FpOk (X.blk s3 H3 scope ce fp) [] H' b := fun {σ' H' s'} I' hn b hb =>
    ⟨hn b hb, (I'.ok.exf b hb).1, I'.ok.exfs b hb, .inl hb, fun x c e => (I'.ok.exf b hb).2 x c e, fun p hp => absurd (show p ∈ ([] : List (Addr × Obj)) ++ [] from hp) (by simp)⟩
  have loop : codeAny (model X.prog X.w) X.A (.compLoop (.ListComp elt [⟨tg, iter, ifs, 0⟩] scope pos) 0 (.ref it) (.ref D) ce) (compPost (model X.prog X.w) X.A X.xe use Qf (.ref D) s3.heap.objs.size) s4 := by
    refine compLoop_any (fun n s' => ∃ i H', Inv (X.blk s3 H3 scope ce fp) [] (wipe σ (own.map (·.2))) H' s' ∧ tn i s'.heap ∧ (∀ b ∈ fp, H' b = none) ∧ W i n H') ?_ m0 ⟨0, H3, I4, st4, nfp, w0⟩
    rintro n s5 ⟨i, H5, I5, st5, n5, w5⟩
    rcases turn i n H5 w5 with ⟨stop, qq⟩ | ⟨go, Nx, hNx, step⟩
    · have td := T.done (X.blk s3 H3 scope ce fp) rfl rfl rfl hc i [] s5 _ H5 (fun _ _ => False) I5 (stat I5 n5) st5 stop
      refine thnF td fun r s6 ⟨hr, I6⟩ => ?_
      subst hr
      -- back in the def's context
      have I7 : Inv X pins σ H5 s6 := I3.call' (ch := fp) I6.os I6.base I6.hok I6.bare fun b hb => ⟨(f3 b hb).1.2.2.2.1, (f3 b hb).1.2.1, (f3 b hb).1.2.2.2.2.1, (f3 b hb).1.2.2.2.2.2⟩
      have nC : H5 s3.heap.objs.size = none := by
        have z : H5 ce.locals = none := I6.free
        rw [cL] at z
        exact z
      obtain ⟨m, hn, _⟩ := I6.loc
      have hn : s6.heap.Ns ce.locals m := hn
      rw [cL] at hn
      exact hRR D s3.heap.objs.size s6 m H5 I7 qq hn (I3.fpOk (Nat.le_refl _) nC)
    · have ti := T.item (X.blk s3 H3 scope ce fp) rfl rfl rfl hc i [] s5 _ H5 (fun _ _ => False) I5 (stat I5 n5) st5 go
      refine thnF ti fun r s6 ⟨u, hr, h6⟩ => ?_
      subst hr
      refine thnF h6 fun _ s7 ⟨x, H7, I7, r7, y7, st7, n7⟩ => ?_
      have I7' := I7.pinned (stat I7 n7) (T.obj _ _ st7)
      refine thnF (pg _ s7 _ H7 x u _ I7' r7 (step x H7 y7)) fun _ s8 ⟨σ8, H8, I8, hw8, q8⟩ => ?_
      refine thnF (pt _ s8 σ8 H8 _ I8 q8) fun b s9 ⟨H9, I9, q9⟩ => ?_
      -- the turn's end
      have fin : ∀ {s' : Shared} {H' : Hp}, Inv (X.blk s3 H3 scope ce fp) ([] ++ pinsAt fp s7.heap) σ8 H' s' → Nx H' → ∃ m, m < n ∧ ∃ i H', Inv (X.blk s3 H3 scope ce fp) [] (wipe σ (own.map (·.2))) H' s' ∧ tn i s'.heap ∧ (∀ b ∈ fp, H' b = none) ∧ W i m H' := fun {s' H'} I' nx => by
        obtain ⟨m', hm, w'⟩ := hNx H' nx
        have pin' : ∀ b ∈ fp, ∀ o, s7.heap.get? b = some o → s'.heap.get? b = some o ∧ H' b = none := fun b hb o e =>
          let z := I'.pin (b, o) (List.mem_append_right _ (List.mem_append_right _ (mem_pinsAt hb e)))
          ⟨z.1, z.2.1⟩
        have hl : (wipe σ (own.map (·.2))).length = σ8.length := by rw [← hw8, wipe_length]
        refine ⟨m', hm, i + 1, H', (I'.unpinned (pins := [])).weak hl (fun j v e => ?_), T.keep _ _ _ st7 fun b hb o e => (pin' b hb o e).1, fun b hb => ?_, w'⟩
        · rw [← hw8] at e
          exact (wipe_some e).1
        · obtain ⟨o, e, _⟩ := T.obj _ _ st7 b hb
          exact (pin' b hb o e).2
      cases b with
      | false =>
        simp only [Bool.false_eq_true, if_false] at q9 ⊢
        exact fin I9 q9
      | true =>
        simp only [if_true] at q9 ⊢
        refine thnF (pe _ s9 σ8 H9 _ I9 q9) fun z s10 ⟨yv, H10, I10, r10, acc, hD10, hz10, nx⟩ => ?_
        exact app_ok (X := X.blk s3 H3 scope ce fp) I10 hD10 hz10 r10 fun s11 I11 => fin I11 nx
  exact codeAny_compStart_list loop (T.self X.A 0 _ _ _ st4 loop)
theorem pe_lc {elt tg iter : Expr} {ifs : List Expr} {scope : Scope} {own : List (Str × Nat)} {pos : Pos} {wi : TI} {g : TG} {tt : TT} {te : TE} (hc : X.calm = true) (hN : X.N.Nodup) (hi : PI X tg iter wi) (ok : BlkOk X.N X.env.scope scope own)
    (hg : ∀ (s : Shared) (H : Hp) (C : Addr) (cl : List (Str × Addr)) (fp : List Addr), PG (X.blk s H scope (compEnvC scope cl C X.env) fp) tg g) (ht : ∀ (s : Shared) (H : Hp) (C : Addr) (cl : List (Str × Addr)) (fp : List Addr), PTs (X.blk s H scope (compEnvC scope cl C X.env) fp) ifs tt)
    (he : ∀ (s : Shared) (H : Hp) (C : Addr) (cl : List (Str × Addr)) (fp : List Addr), PE (X.blk s H scope (compEnvC scope cl C X.env) fp) elt te) (hs : ∀ x, foldedSetIterable iter X.env x = pure x := by intro _; rfl) :
    PE X (.ListComp elt [⟨tg, iter, ifs, 0⟩] scope pos) (tLc wi g tt te (own.map (·.2))) := by
  intro pins s σ H Q I h
  rw [eval_ListComp]
  refine lc_core hc hN I hi ok hg ht he hs h fun D C s' m H' I' q hn f => ⟨m, hn, fun h'' sb => ?_⟩
  obtain ⟨f0, f1, f2, f3, f4, f5⟩ := f
  exact ⟨.ref D, H', I'.turned (t' := s'.toks) (fun b o hb e => (sb.2 b hb).trans e) f0 f1 f3 f4 f5, rfl, q⟩
theorem ps_setLc {i : Nat} {y : Str} {py : Pos} {elt tg iter : Expr} {ifs : List Expr} {scope : Scope} {own : List (Str × Nat)} {pos spos : Pos} {wi : TI} {g : TG} {tt : TT} {te : TE} (hc : X.calm = true) (hN : X.N.Nodup) (hy : X.N[i]? = some y) (hyl : X.env.scope.names.lookup y = some .local)
    (hsw : swapsWith (.ListComp elt [⟨tg, iter, ifs, 0⟩] scope pos) (some (.Name y py)) spos.line X.env = pure true) (hi : PI X tg iter wi) (ok : BlkOk X.N X.env.scope scope own)
    (hg : ∀ (s : Shared) (H : Hp) (C : Addr) (cl : List (Str × Addr)) (fp : List Addr), PG (X.blk s H scope (compEnvC scope cl C X.env) fp) tg g) (ht : ∀ (s : Shared) (H : Hp) (C : Addr) (cl : List (Str × Addr)) (fp : List Addr), PTs (X.blk s H scope (compEnvC scope cl C X.env) fp) ifs tt)
    (he : ∀ (s : Shared) (H : Hp) (C : Addr) (cl : List (Str × Addr)) (fp : List Addr), PE (X.blk s H scope (compEnvC scope cl C X.env) fp) elt te) (hs : ∀ x, foldedSetIterable iter X.env x = pure x := by intro _; rfl) :
    PS X (.Assign [.Name y py] (.ListComp elt [⟨tg, iter, ifs, 0⟩] scope pos) spos) (tAsg (tLc wi g tt te (own.map (·.2))) (gName i)) := by
  intro pins s σ H D I h
  rw [exec_Assign_Name_used _ _ _ _ hsw]
  refine wpAny_bind (wpAny_standAt (wpAny_bind ?_))
  show wpAny _ X.A (do let _ ← comprehension (.ListComp elt [⟨tg, iter, ifs, 0⟩] scope pos) scope X.env (firstIterPos [⟨tg, iter, ifs, 0⟩] pos) (newList []) false (eval iter X.env) (some (assign (.Name y py) X.env))) _ _ s
  have h : tLc wi g tt te (own.map (·.2)) σ H (fun x H1 => gName i x σ H1 D.nx) := h
  refine wpAny_bind (thn (lc_core (Qf := fun _ s' => SP X pins D .next s') hc hN I hi ok hg ht he hs h fun L C s' m H' I' q hn f => ?_) fun _ s' hq => wpAny_pure (wpAny_pure hq))
  show wpAny _ _ (assign (.Name y py) X.env (.ref L)) _ _ _
  refine wpAny_assign_Name (store_ok2 (v := V.ref L) I' hN hy (.inl hyl) rfl (fun s2 I2 ⟨a, sb, ha⟩ => ?_) (.inr hyl))
  obtain ⟨f0, f1, f2, f3, f4, f5⟩ := f
  have haC : C ≠ a := by
    rcases ha with z | z
    · rw [z]; exact f1
    · exact fun e => f4 y a z e.symm
  refine ⟨m, hn.sameBut sb haC, fun h3 sb3 => ?_⟩
  exact ⟨_, H', I2.turned (t' := s2.toks) (fun b o hb e => (sb3.2 b hb).trans e) f0 f1 f3 f4 f5, q⟩
theorem sw_true {elt : Expr} {gs : List Comprehension} {scope : Scope} {pos py : Pos} {y : Str} {l : Nat} {env : Env} (hk : env.scope.kind = .function) (hy : env.scope.names.lookup y = some .local) (hl : (py.line == pos.line) = true)
    (ha : (scope.names.any fun (n, k) => n == y && (k == .local || k == .cell)) = false) : swapsWith (.ListComp elt gs scope pos) (some (.Name y py)) l env = pure true := by
  have ky : env.kindOf y = some .local := hy
  have hb : env.blockKind = .function := by unfold Env.blockKind; rw [hk]; rfl
  unfold swapsWith
  simp only [hb, ky, ha, Expr.pos, hl]
  rfl
end
theorem lc_range {lo : Int} {n : Nat} {g : TG} {tt : TT} {te : TE} {vs : List Nat} {σ : St} {H1 : Hp} {D : Addr} {Qd : Hp → Prop} (Pv : Nat → Hp → Prop) (h0 : Pv 0 (upd H1 D (.lst [])))
    (hs : ∀ i H, i < n → Pv i H → g (.int (lo + i)) (wipe σ vs) H fun σ2 H2 => wipe σ2 vs = wipe σ vs ∧ tt σ2 H2 fun b H3 =>
      if b = true then te σ2 H3 fun y H4 => ∃ acc, H4 D = some (.lst acc) ∧ acc.length < sizeLine ∧ Pv (i + 1) (upd H4 D (.lst (acc ++ [y]))) else Pv (i + 1) H3) (hd : ∀ H, Pv n H → Qd H) :
    ∃ W : Nat → Nat → Hp → Prop, (∃ m, W 0 m (upd H1 D (.lst []))) ∧ ∀ i m H, W i m H →
      ((Itr lo n).stop i H ∧ Qd H) ∨ ((Itr lo n).go i H ∧ ∃ Nx : Hp → Prop, (∀ H', Nx H' → ∃ m', m' < m ∧ W (i + 1) m' H') ∧ ∀ x H', (Itr lo n).yld i H x H' → g x (wipe σ vs) H' fun σ2 H2 => wipe σ2 vs = wipe σ vs ∧ tt σ2 H2 fun b H3 =>
        if b = true then te σ2 H3 fun y H4 => ∃ acc, H4 D = some (.lst acc) ∧ acc.length < sizeLine ∧ Nx (upd H4 D (.lst (acc ++ [y]))) else Nx H3) := by
  refine ⟨fun i m H => m = n - i ∧ i ≤ n ∧ Pv i H, ⟨n, by simp, Nat.zero_le _, h0⟩, ?_⟩
  rintro i m H ⟨rfl, hi, p⟩
  by_cases hlt : i < n
  · refine .inr ⟨hlt, Pv (i + 1), fun H' p' => ⟨n - (i + 1), by omega, rfl, hlt, p'⟩, fun x H' y => ?_⟩
    obtain ⟨e, y⟩ := y
    subst e y
    exact hs i _ hlt p
  · have e : i = n := by omega
    subst e
    exact .inl ⟨Nat.le_refl _, hd H p⟩
theorem lc_list {K : PySem.W.Frag} {a : Addr} {xs : List V} {g : TG} {tt : TT} {te : TE} {vs : List Nat} {σ : St} {H1 : Hp} {D : Addr} {Qd : Hp → Prop} (Pv : Nat → Hp → Prop) (h0 : Pv 0 (upd H1 D (.lst []))) (hl : ∀ i H, i ≤ xs.length → Pv i H → SqL K H a xs)
    (hs : ∀ i x H, xs[i]? = some x → Pv i H → g x (wipe σ vs) H fun σ2 H2 => wipe σ2 vs = wipe σ vs ∧ tt σ2 H2 fun b H3 =>
      if b = true then te σ2 H3 fun y H4 => ∃ acc, H4 D = some (.lst acc) ∧ acc.length < sizeLine ∧ Pv (i + 1) (upd H4 D (.lst (acc ++ [y]))) else Pv (i + 1) H3) (hd : ∀ H, Pv xs.length H → Qd H) :
    ∃ W : Nat → Nat → Hp → Prop, (∃ m, W 0 m (upd H1 D (.lst []))) ∧ ∀ i m H, W i m H →
      ((Itl K a).stop i H ∧ Qd H) ∨ ((Itl K a).go i H ∧ ∃ Nx : Hp → Prop, (∀ H', Nx H' → ∃ m', m' < m ∧ W (i + 1) m' H') ∧ ∀ x H', (Itl K a).yld i H x H' → g x (wipe σ vs) H' fun σ2 H2 => wipe σ2 vs = wipe σ vs ∧ tt σ2 H2 fun b H3 =>
        if b = true then te σ2 H3 fun y H4 => ∃ acc, H4 D = some (.lst acc) ∧ acc.length < sizeLine ∧ Nx (upd H4 D (.lst (acc ++ [y]))) else Nx H3) := by
  refine ⟨fun i m H => m = xs.length - i ∧ i ≤ xs.length ∧ Pv i H, ⟨xs.length, by simp, Nat.zero_le _, h0⟩, ?_⟩
  rintro i m H ⟨rfl, hi, p⟩
  have q := hl i H hi p
  by_cases hlt : i < xs.length
  · refine .inr ⟨⟨xs, xs[i], q, by simp [hlt]⟩, Pv (i + 1), fun H' p' => ⟨xs.length - (i + 1), by omega, rfl, hlt, p'⟩, fun x H' y => ?_⟩
    obtain ⟨e, y⟩ := y
    subst e
    exact hs i x _ (y xs q) p
  · have e : i = xs.length := by omega
    subst e
    exact .inl ⟨⟨xs, q, Nat.le_refl _⟩, hd H p⟩
def blkC (N : List Str) (sc scope : Scope) (own : List (Str × Nat)) : Bool :=
  (match scope.kind with | .function => true | _ => false) && (scope.names.all fun y => decide (scope.names.lookup y.1 = some y.2)) && (own.all fun p => decide (N[p.2]? = some p.1)) &&
    (scope.names.all fun y => match y.2 with
      | .free => (match sc.names.lookup y.1 with | some .cell => true | some .free => true | _ => false)
      | .local => decide (y.1 ∈ own.map (·.1)) || decide (y.1 ∉ N)
      | .cell => decide (y.1 ∈ own.map (·.1)) || decide (y.1 ∉ N)
      | _ => true)
theorem blkOk_by {N : List Str} {sc scope : Scope} {own : List (Str × Nat)} (h : blkC N sc scope own = true) : BlkOk N sc scope own := by
  unfold blkC at h
  simp only [Bool.and_eq_true, List.all_eq_true, decide_eq_true_eq] at h
  obtain ⟨⟨⟨h1, h2⟩, h3⟩, h4⟩ := h
  refine ⟨?_, h2, h3, fun y hy e => ?_, fun y hy e => ?_⟩
  · split at h1
    · assumption
    · cases h1
  · have q := h4 y hy
    simp only [e] at q
    split at q <;> first | exact .inl (by assumption) | exact .inr (by assumption) | cases q
  · have q := h4 y hy
    rcases e with e | e <;> (simp only [e, Bool.or_eq_true, decide_eq_true_eq] at q; exact q)
end L2
namespace L2
open PySem PySem.Spec PyProof.Rows
section
variable {prog : Program} {w : World} {A : Around} {R : Result → Shared → Prop} {s : Shared} {elt t0 i0 t1 i1 : Expr} {ifs0 ifs1 : List Expr} {scope : Scope} {pos : Pos} {it acc : Value} {env : Env}
end
section
variable {X : Cx}
end
end L2
namespace L2
open PySem PySem.Spec PyProof.Rows
section
variable {κ : Type} [DecidableEq κ]
end
section
variable {P : Program} {w : World} {H : Hp} {h : Heap} {a : Addr}
end
section
variable {X : Cx} {pins : List (Addr × Obj)} {σ : St} {H : Hp} {s : Shared} {a : Addr} {y v : V} {u r : Value} {o : Option V} {A : Around} {E : Value → Shared → Prop}
end
section
variable {X : Cx} {pins : List (Addr × Obj)} {σ : St} {H : Hp} {s : Shared} {a : Addr} {kvs : List (Key × V)} {k : Key} {u : Value} {A : Around} {E : Value → Shared → Prop}
end
section
variable {X : Cx} {o i e value : Expr} {pos pos' tpos : Pos} {td ty tv : TE}
end
section
variable {X : Cx} {pos : Pos}
end
structure M1 (X : Cx) (o : Expr) (m : Str) (apos : Pos) (e : Expr) (cpos : Pos) : Prop where
  base : attributeBase o m X.env (eval o X.env) = eval o X.env
  few : ((backTo cpos (starEach [e] X.env)).all (fun x => !x.1) && (backToKw cpos (keywordEach [] X.env)).all (fun x => x.1.isSome)
    && decide (([e] : List Expr).length + ([] : List Keyword).length + (if ([] : List Keyword).isEmpty then 0 else 1) < 30)) = true
  line : (apos.endLine == cpos.line) = true
  trees : backTo cpos (starEach [e] X.env) = [(false, eval e X.env)]
structure M2 (X : Cx) (o : Expr) (m : Str) (apos : Pos) (e f : Expr) (cpos : Pos) : Prop where
  base : attributeBase o m X.env (eval o X.env) = eval o X.env
  few : ((backTo cpos (starEach [e, f] X.env)).all (fun x => !x.1) && (backToKw cpos (keywordEach [] X.env)).all (fun x => x.1.isSome)
    && decide (([e, f] : List Expr).length + ([] : List Keyword).length + (if ([] : List Keyword).isEmpty then 0 else 1) < 30)) = true
  line : (apos.endLine == cpos.line) = true
  trees : backTo cpos (starEach [e, f] X.env) = [(false, eval e X.env), (false, eval f X.env)]
section
variable {X : Cx} {pins : List (Addr × Obj)} {σ : St} {H : Hp} {s : Shared} {a : Addr} {y d : V} {u r : Value} {o : Option V} {A : Around} {E : Value → Shared → Prop}
end
section
variable {X : Cx} {o e f : Expr} {apos cpos : Pos} {td ty tx : TE}
end
section
variable {X : Cx} {pins : List (Addr × Obj)} {σ : St} {H : Hp} {s : Shared} {a : Addr} {kvs : List (Key × V)} {A : Around} {E : Value → Shared → Prop}
end
section
variable {X : Cx} {pins : List (Addr × Obj)} {σ : St} {H : Hp} {s : Shared} {a : Addr} {y : V} {u : Value} {A : Around} {E : Value → Shared → Prop}
end
end L2
namespace L2
open PySem PySem.Spec PyProof.Rows
section
variable {prog : Program} {w : World} {A : Around} {E : Value → Shared → Prop}
end
section
variable {X : Cx}
end
end L2
namespace L2
open PySem PySem.Spec PyProof.Rows
section
variable {X : Cx} {pins : List (Addr × Obj)} {σ : St} {H : Hp} {s : Shared} {h' : Heap}
theorem Inv.turnedL {t' : Nat} {ch : List Addr} (I : Inv X pins σ H s) (k : ∀ b o, b ∉ ch → s.heap.get? b = some o → h'.get? b = some o) (hf : ∀ b ∈ ch, FpOk X pins H b) : Inv X pins σ H { s with heap := h', toks := t' } := by
  have nit : ∀ b u, H b = some u → b ∉ ch := fun b u e z => by
    have q := (hf b z).1
    rw [q] at e; cases e
  refine I.step (g' := s.gens) (d' := s.drawn) (ch := ch) (fun b hb => ⟨(hf b hb).2.2.2.1, (hf b hb).2.1, (hf b hb).2.2.2.2.1, (hf b hb).2.2.2.2.2⟩) (fun b o _ _ hc e _ => k b o hc e) (fun b o _ _ hc e _ => ⟨o.slots, k b o hc e⟩)
    (fun _ _ _ _ n => n) (fun b o hc e => ⟨o, k b o hc e⟩) (fun _ _ e => e) (fun _ _ _ e => e) (fun b ps e => ⟨#[], by rw [e]; simp⟩) (fun m hm => ?_) (fun b u e => ?_) I.bare
  · obtain ⟨o, es, ep, ho, r⟩ := hm
    exact ⟨o, es, ep, k _ o (fun z => (hf _ z).2.1 rfl) ho, r⟩
  · refine (I.hok b u e).stay (fun c v hc q => k c v ?_ q) (fun _ q => q) fun _ _ q => q
    rcases hc with z | z
    · rw [z]; exact nit b u e
    · exact nit c _ z
theorem Inv.turnedNew {t' : Nat} {ch : List Addr} {T : Addr} {ob : HO} (I : Inv X pins σ H s) (k : ∀ b o, b ∉ ch → s.heap.get? b = some o → h'.get? b = some o) (hf : ∀ b ∈ ch, FpOk X pins H b) (hT : s.heap.objs.size ≤ T)
    (new : ObjOk X.prog X.w (upd H T ob) h' T ob) : Inv X pins σ (upd H T ob) { s with heap := h', toks := t' } := by
  have hn : H T = none := I.hok.fresh hT
  have nit : ∀ b u, H b = some u → b ∉ ch := fun b u e z => by
    have q := (hf b z).1
    rw [q] at e; cases e
  refine I.step (g' := s.gens) (d' := s.drawn) (ch := ch) (fun b hb => ⟨(hf b hb).2.2.2.1, (hf b hb).2.1, (hf b hb).2.2.2.2.1, (hf b hb).2.2.2.2.2⟩) (fun b o _ _ hc e _ => k b o hc e) (fun b o _ _ hc e _ => ⟨o.slots, k b o hc e⟩)
    (fun b o _ e n => ?_) (fun b o hc e => ⟨o, k b o hc e⟩) (fun b xs e => ?_) (fun b o u e => ?_) (fun b ps e => ⟨#[], ?_⟩) (fun m hm => ?_) (fun b u e => ?_) I.bare
  · rw [upd_ne (Nat.ne_of_lt (Nat.lt_of_lt_of_le (Heap.lt_size e) hT))]; exact n
  · rw [upd_ne (ne_of_none e hn)]; exact e
  · rw [upd_ne (ne_of_none e hn)]; exact e
  · rw [upd_ne (ne_of_none e hn), e]; simp
  · obtain ⟨o, es, ep, ho, r⟩ := hm
    exact ⟨o, es, ep, k _ o (fun z => (hf _ z).2.1 rfl) ho, r⟩
  · by_cases hb : b = T
    · subst hb
      rw [upd_same] at e
      cases e
      exact new
    · rw [upd_ne hb] at e
      refine (I.hok b u e).stay (fun c v hc q => k c v ?_ q) (fun c q => by rw [upd_ne (ne_of_none q hn)]; exact q) fun c xs q => by rw [upd_ne (ne_of_none q hn)]; exact q
      rcases hc with z | z
      · rw [z]; exact nit b u e
      · exact nit c _ z
theorem Inv.lock {d : Addr} {u : HO} (I : Inv X pins σ H s) (h : H d = some u) (mu : Mut (some u)) : ∃ od, Inv X pins σ (upd H d (.frz od u)) s := by
  have x := I.hok d u h
  have ex : ∃ od, s.heap.get? d = some od := by
    cases u with
    | lst xs => obtain ⟨_, _, _, _, e⟩ := x; exact ⟨_, e⟩
    | dK kvs => obtain ⟨_, _, _, _, o, _, _, e, _⟩ := x; exact ⟨o, e⟩
    | dT kvs => obtain ⟨_, _, _, _, o, _, _, e, _⟩ := x; exact ⟨o, e⟩
    | set S n => obtain ⟨o, _, _, _, e, _⟩ := x; exact ⟨o, e⟩
    | ins C dx fs => obtain ⟨_, _, _, e, _⟩ := x; exact ⟨_, e⟩
    | ext φ => obtain ⟨_, ⟨_, e⟩, _⟩ := x; exact ⟨_, e⟩
    | _ => exact False.elim mu
  obtain ⟨od, e⟩ := ex
  have new : ObjOk X.prog X.w (upd H d (.frz od u)) s.heap d (.frz od u) := by
    refine ⟨e, x.stay (fun b v _ q => q) (fun b q => ?_) fun b xs q => ?_⟩
    · rw [upd_ne (fun z => by rw [z, h] at q; cases q; exact mu)]; exact q
    · rw [upd_ne (fun z => by rw [z, h] at q; cases q; exact mu)]; exact q
  exact ⟨od, I.write (x := d) (e := d) (t' := s.toks) (h' := s.heap) (by rw [h]; exact mu) (.inl rfl) (fun b v _ q => q) ⟨od, e⟩ new⟩
theorem Inv.nofrz {d : Addr} {u : HO} (I : Inv X pins σ H s) (h : H d = some u) (mu : Mut (some u)) : ∀ o' u', X.H_0 d ≠ some (.frz o' u') := fun o' u' e => by
  have q := I.base.frzs d o' u' e
  rw [h] at q
  cases q
  exact mu
theorem Inv.unlock {d : Addr} {od : Obj} {u : HO} (I : Inv X pins σ H s) (h : H d = some (.frz od u)) (hn : ∀ o' u', X.H_0 d ≠ some (.frz o' u')) : Inv X pins σ (upd H d u) s := by
  have neH : ∀ b o, H b = some o → (∀ o' u', o ≠ .frz o' u') → b ≠ d := fun b o e hne z => by
    rw [z, h] at e
    cases e
    exact hne _ _ rfl
  have neN : ∀ b, H b = none → b ≠ d := fun b e z => by rw [z, h] at e; cases e
  refine ⟨I.ok, I.os, I.bare, ⟨I.base.keep, I.base.slot, fun b o e n hx => ?_, I.base.there, fun b xs e => ?_, fun b o x e => ?_, fun b ps e => ?_⟩, I.loc, I.cell, ?_, fun x c e => ?_, fun p hp => ?_, fun b o e => ?_, I.len⟩
  · rw [upd_ne (neN b (I.base.free b o e n hx))]; exact I.base.free b o e n hx
  · have q := I.base.tups b xs e
    rw [upd_ne (neH b _ q (fun _ _ z => nomatch z))]; exact q
  · have q := I.base.frzs b o x e
    rw [upd_ne (fun z => by rw [z] at e; exact hn _ _ e)]; exact q
  · obtain ⟨m, q⟩ := I.base.tbls b ps e
    exact ⟨m, by rw [upd_ne (neH b _ q (fun _ _ z => nomatch z))]; exact q⟩
  · rw [upd_ne (neN _ I.free)]; exact I.free
  · rw [upd_ne (neN c (I.freeC x c e))]; exact I.freeC x c e
  · obtain ⟨e, n, r⟩ := I.pin p hp
    exact ⟨e, by rw [upd_ne (neN _ n)]; exact n, r⟩
  · by_cases hb : b = d
    · rw [hb, upd_same] at e
      cases e
      rw [hb]
      obtain ⟨_, x⟩ := I.hok d _ h
      exact x.stay (fun c v _ q => q) (fun c q => by rw [upd_ne (neH c _ q (fun _ _ z => nomatch z))]; exact q) fun c xs q => by rw [upd_ne (neH c _ q (fun _ _ z => nomatch z))]; exact q
    · rw [upd_ne hb] at e
      exact (I.hok b o e).stay (fun c v _ q => q) (fun c q => by rw [upd_ne (neH c _ q (fun _ _ z => nomatch z))]; exact q) fun c xs q => by rw [upd_ne (neH c _ q (fun _ _ z => nomatch z))]; exact q
end
def tLockE (t : TE) : TE := fun σ H Q => ∃ d u, H d = some u ∧ Mut (some u) ∧ ∀ od, t σ (upd H d (.frz od u)) fun v H' => H' d = some (.frz od u) ∧ Q v (upd H' d u)
section
variable {X : Cx}
theorem pe_lock {e : Expr} {t : TE} (h : PE X e t) : PE X e (tLockE t) := by
  intro pins s σ H Q I hw
  obtain ⟨d, u, hd, mu, hw⟩ := hw
  obtain ⟨od, I1⟩ := I.lock hd mu
  refine thn (h pins s σ _ _ I1 (hw od)) fun v s1 ⟨x, H1, I2, r, e2, q⟩ => ?_
  exact ⟨x, _, I2.unlock e2 (I.nofrz hd mu), r, q⟩
end
section
variable {X : Cx} {tg : Expr}
end
section
variable {X : Cx} {tg : Expr}
end
section
variable {prog : Program} {w : World} {A : Around} {E : Value → Shared → Prop} {s : Shared}
end
section
variable {X : Cx} {pins : List (Addr × Obj)} {σ : St} {H : Hp} {s : Shared} {d : Addr} {o : Obj}
end
section
variable {P : Program} {w : World} {K : PySem.W.Frag} {tg : Expr} {d : Addr} {o : Obj} {es : Array DictEntry} {ep : Nat}
end
section
variable {X : Cx} {tg e : Expr} {td : TE} {apos cpos : Pos}
end
def Ite (K : PySem.W.Frag) (a : Addr) : It :=
  ⟨fun i H => ∃ (xs : List V) (x : V), SqL K H a xs ∧ xs[i]? = some x, fun i H v H' => ∃ T x, v = .ref T ∧ H T = none ∧ H' = upd H T (.tup [.int (i : Nat), x]) ∧ ∀ xs, SqL K H a xs → xs[i]? = some x, fun i H => ∃ xs : List V, SqL K H a xs ∧ xs.length ≤ i⟩
theorem turn_enum {P : Program} {w : World} {K : PySem.W.Frag} {elts : List Expr} {kk : Nat} {tpos : Pos} (a e it : Addr) :
    Turn P w K (.Tuple elts kk tpos) (Ite K a) [e, it] e (fun i h => (∃ old, IsEnum h e it ((i : Nat) : Int) old) ∧ h.IsListIter it a i ∧ e ≠ it) where
  mem := by simp
  obj := fun i h st b hb => by
    obtain ⟨⟨old, he⟩, ⟨o, ho, hc, hd⟩, _⟩ := st
    have e' : b = e ∨ b = it := by simpa using hb
    rcases e' with z | z
    · rw [z]; exact ⟨_, he, fun v q => nomatch q⟩
    · rw [z]; exact ⟨o, ho, fun v q => by rw [hd] at q; cases q⟩
  keep := fun i h h' st k => let ⟨⟨old, he⟩, hi, hne⟩ := st; ⟨⟨old, k e (by simp) _ he⟩, hi.at fun o q => k it (by simp) o q, hne⟩
  item := by
    intro X hP hw hK hc i pins s σ H E I hf st hg
    subst hP hw hK
    obtain ⟨⟨old, he⟩, hit, hne⟩ := st
    obtain ⟨xs, x, hq, hx⟩ := hg
    obtain ⟨its, rv, p, hz⟩ := I.list hq
    obtain ⟨u, hu, ru⟩ := rv.get hx
    have hel : e < s.heap.objs.size := Heap.lt_size he
    have hil : it < s.heap.objs.size := by obtain ⟨_, q, _⟩ := hit; exact Heap.lt_size q
    refine wpAny_pyNext_enum_item he hit p.isList (x := u) (by simpa using hu) hne fun h' ho hit' hT hsz hk => ?_
    refine ⟨_, rfl, wpAny_letOwnedTupleGo_enum (s := { s with heap := h', toks := s.toks + 1 }) ho fun h'' he' sb => ?_⟩
    have hT2 : h''.get? s.heap.objs.size = some { cls := .type "tuple", data := .seq #[.int i s.toks, u] } := (sb.2 _ (Nat.ne_of_gt hel)).trans hT
    have new : ObjOk X.prog X.w (upd H s.heap.objs.size (.tup [.int (i : Nat), x])) h'' s.heap.objs.size (.tup [.int (i : Nat), x]) :=
      ⟨by show 2 ≤ sizeLine; decide, [.int i s.toks, u], .cons ⟨_, rfl⟩ (.cons ru .nil), ⟨_, hT2, rfl, _, rfl⟩⟩
    have I1 : Inv X pins σ (upd H s.heap.objs.size (.tup [.int (i : Nat), x])) { s with heap := h'', toks := s.toks + 1 } :=
      I.turnedNew (ch := [e, it]) (fun b ob hb q => (sb.2 b (fun z => hb (by simp [z]))).trans (hk b ob (fun z => hb (by simp [z])) (fun z => hb (by simp [z])) q)) hf (Nat.le_refl _) new
    refine ⟨.ref s.heap.objs.size, _, I1, rfl, ⟨_, x, rfl, I.hok.fresh (Nat.le_refl _), rfl, fun ys hy => by rw [I.list_inj hy hq]; exact hx⟩, ⟨⟨u, ?_⟩, hit'.at fun o q => (sb.2 it (Ne.symm hne)).trans q, hne⟩, fun b hb => ?_⟩
    · have e1 : ((i + 1 : Nat) : Int) = (i : Int) + 1 := by omega
      rw [e1]; exact he'
    · have hb' : b < s.heap.objs.size := by
        have e' : b = e ∨ b = it := by simpa using hb
        rcases e' with z | z
        · rw [z]; exact hel
        · rw [z]; exact hil
      rw [upd_ne (Nat.ne_of_lt hb')]
      exact (hf b hb).1
  done := by
    intro X hP hw hK hc i pins s σ H E I hf st hg
    subst hP hw hK
    obtain ⟨⟨old, he⟩, hit, hne⟩ := st
    obtain ⟨xs, hq, hx⟩ := hg
    obtain ⟨its, rv, p, hz⟩ := I.list hq
    obtain ⟨f0, f1, f2, f3, f4, f5⟩ := hf it (by simp)
    have hl := rv.length
    exact wpAny_pyNext_enum_end (I.ok.hd hc) he hit p.isList (by simp; omega) fun h' eb => ⟨rfl, I.turned (t' := s.toks) (fun b o hb q => eb b o hb q) f0 f1 f3 f4 f5⟩
  self := fun A i s Q E st h => let ⟨⟨_, he⟩, _⟩ := st; wpAny_pyIter_enum he h
def iEnum (K : PySem.W.Frag) (ta : TA) : TI := fun σ H R => ta σ H fun vs H1 => ∃ a xs, vs = [.ref a] ∧ SqL K H1 a xs ∧ R (Ite K a) H1
theorem pi_enum {X : Cx} {e : Expr} {ta : TA} {p pos tpos : Pos} {elts : List Expr} {kk : Nat} (hg : Gl X "enumerate") (hm : X.mg "enumerate" = none) (ha : PA X [e] ta) (hs : starEach [e] X.env = [(false, eval e X.env)] := by rfl) :
    PI X (.Tuple elts kk tpos) (.Call (.Name "enumerate" p) [e] [] pos) (iEnum X.K ta) := by
  intro pins s σ H R I h
  refine Call_ (ld_blt I hg hm boot_enumerate (PyProof.Rows.callWith_type1 (thn (ha pos pins s σ H _ I h) fun us s1 ⟨vs, H1, I1, r1, q1⟩ => ?_) hs rfl))
  obtain ⟨a, xs, ex, hq, q⟩ := q1
  subst ex
  cases r1 with
  | cons r rr =>
    cases rr
    cases r
    obtain ⟨its, rv, p', hz⟩ := I1.list hq
    refine call_enumerate_list p'.isList fun h' he hit hsz hk => wpAny_pyIter_enum he ?_
    have I2 : Inv X pins σ H1 { s1 with heap := h' } := I1.kept (t' := s1.toks) hk
    refine ⟨s1.heap.objs.size + 1, [s1.heap.objs.size + 1, s1.heap.objs.size], _, _, H1, rfl, I2, turn_enum a (s1.heap.objs.size + 1) s1.heap.objs.size, ⟨⟨.none, he⟩, hit, Nat.succ_ne_self _⟩, fun b hb => ?_, q⟩
    have e' : b = s1.heap.objs.size + 1 ∨ b = s1.heap.objs.size := by simpa using hb
    have hle : s1.heap.objs.size ≤ b := by
      rcases e' with z | z
      · rw [z]; exact Nat.le_add_right _ _
      · rw [z]; exact Nat.le_refl _
    exact I1.fpOk hle (I1.hok.fresh hle)
theorem boot_zip5 : bootBuiltins "zip" = some (.type "zip") := by decide +kernel
def Itz (K : PySem.W.Frag) (a b : Addr) : It :=
  ⟨fun i H => ∃ (xs ys : List V) (x y : V), SqL K H a xs ∧ SqL K H b ys ∧ xs[i]? = some x ∧ ys[i]? = some y,
    fun i H v H' => ∃ T x y, v = .ref T ∧ H T = none ∧ H' = upd H T (.tup [x, y]) ∧ (∀ xs, SqL K H a xs → xs[i]? = some x) ∧ ∀ ys, SqL K H b ys → ys[i]? = some y,
    fun i H => ∃ xs ys : List V, SqL K H a xs ∧ SqL K H b ys ∧ (xs.length ≤ i ∨ ys.length ≤ i)⟩
theorem turn_zip {P : Program} {w : World} {K : PySem.W.Frag} {elts : List Expr} {kk : Nat} {tpos : Pos} {a b z TI TO i1 i2 : Addr} (D : ZipApart z TI TO i1 i2 a b) :
    Turn P w K (.Tuple elts kk tpos) (Itz K a b) [z, TI, TO, i1, i2] z (fun i h => IsZip h z TI TO .none ∧ IsPair h TI (.ref i1) (.ref i2) ∧ (∃ x y, IsPair h TO x y) ∧ h.IsListIter i1 a i ∧ h.IsListIter i2 b i) where
  mem := by simp
  obj := fun i h st c hc => by
    obtain ⟨hz, hTI, ⟨x, y, hTO⟩, ⟨o1, e1, _, d1⟩, ⟨o2, e2, _, d2⟩⟩ := st
    have e' : c = z ∨ c = TI ∨ c = TO ∨ c = i1 ∨ c = i2 := by simpa using hc
    rcases e' with q | q | q | q | q
    · rw [q]; exact ⟨_, hz, fun v q => nomatch q⟩
    · rw [q]; exact ⟨_, hTI, fun v q => nomatch q⟩
    · rw [q]; exact ⟨_, hTO, fun v q => nomatch q⟩
    · rw [q]; exact ⟨o1, e1, fun v q => by rw [d1] at q; cases q⟩
    · rw [q]; exact ⟨o2, e2, fun v q => by rw [d2] at q; cases q⟩
  keep := fun i h h' st k => by
    obtain ⟨hz, hTI, ⟨x, y, hTO⟩, h1, h2⟩ := st
    exact ⟨k z (by simp) _ hz, k TI (by simp) _ hTI, ⟨x, y, k TO (by simp) _ hTO⟩, h1.at fun o q => k i1 (by simp) o q, h2.at fun o q => k i2 (by simp) o q⟩
  item := by
    intro X hP hw hK hc i pins s σ H E I hf st hg
    subst hP hw hK
    obtain ⟨hz, hTI, ⟨x0, y0, hTO⟩, h1, h2⟩ := st
    obtain ⟨xs, ys, x, y, hqx, hqy, hx, hy⟩ := hg
    obtain ⟨its, rv, p, _⟩ := I.list hqx
    obtain ⟨its2, rv2, p2, _⟩ := I.list hqy
    obtain ⟨u, hu, ru⟩ := rv.get hx
    obtain ⟨u2, hu2, ru2⟩ := rv2.get hy
    have hzl : z < s.heap.objs.size := Heap.lt_size hz
    refine wpAny_pyNext_zip_item D hz hTI hTO h1 h2 p.isList p2.isList (x := u) (y := u2) (by simpa using hu) (by simpa using hu2) fun h' z' TO' h1' h2' hT hsz hk => ?_
    refine ⟨_, rfl, wpAny_letOwnedTupleGo_zip (s := { s with heap := h' }) z' fun h'' z'' sb => ?_⟩
    have hT2 : h''.get? s.heap.objs.size = some { cls := .type "tuple", data := .seq #[u, u2] } := (sb.2 _ (Nat.ne_of_gt hzl)).trans hT
    have new : ObjOk X.prog X.w (upd H s.heap.objs.size (.tup [x, y])) h'' s.heap.objs.size (.tup [x, y]) :=
      ⟨by show 2 ≤ sizeLine; decide, [u, u2], .cons ru (.cons ru2 .nil), ⟨_, hT2, rfl, _, rfl⟩⟩
    have I1 : Inv X pins σ (upd H s.heap.objs.size (.tup [x, y])) { s with heap := h'' } :=
      I.turnedNew (t' := s.toks) (ch := [z, TI, TO, i1, i2]) (fun c o hb q => (sb.2 c (fun q' => hb (by simp [q']))).trans (hk c o (fun q' => hb (by simp [q'])) (fun q' => hb (by simp [q'])) (fun q' => hb (by simp [q'])) (fun q' => hb (by simp [q'])) q)) hf (Nat.le_refl _) new
    refine ⟨.ref s.heap.objs.size, _, I1, rfl, ⟨_, x, y, rfl, I.hok.fresh (Nat.le_refl _), rfl, fun l hl => by rw [I.list_inj hl hqx]; exact hx, fun l hl => by rw [I.list_inj hl hqy]; exact hy⟩, ⟨z'', ?_, ⟨u, u2, ?_⟩, ?_, ?_⟩, fun c hcm => ?_⟩
    · exact (sb.2 _ D.TIz).trans (hk _ _ D.TIz D.TITO D.TIi1 D.TIi2 hTI)
    · exact (sb.2 _ D.TOz).trans TO'
    · exact h1'.at fun o q => (sb.2 _ D.i1z).trans q
    · exact h2'.at fun o q => (sb.2 _ D.i2z).trans q
    · have hlt : c < s.heap.objs.size := by
        have e' : c = z ∨ c = TI ∨ c = TO ∨ c = i1 ∨ c = i2 := by simpa using hcm
        rcases e' with q | q | q | q | q
        · rw [q]; exact hzl
        · rw [q]; exact Heap.lt_size hTI
        · rw [q]; exact Heap.lt_size hTO
        · rw [q]; obtain ⟨_, e1, _⟩ := h1; exact Heap.lt_size e1
        · rw [q]; obtain ⟨_, e2, _⟩ := h2; exact Heap.lt_size e2
      rw [upd_ne (Nat.ne_of_lt hlt)]
      exact (hf c hcm).1
  done := by
    intro X hP hw hK hc i pins s σ H E I hf st hg
    subst hP hw hK
    obtain ⟨hz, hTI, ⟨x0, y0, hTO⟩, h1, h2⟩ := st
    obtain ⟨xs, ys, hqx, hqy, hend⟩ := hg
    obtain ⟨its, rv, p, _⟩ := I.list hqx
    obtain ⟨its2, rv2, p2, _⟩ := I.list hqy
    have l1 := rv.length
    have l2 := rv2.length
    have he : its.toArray[i]? = none ∨ its2.toArray[i]? = none := by
      rcases hend with q | q
      · exact .inl (by simp; omega)
      · exact .inr (by simp; omega)
    exact wpAny_pyNext_zip_end (I.ok.hd hc) D hz hTI hTO h1 h2 p.isList p2.isList he fun h' hk => ⟨rfl, I.turnedL (t' := s.toks) (ch := [z, TI, TO, i1, i2]) (fun c o hb q =>
      hk c o (fun q' => hb (by simp [q'])) (fun q' => hb (by simp [q'])) (fun q' => hb (by simp [q'])) (fun q' => hb (by simp [q'])) q) hf⟩
  self := fun A i s Q E st h => wpAny_pyIter_zip st.1 h
def iZip (K : PySem.W.Frag) (ta : TA) : TI := fun σ H R => ta σ H fun vs H1 => ∃ a b xs ys, vs = [.ref a, .ref b] ∧ SqL K H1 a xs ∧ SqL K H1 b ys ∧ R (Itz K a b) H1
theorem pi_zip {X : Cx} {e e2 : Expr} {ta : TA} {p pos tpos : Pos} {elts : List Expr} {kk : Nat} (hg : Gl X "zip") (hm : X.mg "zip" = none) (ha : PA X [e, e2] ta)
    (hs : starEach [e, e2] X.env = (false, eval e X.env) :: starEach [e2] X.env := by rfl) (hpl : (backTo pos (starEach [e2] X.env)).any (·.1) = false := by rfl) :
    PI X (.Tuple elts kk tpos) (.Call (.Name "zip" p) [e, e2] [] pos) (iZip X.K ta) := by
  intro pins s σ H R I h
  refine Call_ (ld_blt I hg hm boot_zip5 (PyProof.Rows.callWith_type1 (thn (ha pos pins s σ H _ I h) fun us s1 ⟨vs, H1, I1, r1, q1⟩ => ?_) hs hpl))
  obtain ⟨a, b, xs, ys, ex, hqx, hqy, q⟩ := q1
  subst ex
  cases r1 with
  | cons r rr =>
    cases rr with
    | cons r' rr =>
      cases rr
      cases r
      cases r'
      obtain ⟨its, rv, p1, _⟩ := I1.list hqx
      obtain ⟨its2, rv2, p2, _⟩ := I1.list hqy
      have la : a < s1.heap.objs.size := p1.lt
      have lb : b < s1.heap.objs.size := p2.lt
      refine call_zip_2 p1.isList p2.isList fun h' hz hTI hTO h1 h2 hsz hk => wpAny_pyIter_zip hz ?_
      have I2 : Inv X pins σ H1 { s1 with heap := h' } := I1.kept (t' := s1.toks) hk
      refine ⟨s1.heap.objs.size + 4, [s1.heap.objs.size + 4, s1.heap.objs.size + 2, s1.heap.objs.size + 3, s1.heap.objs.size, s1.heap.objs.size + 1], _, _, H1, rfl, I2, turn_zip (PySem.W.ktu_apart s1.heap.objs.size a b la lb), ⟨hz, hTI, ⟨_, _, hTO⟩, h1, h2⟩, fun c hcm => ?_, q⟩
      have e' : c = s1.heap.objs.size + 4 ∨ c = s1.heap.objs.size + 2 ∨ c = s1.heap.objs.size + 3 ∨ c = s1.heap.objs.size ∨ c = s1.heap.objs.size + 1 := by simpa using hcm
      have hle : s1.heap.objs.size ≤ c := by
        rcases e' with z | z | z | z | z
        · rw [z]; exact Nat.le_add_right _ _
        · rw [z]; exact Nat.le_add_right _ _
        · rw [z]; exact Nat.le_add_right _ _
        · rw [z]; exact Nat.le_refl _
        · rw [z]; exact Nat.le_add_right _ _
      exact I1.fpOk hle (I1.hok.fresh hle)
end L2
section 
namespace Bits
open PySem PyProof.Rows
theorem nat_and_mul_pow (k : Nat) : ∀ a b : Nat, a < 2 ^ k → a &&& (b * 2 ^ k) = 0 := by
  induction k with
  | zero =>
    intro a b h
    have h0 : a = 0 := by
      rw [Nat.pow_zero] at h
      omega
    subst h0
    simp
  | succ k ih =>
    intro a b h
    have hm : (b * 2 ^ (k + 1)) = (b * 2 ^ k) * 2 := by rw [Nat.pow_succ, Nat.mul_assoc]
    have hlt : a / 2 < 2 ^ k := by
      rw [Nat.pow_succ] at h
      generalize 2 ^ k = m at h ⊢
      omega
    have i := ih (a / 2) b hlt
    rw [hm]
    generalize b * 2 ^ k = B at i ⊢
    have e : (a &&& (B * 2)) / 2 = a / 2 &&& (B * 2) / 2 := Nat.and_div_two
    have e2 : (B * 2) / 2 = B := by omega
    have o := @Nat.and_mod_two_eq_one a (B * 2)
    rw [e2, i] at e
    omega
theorem natCast_mul_pow (m k : Nat) : (m : Int) * 2 ^ k = ((m * 2 ^ k : Nat) : Int) := by
  rw [two_pow_cast]
  first
    | exact (Int.natCast_mul _ _).symm
    | simp
theorem bitOr_join {a b : Int} {k : Nat} (h0 : 0 ≤ a) (h1 : a < 2 ^ k) (hb : 0 ≤ b) : Builtin.bitOr a (b * 2 ^ k) = a + b * 2 ^ k := by
  obtain ⟨n, rfl⟩ := Int.eq_ofNat_of_zero_le h0
  obtain ⟨m, rfl⟩ := Int.eq_ofNat_of_zero_le hb
  have hn : n < 2 ^ k := by
    rw [two_pow_cast] at h1
    omega
  have e : Builtin.bitAnd (n : Int) ((m * 2 ^ k : Nat) : Int) = 0 := by
    rw [bitAnd_pp (by omega) (by omega), Int.toNat_natCast, Int.toNat_natCast, nat_and_mul_pow k n m hn] <;> rfl
  rw [natCast_mul_pow, bitOr_and, e]
  omega
theorem bitOr_join' {a b : Int} {k : Nat} (h0 : 0 ≤ a) (h1 : a < 2 ^ k) (hb : 0 ≤ b) : Builtin.bitOr (b * 2 ^ k) a = a + b * 2 ^ k := by
  rw [bitOr_comm]
  exact bitOr_join h0 h1 hb
theorem bitAnd_mask {x : Int} (k : Nat) (hx : 0 ≤ x) : Builtin.bitAnd x (2 ^ k - 1) = x % 2 ^ k := by
  obtain ⟨n, rfl⟩ := Int.eq_ofNat_of_zero_le hx
  have hp : 0 < 2 ^ k := Nat.two_pow_pos k
  rw [two_pow_cast]
  have e : ((2 ^ k : Nat) : Int) - 1 = ((2 ^ k - 1 : Nat) : Int) := by
    generalize (2 : Nat) ^ k = m at hp
    omega
  rw [e, bitAnd_pp (by omega) (by omega), Int.toNat_natCast, Int.toNat_natCast, Nat.and_two_pow_sub_one_eq_mod]
  first
    | rfl
    | exact Int.natCast_emod _ _
    | simp
end Bits
end 
section 
namespace TL
open PySem PySem.Builtin PySem.Builtin.Str PySem.StrLaws
end TL
end 
namespace L2
open PySem PySem.Spec PyProof.Rows
section
variable {X : Cx} {pins : List (Addr × Obj)} {σ : St} {H : Hp} {s : Shared} {Q : VK}
end
section
variable {X : Cx}
end
section
variable {X : Cx} {o e : Expr} {to te : TE}
end
end L2
namespace L2
open PySem PySem.Spec PyProof.Rows
section
variable {X : Cx}
end
end L2
namespace Att
open PySem PySem.W PySem.Calls PyProof.Rows
section
variable {prog : Program} {w : World} {A : Around} {E : Value → Shared → Prop} {s : Shared} {K : Frag}
end
end Att
namespace L2
open PySem PySem.Spec PyProof.Rows
end L2
namespace L2
open PySem PySem.Spec PyProof.Rows
end L2
namespace L2
open PySem PySem.Spec PyProof.Rows
def inClass (s : Stmt) (j : Nat) : Stmt := match s with
  | .ClassDef _ _ _ body _ _ _ _ _ _ _ => body.getD j (.Pass ⟨0, 0, 0, 0⟩)
  | _ => .Pass ⟨0, 0, 0, 0⟩
def defArgs (s : Stmt) : Arguments := match s with
  | .FunctionDef _ a _ _ _ _ _ _ _ _ => a
  | _ => { posonlyargs := [], args := [], vararg := none, kwonlyargs := [], kw_defaults := [], kwarg := none, defaults := [] }
def defBody (s : Stmt) : List Stmt := match s with
  | .FunctionDef _ _ b _ _ _ _ _ _ _ => b
  | _ => []
def defScope (s : Stmt) : Scope := match s with
  | .FunctionDef _ _ _ _ _ _ sc _ _ _ => sc
  | _ => { kind := .function, names := [], isGenerator := false, isCoroutine := false }
abbrev CX0 : CXT := fun _ _ _ _ _ _ => False
abbrev E0 : XK := fun _ _ _ => False
structure Fun (K : PySem.W.Frag) (x qual : Str) (st : Stmt) (f : Addr) (fd : FuncData) : Prop where
  ex : ∃ (oc : Value) (od : Option Addr) (kV doc pm : Value) (an : Option Addr) (cdv ct : Value) (osl : Array (Option Value)),
    fd = PySem.W.fnOf x qual (defArgs st) (defBody st) (defScope st) .none kV doc pm an cdv ct ∧ K.lookup f = some ⟨oc, od, .func fd, osl⟩ ∧ PySem.W.codeIn K cdv qual = true
  kp : PySem.W.keepIn K (.ref f) = true
section
variable {P : Program} {w : World} {K : PySem.W.Frag} {mg : Str → Option Value} {base : Heap}
theorem Fun.binds {x qual : Str} {st : Stmt} {f : Addr} {fd : FuncData} {ps : List Str} (F : Fun K x qual st f fd)
    (h : ∀ (kV doc pm : Value) (an : Option Addr) (cdv ct : Value) (us : List Value), us.length = ps.length → bindArgs (PySem.W.fnOf x qual (defArgs st) (defBody st) (defScope st) .none kV doc pm an cdv ct) ⟨us, []⟩ = pure (ps.zip us)) : Binds K fd ps [] := by
  obtain ⟨oc, od, kV, doc, pm, an, cdv, ct, osl, rfl, lk, hcd⟩ := F.ex
  exact .all (h kV doc pm an cdv ct)
theorem fun_mk {x qual : Str} {st : Stmt} {f : Addr} {oc : Value} {od an : Option Addr} {osl : Array (Option Value)} {kV doc pm cdv ct : Value} (l : K.lookup f = some ⟨oc, od, .func (PySem.W.fnOf x qual (defArgs st) (defBody st) (defScope st) .none kV doc pm an cdv ct), osl⟩)
    (c : PySem.W.codeIn K cdv qual = true) (k : PySem.W.keepIn K (.ref f) = true) : Fun K x qual st f (PySem.W.fnOf x qual (defArgs st) (defBody st) (defScope st) .none kV doc pm an cdv ct) := ⟨⟨oc, od, kV, doc, pm, an, cdv, ct, osl, rfl, l, c⟩, k⟩
end
section
variable {X : Cx}
theorem pv (i : Nat) {x : Str} {pos : Pos} (hN : X.N[i]? = some x := by rfl) (hv : Vis X.env.scope x := by first | exact Or.inl rfl | exact Or.inr (Or.inl rfl) | exact Or.inr (Or.inr rfl)) (hd : (x == ("__debug__" : Str)) = false := by decide)
    (hcd : (x == ("__classdict__" : Str)) = false := by decide) : PE X (.Name x pos) (tVar i) := pe_var hN hv hd hcd
end
theorem iteF {A B : Prop} (h : B) : if false = true then A else B := by
  rw [if_neg Bool.false_ne_true]
  exact h
theorem iteT {A B : Prop} (h : A) : if true = true then A else B := by
  rw [if_pos rfl]
  exact h
theorem ite2 {c A B : Prop} [Decidable c] (h1 : c → A) (h2 : ¬ c → B) : if c then A else B := by
  by_cases h : c
  · rw [if_pos h]
    exact h1 h
  · rw [if_neg h]
    exact h2 h
def Same (H H' : Hp) : Prop := ∀ b o, H b = some o → H' b = some o
theorem Same.refl (H : Hp) : Same H H := fun _ _ h => h
theorem Same.trans {H H1 H2 : Hp} (a : Same H H1) (b : Same H1 H2) : Same H H2 := fun c o h => b c o (a c o h)
theorem Same.free {H H' : Hp} (e : Same H H') {l : Addr} (h : H' l = Option.none) : H l = Option.none := by
  cases q : H l with
  | none => rfl
  | some o =>
    rw [e l o q] at h
    cases h
theorem Same.seq {K : PySem.W.Frag} {H H' : Hp} {a : Addr} {xs : List V} (e : Same H H') (h : SqL K H a xs) : SqL K H' a xs := by
  rcases h with (h | ⟨o, h⟩) | h
  · exact .inl (.inl (e _ _ h))
  · exact .inl (.inr ⟨o, e _ _ h⟩)
  · exact .inr h
section
variable {κ : Type} [DecidableEq κ]
end
theorem at_of {xs : List V} {z : Int} {j : Nat} {v : V} (e : z = (j : Int)) (h : xs[j]? = some v) : atI xs z = some v := by
  rw [e]
  exact atI_nat h
theorem Same.made {H H1 : Hp} {x dx C : Addr} (nx : H x = Option.none) (nd : H dx = Option.none) (k : ∀ b o, (upd (upd H dx (.own x)) x (.ins C dx [])) b = some o → b ≠ x → H1 b = some o) : Same H H1 := fun b o e =>
  k b o (by rw [upd_ne (ne_of_none e nx), upd_ne (ne_of_none e nd)]; exact e) (ne_of_none e nx)
end L2
end
section
set_option Elab.async false
set_option linter.all false
set_option maxRecDepth 100000
set_option maxHeartbeats 2000000
namespace L2
open PySem PySem.Spec PyProof.Rows
open PySem.W (WData Codec OpenSpec Well WellAll ReadsW ReadsAllW)
/-! ### an answer as data -/
mutual
/-- x stands for the datum d, lists and tuples all the way -/
inductive Dw (K : PySem.W.Frag) (H : Hp) : V → WData → Prop
  | non : Dw K H .non .none
  | bl (b : Bool) : Dw K H (.bl b) (.bool b)
  | int (i : Int) : Dw K H (.int i) (.int i)
  | str (x : Str) : Dw K H (.str x) (.str x)
  | byt (b : Array UInt8) : Dw K H (.byt b) (.bytes b.toList)
  | lst {a : Addr} {xs : List V} {ds : List WData} : SqL K H a xs → DwAll K H xs ds → Dw K H (.ref a) (.list ds)
  | tup {a : Addr} {xs : List V} {ds : List WData} : SqT K H a xs → DwAll K H xs ds → Dw K H (.ref a) (.tuple ds)
inductive DwAll (K : PySem.W.Frag) (H : Hp) : List V → List WData → Prop
  | nil : DwAll K H [] []
  | cons {v : V} {vs : List V} {d : WData} {ds : List WData} : Dw K H v d → DwAll K H vs ds → DwAll K H (v :: vs) (d :: ds)
end
theorem dw_ints {K : PySem.W.Frag} {H : Hp} : ∀ ns : List Int, DwAll K H (ns.map V.int) (ns.map WData.int)
  | [] => .nil
  | n :: r => .cons (.int n) (dw_ints r)
theorem ints_dw {K : PySem.W.Frag} {H : Hp} : ∀ (ns : List Int) (xs : List V), DwAll K H xs (ns.map WData.int) → xs = ns.map V.int
  | [], xs, h => by
    cases h
    rfl
  | n :: r, xs, h => by
    cases h with
    | cons h1 h2 =>
      cases h1
      rw [ints_dw r _ h2] <;> rfl
section
variable {P : Program} {w : World} {K : PySem.W.Frag} {H : Hp} {h : Heap} {R : PySem.W.WRecords} {cl : Str → Option Addr}
theorem sqL_at {a : Addr} {xs : List V} (hok : HOk P w H h) (KX : K.In h) (q : SqL K H a xs) : ∃ (its : List Value) (o : Obj) (n : Nat), Vals xs its ∧ h.get? a = some o ∧ o.cls = .type "list" ∧ o.data = .seq its.toArray n := by
  rcases q with q | ⟨o, its, n, e, hc, _, hd, _, hv⟩
  · obtain ⟨_, its, n, hv, e⟩ := (show ObjOk P w H h a (.lst xs) from q.ok hok)
    exact ⟨its, _, n, hv, e, rfl, rfl⟩
  · exact ⟨its.toList, o, n, hv, KX _ _ e, hc, by simp [hd]⟩
theorem sqT_at {a : Addr} {xs : List V} (hok : HOk P w H h) (KX : K.In h) (q : SqT K H a xs) : ∃ (its : List Value) (o : Obj) (n : Nat), Vals xs its ∧ h.get? a = some o ∧ o.cls = .type "tuple" ∧ o.data = .seq its.toArray n := by
  rcases q with q | ⟨o, its, n, e, hc, hd, _, hv⟩
  · obtain ⟨_, its, hv, o, e, hc, n, hd⟩ := (show ObjOk P w H h a (.tup xs) from q.ok hok)
    exact ⟨its, o, n, hv, e, hc, hd⟩
  · exact ⟨its.toList, o, n, hv, KX _ _ e, hc, by simp [hd]⟩
mutual
theorem Dw.reads (hok : HOk P w H h) (KX : K.In h) : ∀ (d : WData) (v : V) (u : Value), Dw K H v d → RelV v u → ∃ as, ReadsW R cl h u d as
  | .none, _, _, x, r => by
    cases x
    cases r
    exact ⟨_, ReadsW.none⟩
  | .bool b, _, _, x, r => by
    cases x
    cases r
    exact ⟨_, ReadsW.bool b⟩
  | .int i, _, _, x, r => by
    cases x
    obtain ⟨t, rfl⟩ := r
    exact ⟨_, ReadsW.int i t⟩
  | .str s, _, _, x, r => by
    cases x
    obtain ⟨t, rfl⟩ := r
    exact ⟨_, ReadsW.str s t⟩
  | .bytes b, _, _, x, r => by
    cases x
    obtain ⟨t, rfl⟩ := r
    exact ⟨_, ReadsW.bytes _ t⟩
  | .list ds, _, _, x, r => by
    cases x with
    | lst hs ha =>
      cases r
      obtain ⟨its, o, n, rv, ho, hc, hd⟩ := sqL_at hok KX hs
      obtain ⟨as, hr⟩ := Dw.readsAll hok KX ds _ its ha rv
      exact ⟨_, ReadsW.list ho hc hd hr⟩
  | .tuple ds, _, _, x, r => by
    cases x with
    | tup hs ha =>
      cases r
      obtain ⟨its, o, n, rv, ho, hc, hd⟩ := sqT_at hok KX hs
      obtain ⟨as, hr⟩ := Dw.readsAll hok KX ds _ its ha rv
      exact ⟨_, ReadsW.tuple ho hc hd hr⟩
  | .float _, _, _, x, _ => by cases x
  | .dict _, _, _, x, _ => by cases x
  | .bytearray _, _, _, x, _ => by cases x
  | .set _, _, _, x, _ => by cases x
  | .frozenset _, _, _, x, _ => by cases x
  | .obj _ _, _, _, x, _ => by cases x
theorem Dw.readsAll (hok : HOk P w H h) (KX : K.In h) : ∀ (ds : List WData) (vs : List V) (us : List Value), DwAll K H vs ds → Vals vs us → ∃ as, ReadsAllW R cl h us ds as
  | [], _, _, x, r => by
    cases x
    cases r
    exact ⟨_, ReadsAllW.nil⟩
  | d :: ds, _, _, x, r => by
    cases x with
    | cons h1 h2 =>
      cases r with
      | cons r1 r2 =>
        obtain ⟨as, q1⟩ := Dw.reads hok KX d _ _ h1 r1
        obtain ⟨bs, q2⟩ := Dw.readsAll hok KX ds _ _ h2 r2
        exact ⟨_, ReadsAllW.cons q1 q2⟩
end
end
/-! ### the arguments -/
mutual
/-- data that a codec tells -/
def plW : WData → Bool
  | .none => true
  | .bool _ => true
  | .int _ => true
  | .str _ => true
  | .bytes _ => true
  | .list xs => plWs xs
  | .tuple xs => plWs xs
  | _ => false
def plWs : List WData → Bool
  | [] => true
  | x :: r => plW x && plWs r
end
theorem plWs_map {α : Type} {f : α → WData} (h : ∀ a, plW (f a) = true) : ∀ l : List α, plWs (l.map f) = true
  | [] => rfl
  | x :: r => by
    show (plW (f x) && plWs (r.map f)) = true
    rw [h x, plWs_map h r] <;> rfl
theorem pl_enc : ∀ (c : Codec) (a : c.denote), plW (c.enc a) = true
  | .unit, _ => rfl
  | .bool, _ => rfl
  | .int _ _, _ => rfl
  | .nat _ _, _ => rfl
  | .u8, _ => rfl
  | .bytes _ _, _ => rfl
  | .text _ _ _ _, _ => rfl
  | .list _ _ c, a => plWs_map (fun x => pl_enc c x) a
  | .pair c d, a => by
    show (plW (c.enc a.1) && (plW (d.enc a.2) && true)) = true
    rw [pl_enc c a.1, pl_enc d a.2] <;> rfl
  | .triple c d e, a => by
    show (plW (c.enc a.1) && (plW (d.enc a.2.1) && (plW (e.enc a.2.2) && true))) = true
    rw [pl_enc c a.1, pl_enc d a.2.1, pl_enc e a.2.2] <;> rfl
  | .option c, none => rfl
  | .option c, some x => pl_enc c x
theorem pl_encAll : ∀ (cs : List Codec) (a : Codec.denoteAll cs), plWs (Codec.encAll cs a) = true
  | [], _ => rfl
  | c :: cs, a => by
    show (plW (c.enc a.1) && plWs (Codec.encAll cs a.2)) = true
    rw [pl_enc c a.1, pl_encAll cs a.2] <;> rfl
theorem weight_mem : ∀ {xs : List WData} {d : WData}, d ∈ xs → d.weight ≤ WData.weightAll xs
  | [], d, h => absurd h (by simp)
  | x :: r, d, h => by
    show d.weight ≤ x.weight + 1 + WData.weightAll r
    rcases List.mem_cons.mp h with e | m
    · rw [e]
      omega
    · have z := weight_mem m
      omega
def toV : Value → V
  | .none => .non
  | .bool b => .bl b
  | .int i _ => .int i
  | .str x _ => .str x
  | .bytes b _ => .byt b
  | .ref a => .ref a
  | _ => .non
/-- a value of the arguments, its objects among A -/
def OkU (A : List Addr) : Value → Prop
  | .none => True
  | .bool _ => True
  | .int _ _ => True
  | .str _ _ => True
  | .bytes _ _ => True
  | .ref a => a ∈ A
  | _ => False
theorem OkU.mono {A B : List Addr} (h : ∀ a ∈ A, a ∈ B) : ∀ {u : Value}, OkU A u → OkU B u := fun {u} x => by
  cases u with
  | ref a => exact h a x
  | none => trivial
  | bool b => trivial
  | int i t => trivial
  | str s t => trivial
  | bytes b t => trivial
  | _ => exact False.elim x
theorem relV_toV {A : List Addr} {u : Value} (x : OkU A u) : RelV (toV u) u := by
  cases u with
  | ref a => rfl
  | none => rfl
  | bool b => rfl
  | int i t => exact ⟨t, rfl⟩
  | str s t => exact ⟨t, rfl⟩
  | bytes b t => exact ⟨t, rfl⟩
  | _ => exact False.elim x
theorem vals_toV {A : List Addr} : ∀ {vs : List Value}, (∀ u ∈ vs, OkU A u) → Vals (vs.map toV) vs
  | [], _ => .nil
  | u :: r, h => .cons (relV_toV (h u (List.mem_cons_self ..))) (vals_toV fun x hx => h x (List.mem_cons_of_mem _ hx))
/-- an object of the arguments -/
def ArgOb (h : Heap) (A : List Addr) (a : Addr) : Prop := ∃ vs : List Value, vs.length ≤ sizeLine ∧ (∀ u ∈ vs, OkU A u) ∧
  (h.get? a = some { cls := .type "list", data := .seq vs.toArray } ∨ h.get? a = some { cls := .type "tuple", data := .seq vs.toArray })
theorem ArgOb.mono {h : Heap} {A B : List Addr} {a : Addr} (k : ∀ a ∈ A, a ∈ B) (x : ArgOb h A a) : ArgOb h B a := by
  obtain ⟨vs, h1, h2, h3⟩ := x
  exact ⟨vs, h1, fun u hu => (h2 u hu).mono k, h3⟩
theorem wellAll_len {P : Params} {h : Heap} : ∀ {vs : List Value} {ds : List WData}, WellAll P h vs ds → vs.length = ds.length
  | _, _, .nil => rfl
  | _, _, .cons _ b => by
    show _ + 1 = _ + 1
    rw [wellAll_len b]
theorem well_list {P : Params} {h : Heap} {v : Value} {ds : List WData} (x : Well P h v (.list ds)) : ∃ (a : Addr) (vs : List Value), v = .ref a ∧ h.get? a = some { cls := .type "list", data := .seq vs.toArray } ∧ WellAll P h vs ds := by
  cases x with
  | list ho hall => exact ⟨_, _, rfl, ho, hall⟩
theorem well_tuple {P : Params} {h : Heap} {v : Value} {ds : List WData} (x : Well P h v (.tuple ds)) : ∃ (a : Addr) (vs : List Value), v = .ref a ∧ h.get? a = some { cls := .type "tuple", data := .seq vs.toArray } ∧ WellAll P h vs ds := by
  cases x with
  | tuple ho hall => exact ⟨_, _, rfl, ho, hall⟩
theorem well_cons {P : Params} {h : Heap} {us : List Value} {d : WData} {ds : List WData} (x : WellAll P h us (d :: ds)) : ∃ (v : Value) (vs : List Value), us = v :: vs ∧ Well P h v d ∧ WellAll P h vs ds := by
  cases x with
  | cons a b => exact ⟨_, _, rfl, a, b⟩
theorem line_of {n : Nat} (h : n ≤ 1048576) : n ≤ sizeLine := Nat.le_trans h (by decide)
section
variable {P : Params} {h : Heap}
mutual
theorem area_one : ∀ (d : WData) (v : Value), Well P h v d → plW d = true → d.weight ≤ 1048576 → ∃ A : List Addr, OkU A v ∧ ∀ a ∈ A, ArgOb h A a
  | .none, _, x, _, _ => by
    cases x
    exact ⟨[], trivial, fun a m => absurd m (by simp)⟩
  | .bool b, _, x, _, _ => by
    cases x
    exact ⟨[], trivial, fun a m => absurd m (by simp)⟩
  | .int i, _, x, _, _ => by
    cases x
    exact ⟨[], trivial, fun a m => absurd m (by simp)⟩
  | .str s, _, x, _, _ => by
    cases x
    exact ⟨[], trivial, fun a m => absurd m (by simp)⟩
  | .bytes b, _, x, _, _ => by
    cases x
    exact ⟨[], trivial, fun a m => absurd m (by simp)⟩
  | .list ds, _, x, p, z => by
    obtain ⟨a, vs, rfl, ho, hall⟩ := well_list x
    have z2 : WData.weightAll ds ≤ 1048576 := z
    obtain ⟨A, h1, h2⟩ := area_all ds _ hall p fun d hd => Nat.le_trans (weight_mem hd) z2
    have k : ∀ b ∈ A, b ∈ a :: A := fun b hb => List.mem_cons_of_mem _ hb
    refine ⟨a :: A, List.mem_cons_self .., fun b hb => ?_⟩
    rcases List.mem_cons.mp hb with e | m
    · rw [e]
      exact ⟨vs, line_of (by rw [wellAll_len hall]; exact Nat.le_trans (PySem.W.length_le_weightAllW ds) z2), fun u hu => (h1 u hu).mono k, .inl ho⟩
    · exact (h2 b m).mono k
  | .tuple ds, _, x, p, z => by
    obtain ⟨a, vs, rfl, ho, hall⟩ := well_tuple x
    have z2 : WData.weightAll ds ≤ 1048576 := z
    obtain ⟨A, h1, h2⟩ := area_all ds _ hall p fun d hd => Nat.le_trans (weight_mem hd) z2
    have k : ∀ b ∈ A, b ∈ a :: A := fun b hb => List.mem_cons_of_mem _ hb
    refine ⟨a :: A, List.mem_cons_self .., fun b hb => ?_⟩
    rcases List.mem_cons.mp hb with e | m
    · rw [e]
      exact ⟨vs, line_of (by rw [wellAll_len hall]; exact Nat.le_trans (PySem.W.length_le_weightAllW ds) z2), fun u hu => (h1 u hu).mono k, .inr ho⟩
    · exact (h2 b m).mono k
  | .float _, _, _, p, _ => Bool.noConfusion (show false = true from p)
  | .dict _, _, _, p, _ => Bool.noConfusion (show false = true from p)
  | .bytearray _, _, _, p, _ => Bool.noConfusion (show false = true from p)
  | .set _, _, _, p, _ => Bool.noConfusion (show false = true from p)
  | .frozenset _, _, _, p, _ => Bool.noConfusion (show false = true from p)
  | .obj _ _, _, _, p, _ => Bool.noConfusion (show false = true from p)
theorem area_all : ∀ (ds : List WData) (vs : List Value), WellAll P h vs ds → plWs ds = true → (∀ d ∈ ds, d.weight ≤ 1048576) → ∃ A : List Addr, (∀ u ∈ vs, OkU A u) ∧ ∀ a ∈ A, ArgOb h A a
  | [], _, x, _, _ => by
    cases x
    exact ⟨[], fun u m => absurd m (by simp), fun a m => absurd m (by simp)⟩
  | d :: ds, _, x, p, z => by
    obtain ⟨v, vs, rfl, x1, x2⟩ := well_cons x
    have q : plW d = true ∧ plWs ds = true := Bool.and_eq_true_iff.mp p
    obtain ⟨A, a1, a2⟩ := area_one d v x1 q.1 (z d (List.mem_cons_self ..))
    obtain ⟨B, b1, b2⟩ := area_all ds vs x2 q.2 fun e he => z e (List.mem_cons_of_mem _ he)
    have kA : ∀ b ∈ A, b ∈ A ++ B := fun b hb => List.mem_append.mpr (.inl hb)
    have kB : ∀ b ∈ B, b ∈ A ++ B := fun b hb => List.mem_append.mpr (.inr hb)
    refine ⟨A ++ B, fun u hu => ?_, fun b hb => ?_⟩
    · rcases List.mem_cons.mp hu with e | m
      · rw [e]
        exact a1.mono kA
      · exact (b1 u m).mono kB
    · rcases List.mem_append.mp hb with m | m
      · exact (a2 b m).mono kA
      · exact (b2 b m).mono kB
end
end
/-- what is tracked of an argument's object -/
def hoOf (o : Obj) : Option HO := match o.data with
  | .seq vs _ => if (o.cls == Value.type "list") = true then some (.frz o (.lst (vs.toList.map toV))) else some (.frz o (.tup (vs.toList.map toV)))
  | _ => none
def argH (K : PySem.W.Frag) (h : Heap) (A : List Addr) : Hp := fun b => if b ∈ A then (if (K.lookup b).isNone = true then (h.get? b).bind hoOf else none) else none
/-- nothing is tracked but what is known to the object -/
def OnlyF (H : Hp) : Prop := ∀ b, H b = none ∨ ∃ o u, H b = some (.frz o u)
theorem hoOf_lst (vs : List Value) : hoOf { cls := .type "list", data := .seq vs.toArray } = some (.frz { cls := .type "list", data := .seq vs.toArray } (.lst (vs.map toV))) := by
  show (if (Value.type "list" == Value.type "list") = true then some (HO.frz { cls := .type "list", data := .seq vs.toArray } (.lst (vs.toArray.toList.map toV))) else some (HO.frz { cls := .type "list", data := .seq vs.toArray } (.tup (vs.toArray.toList.map toV)))) = _
  rw [if_pos (beq_self_eq_true _)]
theorem hoOf_tup (vs : List Value) : hoOf { cls := .type "tuple", data := .seq vs.toArray } = some (.frz { cls := .type "tuple", data := .seq vs.toArray } (.tup (vs.map toV))) := by
  show (if (Value.type "tuple" == Value.type "list") = true then some (HO.frz { cls := .type "tuple", data := .seq vs.toArray } (.lst (vs.toArray.toList.map toV))) else some (HO.frz { cls := .type "tuple", data := .seq vs.toArray } (.tup (vs.toArray.toList.map toV)))) = _
  rw [if_neg (by decide)]
section
variable {P : Program} {w : World} {K : PySem.W.Frag} {h : Heap} {A : List Addr}
theorem argH_at {b : Addr} {o : Obj} (hb : b ∈ A) (hk : K.lookup b = none) (e : h.get? b = some o) : argH K h A b = hoOf o := by
  unfold argH
  rw [if_pos hb, hk, if_pos (show (none : Option Obj).isNone = true from rfl), e] <;> rfl
theorem of_argH {b : Addr} {u : HO} (q : argH K h A b = some u) : b ∈ A ∧ K.lookup b = none := by
  unfold argH at q
  by_cases hb : b ∈ A
  · rw [if_pos hb] at q
    cases hk : K.lookup b with
    | none => exact ⟨hb, rfl⟩
    | some o =>
      rw [hk, if_neg (by simp)] at q
      cases q
  · rw [if_neg hb] at q
    cases q
/-- what stands tracked -/
theorem argH_is (ar : ∀ a ∈ A, ArgOb h A a) {b : Addr} {u : HO} (q : argH K h A b = some u) : K.lookup b = none ∧ ∃ vs : List Value, vs.length ≤ sizeLine ∧ (∀ u ∈ vs, OkU A u) ∧
    ((h.get? b = some { cls := .type "list", data := .seq vs.toArray } ∧ u = .frz { cls := .type "list", data := .seq vs.toArray } (.lst (vs.map toV))) ∨
     (h.get? b = some { cls := .type "tuple", data := .seq vs.toArray } ∧ u = .frz { cls := .type "tuple", data := .seq vs.toArray } (.tup (vs.map toV)))) := by
  obtain ⟨hb, hk⟩ := of_argH q
  obtain ⟨vs, h1, h2, h3⟩ := ar b hb
  refine ⟨hk, vs, h1, h2, ?_⟩
  rcases h3 with e | e
  · rw [argH_at hb hk e, hoOf_lst] at q
    exact .inl ⟨e, (Option.some.inj q).symm⟩
  · rw [argH_at hb hk e, hoOf_tup] at q
    exact .inr ⟨e, (Option.some.inj q).symm⟩
theorem argH_only (ar : ∀ a ∈ A, ArgOb h A a) : OnlyF (argH K h A) := fun b => by
  cases q : argH K h A b with
  | none => exact .inl rfl
  | some u =>
    obtain ⟨_, vs, _, _, ⟨_, e⟩ | ⟨_, e⟩⟩ := argH_is ar q
    · exact .inr ⟨_, _, by rw [e]⟩
    · exact .inr ⟨_, _, by rw [e]⟩
theorem argH_ok (ar : ∀ a ∈ A, ArgOb h A a) : HOk P w (argH K h A) h := fun b u q => by
  obtain ⟨_, vs, h1, h2, ⟨e, rfl⟩ | ⟨e, rfl⟩⟩ := argH_is ar q
  · exact ⟨e, by rw [List.length_map]; exact h1, vs, _, vals_toV h2, e⟩
  · exact ⟨e, by rw [List.length_map]; exact h1, vs, vals_toV h2, _, e, rfl, _, rfl⟩
theorem seq_inj {c c' : Value} {vs us : List Value} (e : (some { cls := c, data := .seq vs.toArray } : Option Obj) = some { cls := c', data := .seq us.toArray }) : c = c' ∧ vs = us := by
  have e1 := Option.some.inj e
  have e2 : c = c' := congrArg Obj.cls e1
  have e3 : Data.seq vs.toArray = Data.seq us.toArray := congrArg Obj.data e1
  injection e3 with e4
  refine ⟨e2, ?_⟩
  have e5 := congrArg Array.toList e4
  simpa using e5
/-- a list argument -/
theorem argL (KX : K.In h) (ar : ∀ a ∈ A, ArgOb h A a) {a : Addr} {vs : List Value} (ha : a ∈ A) (e : h.get? a = some { cls := .type "list", data := .seq vs.toArray }) : (∀ u ∈ vs, OkU A u) ∧ SqL K (argH K h A) a (vs.map toV) := by
  obtain ⟨us, h1, h2, h3⟩ := ar a ha
  have hu : us = vs := by
    rcases h3 with q | q
    · rw [e] at q
      exact (seq_inj q).2.symm
    · rw [e] at q
      exact absurd (Value.type.inj (seq_inj q).1) (by decide)
  subst hu
  refine ⟨h2, ?_⟩
  cases hk : K.lookup a with
  | none => exact .inl (.inr ⟨_, by rw [argH_at ha hk e, hoOf_lst]⟩)
  | some o =>
    have e2 := KX a o hk
    rw [e] at e2
    obtain rfl := Option.some.inj e2
    exact .inr ⟨_, us.toArray, _, hk, rfl, rfl, rfl, by rw [List.size_toArray]; exact h1, by simpa using vals_toV h2⟩
theorem argT (KX : K.In h) (ar : ∀ a ∈ A, ArgOb h A a) {a : Addr} {vs : List Value} (ha : a ∈ A) (e : h.get? a = some { cls := .type "tuple", data := .seq vs.toArray }) : (∀ u ∈ vs, OkU A u) ∧ SqT K (argH K h A) a (vs.map toV) := by
  obtain ⟨us, h1, h2, h3⟩ := ar a ha
  have hu : us = vs := by
    rcases h3 with q | q
    · rw [e] at q
      exact absurd (Value.type.inj (seq_inj q).1) (by decide)
    · rw [e] at q
      exact (seq_inj q).2.symm
  subst hu
  refine ⟨h2, ?_⟩
  cases hk : K.lookup a with
  | none => exact .inl (.inr ⟨_, by rw [argH_at ha hk e, hoOf_tup]⟩)
  | some o =>
    have e2 := KX a o hk
    rw [e] at e2
    obtain rfl := Option.some.inj e2
    exact .inr ⟨_, us.toArray, _, hk, rfl, rfl, by rw [List.size_toArray]; exact h1, by simpa using vals_toV h2⟩
mutual
theorem dw_one {Pm : Params} (KX : K.In h) (ar : ∀ a ∈ A, ArgOb h A a) : ∀ (d : WData) (v : Value), Well Pm h v d → plW d = true → OkU A v → Dw K (argH K h A) (toV v) d
  | .none, _, x, _, _ => by
    cases x
    exact .non
  | .bool b, _, x, _, _ => by
    cases x
    exact .bl b
  | .int i, _, x, _, _ => by
    cases x
    exact .int i
  | .str s, _, x, _, _ => by
    cases x
    exact .str s
  | .bytes b, _, x, _, _ => by
    cases x
    have z := Dw.byt (K := K) (H := argH K h A) b.toArray
    exact z
  | .list ds, _, x, p, hu => by
    obtain ⟨a, vs, rfl, ho, hall⟩ := well_list x
    obtain ⟨h2, hs⟩ := argL KX ar hu ho
    exact .lst hs (dw_all KX ar ds _ hall p h2)
  | .tuple ds, _, x, p, hu => by
    obtain ⟨a, vs, rfl, ho, hall⟩ := well_tuple x
    obtain ⟨h2, hs⟩ := argT KX ar hu ho
    exact .tup hs (dw_all KX ar ds _ hall p h2)
  | .float _, _, _, p, _ => Bool.noConfusion (show false = true from p)
  | .dict _, _, _, p, _ => Bool.noConfusion (show false = true from p)
  | .bytearray _, _, _, p, _ => Bool.noConfusion (show false = true from p)
  | .set _, _, _, p, _ => Bool.noConfusion (show false = true from p)
  | .frozenset _, _, _, p, _ => Bool.noConfusion (show false = true from p)
  | .obj _ _, _, _, p, _ => Bool.noConfusion (show false = true from p)
theorem dw_all {Pm : Params} (KX : K.In h) (ar : ∀ a ∈ A, ArgOb h A a) : ∀ (ds : List WData) (vs : List Value), WellAll Pm h vs ds → plWs ds = true → (∀ u ∈ vs, OkU A u) → DwAll K (argH K h A) (vs.map toV) ds
  | [], _, x, _, _ => by
    cases x
    exact .nil
  | d :: ds, _, x, p, hu => by
    obtain ⟨v, vs, rfl, x1, x2⟩ := well_cons x
    have q : plW d = true ∧ plWs ds = true := Bool.and_eq_true_iff.mp p
    exact .cons (dw_one KX ar d v x1 q.1 (hu _ (List.mem_cons_self ..))) (dw_all KX ar ds vs x2 q.2 fun u m => hu u (List.mem_cons_of_mem _ m))
end
end
/-! ### the call -/
theorem spec_call {P : Program} {w : World} {K : PySem.W.Frag} {mg mb : Str → Option Value} {CX : CXT} {k : Nat} {fa : Addr} {fd : FuncData} {ps : List Str} {sp : Sp} {s₁ : Shared} {vals : List Value} {ds : List WData} {R : PySem.W.WRecords} {cl : Str → Option Addr} {d0 : WData}
    (KX : K.In s₁.heap) (hns : s₁.heap.Ns mainGlobals mg) (hb : s₁.heap.Ns builtinsNs mb) (hbb : ∀ x : Str, x ≠ "__name__" → mb x = bootBuiltins x) (hlim : s₁.heap.NoLimit) (hg : s₁.gens = #[])
    (hwl : WellAll w.params s₁.heap vals ds) (hpl : plWs ds = true) (hwt : ∀ d ∈ ds, d.weight ≤ 1048576) (hr : Room k callerA)
    (F : ∀ base : Heap, K.In base → base.Ns mainGlobals mg → FnOk P w K mg base CX k fa fd ps sp) (hbind : ∀ (s : Shared) (us : List Value), us.length = ps.length → BindsTo s fd ⟨us, []⟩ (ps.zip us)) (hlen : ds.length = ps.length)
    (hsp : ∀ (H : Hp) (xs : List V), OnlyF H → DwAll K H xs ds → sp xs H (fun v H' => Dw K H' v d0) fun _ _ _ => False)
    (hCX : ∀ H e s', CX [] H s₁ (fun _ _ _ => False) e s' → False) :
    codeAny (model P w) callerA (.call (.ref fa) ⟨vals, []⟩) (fun r s' => ∃ u as, r = .ok (.ret u) ∧ ReadsW R cl s'.heap u d0 as ∧ OldK s₁.heap s'.heap ∧ s'.os = s₁.os ∧ AllBare s'.gens) s₁ := by
  obtain ⟨A, ho, ar⟩ := area_all ds vals hwl hpl hwt
  have hO : OnlyF (argH K s₁.heap A) := argH_only ar
  have hok : HOk P w (argH K s₁.heap A) s₁.heap := argH_ok ar
  have hS := dw_all KX ar ds vals hwl hpl ho
  have hV := vals_toV ho
  have hK : ∀ b u, argH K s₁.heap A b = some u → K.lookup b = none := fun b u q => (argH_is ar q).1
  have noA : ∀ {b : Addr} {o : Obj} {es : Array DictEntry} {ep : Nat}, s₁.heap.get? b = some o → o.data = .dict es ep → argH K s₁.heap A b = none := fun {b o es ep} e d => by
    cases q : argH K s₁.heap A b with
    | none => rfl
    | some u =>
      obtain ⟨_, vs, _, _, ⟨e2, _⟩ | ⟨e2, _⟩⟩ := argH_is ar q
      · rw [e2] at e
        cases e
        have d' : Data.seq vs.toArray _ = Data.dict es ep := d
        cases d'
      · rw [e2] at e
        cases e
        have d' : Data.seq vs.toArray _ = Data.dict es ep := d
        cases d'
  generalize argH K s₁.heap A = H at hO hok hS hK noA
  have base_of : ∀ {b : Addr} {o : Obj}, s₁.heap.get? b = some o → H b = none → (hidT s₁.heap H).get? b = some o := fun e n => hidT_get e n
  have nsK : ∀ {b : Addr} {m : Str → Option Value}, s₁.heap.Ns b m → (hidT s₁.heap H).Ns b m := fun {b m} ⟨o, es, ep, e, d, r⟩ => ⟨o, es, ep, base_of e (noA e d), d, r⟩
  have nK : ∀ b o, K.lookup b = some o → H b = none := fun b o e => by
    cases q : H b with
    | none => rfl
    | some u =>
      rw [hK b u q] at e
      cases e
  have hKb : K.In (hidT s₁.heap H) := fun b o e => base_of (KX b o e) (nK b o e)
  have hM : Mod K mg (hidT s₁.heap H) := ⟨hKb, nsK hns, ⟨mb, nsK hb, hbb⟩, let ⟨mc, h1, h2⟩ := hlim; ⟨mc, nsK h1, h2⟩⟩
  have e0 : Env0 P w K mg (hidT s₁.heap H) callerA [] s₁ H := ⟨rfl, hM, fun b o e => of_hidT e, Nat.le_of_eq (hidT_size _ _), trivial, fun b hb => absurd (show b ∈ ([] : List Addr) from hb) (by simp), hok, .of_eq hg⟩
  have hl : vals.length = ps.length := by rw [wellAll_len hwl]; exact hlen
  refine codeAny_mono ((F _ hKb (nsK hns)).run callerA [] s₁ H ⟨vals, []⟩ vals (vals.map toV) _ _ hr e0 (hbind s₁ vals hl) hV (hsp H _ hO hS)) fun r s' x => ?_
  cases r with
  | error e => exact (hCX H e s' x).elim
  | ok fl =>
    cases fl with
    | next => exact False.elim x
    | brk => exact False.elim x
    | cont => exact False.elim x
    | ret u =>
      obtain ⟨v, H', os, bare, un, hok', r', q⟩ := x
      have kept : ∀ b o, s₁.heap.get? b = some o → s'.heap.get? b = some o := fun b o e => by
        cases q2 : H b with
        | none => exact un.keep b o e q2 (by intro z; exact absurd (show b ∈ ([] : List Addr) from z) (by simp)) (by simp)
        | some u2 =>
          rcases hO b with z | ⟨ob, u3, z⟩
          · rw [q2] at z
            cases z
          · have z2 := un.frzs b ob _ z
            obtain ⟨e1, _⟩ := hok b _ z
            obtain ⟨e2, _⟩ := hok' b _ z2
            rw [e] at e1
            cases e1
            exact e2
      have KX' : K.In s'.heap := fun b o e => kept b o (KX b o e)
      obtain ⟨as, hrd⟩ := Dw.reads (R := R) (cl := cl) hok' KX' d0 v u q r'
      exact ⟨u, as, rfl, hrd, OldK.of_keep kept, os, bare⟩
/-! ### the row -/
theorem layable_weight {ds : List WData} (h : WData.layableAll ds = true) : ∀ d ∈ ds, d.weight ≤ 1048576 := fun d hd =>
  (PySem.W.layableW_iff.mp (List.all_eq_true.mp h d hd)).2.2
theorem encAll_len : ∀ (cs : List Codec) (a : Codec.denoteAll cs), (Codec.encAll cs a).length = cs.length
  | [], _ => rfl
  | c :: cs, a => by
    show (Codec.encAll cs a.2).length + 1 = cs.length + 1
    rw [encAll_len cs a.2]
/-- the goal that k_headS leaves (case hc), from the promise of the row's def: whatever the arguments that the codecs let and the row asks for, the def gives what stands for enc (f ..) -/
theorem walk_spec {r : OpenSpec} {k : Nat} {q : Program} {loose : List Str} {XP : (Str → Option Value) → Heap → Prop} {YP : World → Heap → Prop} {d : DefRec} {K : Params → PySem.W.Frag} {CX : World → CXT} {ps : List Str} {sp : World → Sp}
    (hwell : r.wellSaid = true) (hdf : d.params.defaults = []) (hlen : r.args.length = ps.length) (hr : Room k callerA)
    (hY : ∀ (w : World) (h : Heap), YP w h → (K w.params).In h)
    (F : ∀ (w : World) (mg : Str → Option Value) (fa : Addr) (h : Heap), YP w h → (K w.params).In h → h.Ns mainGlobals mg → mg d.name = some (.ref fa) →
      ∃ fd : FuncData, (∀ (s : Shared) (us : List Value), us.length = ps.length → BindsTo s fd ⟨us, []⟩ (ps.zip us)) ∧
        ∀ base : Heap, (K w.params).In base → base.Ns mainGlobals mg → FnOk r.prog w (K w.params) mg base (CX w) k fa fd ps (sp w))
    (hsp : ∀ (w : World) (H : Hp) (xs : List V) (a : Codec.denoteAll r.args), OnlyF H → Codec.withinAll r.args a = true → Codec.app r.args r.asked a = true → DwAll (K w.params) H xs (Codec.encAll r.args a) →
      sp w xs H (fun v H' => Dw (K w.params) H' v (r.ret.enc (Codec.app r.args r.f a))) fun _ _ _ => False)
    (hCX : ∀ (w : World) (H : Hp) (s : Shared) (e : Value) (s' : Shared), CX w [] H s (fun _ _ _ => False) e s' → False) :
    PySem.W.WalkOS q loose XP YP r d [] (fun f vs => PySem.call f vs) := by
  intro w s_0 s₁ mg mb G Y fa o pm cd doc dV kV ho hd hcd hD hmg hg args vals as hpre hlay hrd hwl hlo
  obtain ⟨a, e1, e2⟩ := PySem.W.os_pre_some hpre
  obtain ⟨e3, hwi⟩ := Codec.encAll_of_decAll r.args args a e1
  subst e3
  have KX := hY w _ Y
  obtain ⟨fd, hb, hF⟩ := F w mg fa _ Y KX G.T.g hmg
  refine PySem.W.enter_call (codeAny_mono (spec_call (R := []) (cl := classAt s_0.heap) (d0 := r.ret.enc (Codec.app r.args r.f a)) KX G.T.g G.T.b G.T.builtins G.T.nolimit hg hwl (pl_encAll _ _) (layable_weight hlay) hr hF hb (by rw [encAll_len]; exact hlen)
    (fun H xs hO hS => hsp w H xs a hO hwi e2 hS) fun H e s' => hCX w H s₁ e s') fun r' s' hq => ?_)
  obtain ⟨u, as', rfl, h1, h2, h3, h4⟩ := hq
  exact ⟨.inl ⟨u, _, as', rfl, fun _ => rfl, h1, (OpenSpec.post_iff hwell hwi _ _).mpr rfl, fun z => Bool.noConfusion (show false = true from z)⟩, h2, h3, h4⟩
/-- the same where the promise hangs on the written part alone -/
theorem walk_specK {r : OpenSpec} {k : Nat} {q : Program} {loose : List Str} {XP : (Str → Option Value) → Heap → Prop} {YP : World → Heap → Prop} {d : DefRec} {K : Params → PySem.W.Frag} {CX : CXT} {ps : List Str} {sp : PySem.W.Frag → Sp}
    (hwell : r.wellSaid = true) (hdf : d.params.defaults = []) (hlen : r.args.length = ps.length) (hr : Room k callerA)
    (hY : ∀ (w : World) (h : Heap), YP w h → (K w.params).In h)
    (F : ∀ (w : World) (mg : Str → Option Value) (fa : Addr) (h : Heap), YP w h → (K w.params).In h → h.Ns mainGlobals mg → mg d.name = some (.ref fa) →
      ∃ fd : FuncData, (∀ (s : Shared) (us : List Value), us.length = ps.length → BindsTo s fd ⟨us, []⟩ (ps.zip us)) ∧
        ∀ base : Heap, (K w.params).In base → base.Ns mainGlobals mg → FnOk r.prog w (K w.params) mg base CX k fa fd ps (sp (K w.params)))
    (hsp : ∀ (K : PySem.W.Frag) (H : Hp) (xs : List V) (a : Codec.denoteAll r.args), OnlyF H → Codec.withinAll r.args a = true → Codec.app r.args r.asked a = true → DwAll K H xs (Codec.encAll r.args a) →
      sp K xs H (fun v H' => Dw K H' v (r.ret.enc (Codec.app r.args r.f a))) fun _ _ _ => False)
    (hCX : ∀ (H : Hp) (s : Shared) (e : Value) (s' : Shared), CX [] H s (fun _ _ _ => False) e s' → False) :
    PySem.W.WalkOS q loose XP YP r d [] (fun f vs => PySem.call f vs) :=
  walk_spec (K := K) (CX := fun _ => CX) (sp := fun w => sp (K w.params)) hwell hdf hlen hr hY F (fun w H xs a h1 h2 h3 h4 => hsp (K w.params) H xs a h1 h2 h3 h4) fun _ H s e s' => hCX H s e s'
end L2
end
section
/-! Numbers of the specification: bytes, doubles, boxes. Lists and numbers alone. -/
set_option linter.all false
set_option exponentiation.threshold 3000
set_option maxRecDepth 100000
namespace Ma
open Rc25 Rc25Neutral
/-- all numbers are bytes -/
def Bt (ns : List Int) : Prop := ∀ x ∈ ns, 0 ≤ x ∧ x < 256
theorem Bt.drop {ns : List Int} (h : Bt ns) (i : Nat) : Bt (ns.drop i) := fun x hx => h x (List.mem_of_mem_drop hx)
theorem Bt.take {ns : List Int} (h : Bt ns) (i : Nat) : Bt (ns.take i) := fun x hx => h x (List.mem_of_mem_take hx)
theorem len_bytes (ns : List Int) : (bytesOf ns).length = ns.length := by simp [bytesOf]
theorem bytes_drop (ns : List Int) (i : Nat) : bytesOf (ns.drop i) = (bytesOf ns).drop i := by simp [bytesOf, List.map_drop]
theorem bytes_take (ns : List Int) (i : Nat) : bytesOf (ns.take i) = (bytesOf ns).take i := by simp [bytesOf, List.map_take]
theorem byte_at {ns : List Int} (h : Bt ns) {i : Nat} (hi : i < (bytesOf ns).length) : (((bytesOf ns)[i]).toNat : Int) = ns.getD i 0 := by
  have hi' : i < ns.length := by rwa [len_bytes] at hi
  have e : ns.getD i 0 = ns[i] := by simp [hi']
  have hb := h ns[i] (List.getElem_mem hi')
  rw [e]
  simp only [bytesOf, List.getElem_map]
  rw [UInt8.toNat_ofNat']
  omega
theorem low_zero (b : Bytes) (i : Nat) : low b i 0 = 0 := by simp [low]
theorem low_succ {b : Bytes} {i : Nat} (n : Nat) (h : i < b.length) : low b i (n + 1) = b[i].toNat + 256 * low b (i + 1) n := by
  unfold low
  rw [List.drop_eq_getElem_cons h, List.take_succ_cons, List.foldr_cons]
theorem high_zero (b : Bytes) (i : Nat) : high b i 0 = 0 := by simp [high]
theorem high_succ {b : Bytes} {i n : Nat} (h : i + n < b.length) : high b i (n + 1) = 256 * high b i n + b[i + n].toNat := by
  unfold high
  have e : (b.drop i).take (n + 1) = (b.drop i).take n ++ [b[i + n]] := by
    rw [List.take_succ_eq_append_getElem (by rw [List.length_drop]; omega)]
    simp
  rw [e, List.foldl_append]
  rfl
theorem low_lt (b : Bytes) (n : Nat) : ∀ i, low b i n < 256 ^ n := by
  unfold low
  intro i
  have : ∀ (l : Bytes), l.length ≤ n → l.foldr (fun c x => c.toNat + 256 * x) 0 < 256 ^ n := by
    induction n with
    | zero =>
      intro l hl
      cases l with
      | nil => simp
      | cons a r => simp at hl
    | succ n ih =>
      intro l hl
      cases l with
      | nil => simp; exact Nat.pow_pos (by decide)
      | cons a r =>
        have h1 := ih r (by simpa using hl)
        have h2 := a.toNat_lt
        rw [List.foldr_cons, Nat.pow_succ]
        omega
  exact this _ (by rw [List.length_take]; exact Nat.min_le_left _ _)
/-- as the program reads four bytes -/
theorem low4 {ns : List Int} (h : Bt ns) {i : Nat} (hi : i + 4 ≤ ns.length) :
    ((low (bytesOf ns) i 4 : Nat) : Int) = ns.getD i 0 + ns.getD (i + 1) 0 * 2 ^ 8 + ns.getD (i + 2) 0 * 2 ^ 16 + ns.getD (i + 3) 0 * 2 ^ 24 := by
  have l := len_bytes ns
  rw [low_succ 3 (by omega), low_succ 2 (by omega), low_succ 1 (by omega), low_succ 0 (by omega), low_zero]
  have e0 := byte_at h (i := i) (by omega)
  have e1 := byte_at h (i := i + 1) (by omega)
  have e2 := byte_at h (i := i + 1 + 1) (by omega)
  have e3 := byte_at h (i := i + 1 + 1 + 1) (by omega)
  have a2 : i + 1 + 1 = i + 2 := rfl
  have a3 : i + 1 + 1 + 1 = i + 3 := rfl
  rw [← e0, ← e1, ← show ((bytesOf ns)[i + 1 + 1]'(by omega)).toNat = ns.getD (i + 2) 0 from e2, ← show ((bytesOf ns)[i + 1 + 1 + 1]'(by omega)).toNat = ns.getD (i + 3) 0 from e3]
  omega
theorem high4 {ns : List Int} (h : Bt ns) {i : Nat} (hi : i + 4 ≤ ns.length) :
    ((high (bytesOf ns) i 4 : Nat) : Int) = ns.getD i 0 * 2 ^ 24 + ns.getD (i + 1) 0 * 2 ^ 16 + ns.getD (i + 2) 0 * 2 ^ 8 + ns.getD (i + 3) 0 := by
  have l := len_bytes ns
  rw [high_succ (by omega), high_succ (by omega), high_succ (by omega), high_succ (by omega), high_zero]
  have e0 := byte_at h (i := i) (by omega)
  have e1 := byte_at h (i := i + 1) (by omega)
  have e2 := byte_at h (i := i + 2) (by omega)
  have e3 := byte_at h (i := i + 3) (by omega)
  rw [← e0, ← e1, ← e2, ← e3]
  have a0 : (bytesOf ns)[i + 0]'(by omega) = (bytesOf ns)[i]'(by omega) := rfl
  rw [a0]
  omega
theorem low8 {b : Bytes} {i : Nat} (hi : i + 8 ≤ b.length) : low b i 8 = low b i 4 + 2 ^ 32 * low b (i + 4) 4 := by
  rw [low_succ 7 (by omega), low_succ 6 (by omega), low_succ 5 (by omega), low_succ 4 (by omega)]
  rw [show low b i 4 = _ from low_succ 3 (by omega), low_succ 2 (by omega), low_succ 1 (by omega), low_succ 0 (by omega), low_zero]
  rw [show i + 1 + 1 + 1 + 1 = i + 4 from rfl]
  omega
/-- nothing but zeros -/
theorem low_nil (l : Bytes) : l.foldr (fun c x => c.toNat + 256 * x) 0 = 0 ↔ ∀ c ∈ l, c.toNat = 0 := by
  induction l with
  | nil => simp
  | cons a r ih =>
    rw [List.foldr_cons, List.forall_mem_cons, ← ih]
    constructor
    · intro p
      exact ⟨by omega, by omega⟩
    · rintro ⟨p, q⟩
      omega
theorem high_nil (l : Bytes) : ∀ a : Nat, l.foldl (fun x c => 256 * x + c.toNat) a = 0 ↔ a = 0 ∧ ∀ c ∈ l, c.toNat = 0 := by
  induction l with
  | nil => intro a; simp
  | cons c r ih =>
    intro a
    rw [List.foldl_cons, ih, List.forall_mem_cons]
    constructor
    · rintro ⟨p, q⟩
      exact ⟨by omega, by omega, q⟩
    · rintro ⟨p, q, r⟩
      exact ⟨by omega, r⟩
theorem zeros_iff {ns : List Int} (h : Bt ns) : (∀ c ∈ bytesOf ns, c.toNat = 0) ↔ ∀ x ∈ ns, x = 0 := by
  unfold bytesOf
  rw [List.forall_mem_map]
  constructor
  · intro q x hx
    have := q x hx
    rw [UInt8.toNat_ofNat'] at this
    have := h x hx
    omega
  · intro q x hx
    rw [UInt8.toNat_ofNat', q x hx]
    rfl
theorem low_zeros {ns : List Int} (h : Bt ns) (i n : Nat) : low (bytesOf ns) i n = 0 ↔ ∀ x ∈ (ns.drop i).take n, x = 0 := by
  rw [← zeros_iff ((h.drop i).take n), bytes_take, bytes_drop]
  exact low_nil _
theorem high_zeros {ns : List Int} (h : Bt ns) (i n : Nat) : high (bytesOf ns) i n = 0 ↔ ∀ x ∈ (ns.drop i).take n, x = 0 := by
  rw [← zeros_iff ((h.drop i).take n), bytes_take, bytes_drop]
  unfold high
  rw [high_nil]
  simp
/-! ### doubles -/
/-- worth without the sign -/
def size (m : Nat) : Nat := if m / 2 ^ 52 % 2 ^ 11 = 0 then m % 2 ^ 52 else (2 ^ 52 + m % 2 ^ 52) * 2 ^ (m / 2 ^ 52 % 2 ^ 11 - 1)
theorem worth_eq (n : Nat) : worth n = if n / 2 ^ 63 = 1 then -(size n : Int) else (size n : Int) := rfl
theorem size_far {n : Nat} (h : n < 2 ^ 64) : (n / 2 ^ 52 % 2 ^ 11 < 2047 ∧ size n ≤ 2 ^ 1114) ↔ n % 2 ^ 63 ≤ 4787326403894837248 := by
  unfold size
  generalize he : n / 2 ^ 52 % 2 ^ 11 = e
  generalize hf : n % 2 ^ 52 = f
  have hm : n % 2 ^ 63 = e * 2 ^ 52 + f := by omega
  have hfl : f < 2 ^ 52 := by omega
  rw [hm]
  by_cases h0 : e = 0
  · subst h0
    simp only [if_true]
    have : (2 : Nat) ^ 52 ≤ 2 ^ 1114 := Nat.pow_le_pow_right (by decide) (by decide)
    omega
  · rw [if_neg h0]
    by_cases h1 : e < 1063
    · have a : (2 : Nat) ^ (e - 1) ≤ 2 ^ 1061 := Nat.pow_le_pow_right (by decide) (by omega)
      have b : (2 ^ 52 + f) * 2 ^ (e - 1) ≤ 2 ^ 53 * 2 ^ 1061 := Nat.mul_le_mul (by omega) a
      have c : (2 : Nat) ^ 53 * 2 ^ 1061 = 2 ^ 1114 := by rw [← Nat.pow_add]
      rw [c] at b
      constructor
      · intro _; omega
      · intro _; exact ⟨by omega, b⟩
    · by_cases h2 : e = 1063
      · subst h2
        have c : (2 : Nat) ^ 1114 = 2 ^ 52 * 2 ^ 1062 := by rw [← Nat.pow_add]
        have p : 0 < (2 : Nat) ^ 1062 := Nat.two_pow_pos _
        rw [c, show 1063 - 1 = 1062 from rfl, Nat.mul_le_mul_right_iff p]
        omega
      · have a : (2 : Nat) ^ 1063 ≤ 2 ^ (e - 1) := Nat.pow_le_pow_right (by decide) (by omega)
        have b : 2 ^ 52 * 2 ^ 1063 ≤ (2 ^ 52 + f) * 2 ^ (e - 1) := Nat.mul_le_mul (by omega) a
        have c : (2 : Nat) ^ 52 * 2 ^ 1063 = 2 ^ 1115 := by rw [← Nat.pow_add]
        have d : (2 : Nat) ^ 1114 < 2 ^ 1115 := Nat.pow_lt_pow_right (by decide) (by decide)
        rw [c] at b
        constructor
        · intro q; exact absurd (Nat.lt_of_lt_of_le d b) (Nat.not_lt.mpr q.2)
        · intro q; omega
theorem coord_iff {n : Nat} (h : n < 2 ^ 64) : coordinate n = (decide (n % 2 ^ 63 ≤ 4787326403894837248) && decide (n ≠ 2 ^ 63)) := by
  have e : (worth n ≤ FAR ∧ -FAR ≤ worth n) ↔ size n ≤ 2 ^ 1114 := by
    have hF : FAR = ((2 ^ 1114 : Nat) : Int) := by unfold FAR; rw [Int.natCast_pow]; rfl
    rw [worth_eq, hF]
    generalize (2 : Nat) ^ 1114 = M
    split <;> omega
  have := size_far h
  unfold coordinate
  rw [Bool.eq_iff_iff]
  simp only [decide_eq_true_eq, Bool.and_eq_true]
  constructor
  · rintro ⟨a, b, c, d⟩
    exact ⟨this.mp ⟨a, e.mp ⟨b, c⟩⟩, d⟩
  · rintro ⟨a, d⟩
    obtain ⟨p, q⟩ := this.mpr a
    exact ⟨p, (e.mpr q).1, (e.mpr q).2, d⟩
theorem size_lt {n : Nat} (h : coordinate n = true) : size n ≤ 2 ^ 1114 := by
  have hF : FAR = ((2 ^ 1114 : Nat) : Int) := by unfold FAR; rw [Int.natCast_pow]; rfl
  unfold coordinate at h
  simp only [decide_eq_true_eq] at h
  obtain ⟨_, b, c, _⟩ := h
  rw [worth_eq, hF] at b c
  generalize (2 : Nat) ^ 1114 = M at *
  split at b <;> split at c <;> omega
/-! ### the least and the greatest -/
theorem fold_least (l : List Nat) : ∀ (a : Nat), ∃ i : Nat, (a :: l)[i]? = some (l.foldl (fun (m n : Nat) => if worth n < worth m then n else m) a) ∧
    ∀ (j w : Nat), (a :: l)[j]? = some w → worth (l.foldl (fun (m n : Nat) => if worth n < worth m then n else m) a) ≤ worth w ∧ (j < i → worth (l.foldl (fun (m n : Nat) => if worth n < worth m then n else m) a) < worth w) := by
  induction l with
  | nil =>
    intro a
    refine ⟨0, rfl, fun j w hj => ?_⟩
    cases j with
    | zero => cases hj; exact ⟨Int.le_refl _, fun z => absurd z (Nat.lt_irrefl _)⟩
    | succ j => simp at hj
  | cons c r ih =>
    intro a
    rw [List.foldl_cons]
    by_cases hc : worth c < worth a
    · rw [if_pos hc]
      obtain ⟨i, hi, hb⟩ := ih c
      refine ⟨i + 1, hi, fun j w hj => ?_⟩
      cases j with
      | zero =>
        cases hj
        have := (hb 0 c rfl).1
        exact ⟨by omega, fun _ => by omega⟩
      | succ j =>
        obtain ⟨x, y⟩ := hb j w hj
        exact ⟨x, fun z => y (by omega)⟩
    · rw [if_neg hc]
      obtain ⟨i, hi, hb⟩ := ih a
      cases i with
      | zero =>
        refine ⟨0, hi, fun j w hj => ?_⟩
        have e : a = r.foldl (fun (m n : Nat) => if worth n < worth m then n else m) a := Option.some.inj hi
        match j, hj with
        | 0, hj => exact ⟨(hb 0 w hj).1, fun z => absurd z (Nat.lt_irrefl _)⟩
        | 1, hj =>
          cases hj
          rw [← e]
          exact ⟨by omega, fun z => absurd z (Nat.not_lt_zero _)⟩
        | j + 2, hj => exact ⟨(hb (j + 1) w hj).1, fun z => absurd z (Nat.not_lt_zero _)⟩
      | succ i =>
        refine ⟨i + 2, hi, fun j w hj => ?_⟩
        have q := (hb 0 a rfl).2 (by omega)
        match j, hj with
        | 0, hj => exact ⟨(hb 0 w hj).1, fun _ => (hb 0 w hj).2 (by omega)⟩
        | 1, hj =>
          cases hj
          exact ⟨by omega, fun z => by omega⟩
        | j + 2, hj => exact ⟨(hb (j + 1) w hj).1, fun z => (hb (j + 1) w hj).2 (by omega)⟩
theorem first_unique {l : List Nat} {i i' v v' : Nat} (hi : l[i]? = some v) (hi' : l[i']? = some v') (h : ∀ j w, l[j]? = some w → worth v ≤ worth w ∧ (j < i → worth v < worth w))
    (h' : ∀ j w, l[j]? = some w → worth v' ≤ worth w ∧ (j < i' → worth v' < worth w)) : v = v' := by
  have a := h i' v' hi'
  have b := h' i v hi
  rcases Nat.lt_trichotomy i i' with q | q | q
  · have := b.2 q; omega
  · subst q; rw [hi] at hi'; exact Option.some.inj hi'
  · have := a.2 q; omega
/-- min(xs, key=worth) is leastOf -/
theorem least_eq {l : List Nat} {i v : Nat} (hi : l[i]? = some v) (h : ∀ j w, l[j]? = some w → worth v ≤ worth w ∧ (j < i → worth v < worth w)) : leastOf l = v := by
  cases l with
  | nil => simp at hi
  | cons a r =>
    obtain ⟨i', hi', h'⟩ := fold_least r a
    exact (first_unique hi hi' h h').symm
theorem fold_most (l : List Nat) : ∀ (a : Nat), ∃ i : Nat, (a :: l)[i]? = some (l.foldl (fun (m n : Nat) => if worth m < worth n then n else m) a) ∧
    ∀ (j w : Nat), (a :: l)[j]? = some w → worth w ≤ worth (l.foldl (fun (m n : Nat) => if worth m < worth n then n else m) a) ∧ (j < i → worth w < worth (l.foldl (fun (m n : Nat) => if worth m < worth n then n else m) a)) := by
  induction l with
  | nil =>
    intro a
    refine ⟨0, rfl, fun j w hj => ?_⟩
    cases j with
    | zero => cases hj; exact ⟨Int.le_refl _, fun z => absurd z (Nat.lt_irrefl _)⟩
    | succ j => simp at hj
  | cons c r ih =>
    intro a
    rw [List.foldl_cons]
    by_cases hc : worth a < worth c
    · rw [if_pos hc]
      obtain ⟨i, hi, hb⟩ := ih c
      refine ⟨i + 1, hi, fun j w hj => ?_⟩
      cases j with
      | zero =>
        cases hj
        have := (hb 0 c rfl).1
        exact ⟨by omega, fun _ => by omega⟩
      | succ j =>
        obtain ⟨x, y⟩ := hb j w hj
        exact ⟨x, fun z => y (by omega)⟩
    · rw [if_neg hc]
      obtain ⟨i, hi, hb⟩ := ih a
      cases i with
      | zero =>
        refine ⟨0, hi, fun j w hj => ?_⟩
        have e : a = r.foldl (fun (m n : Nat) => if worth m < worth n then n else m) a := Option.some.inj hi
        match j, hj with
        | 0, hj => exact ⟨(hb 0 w hj).1, fun z => absurd z (Nat.lt_irrefl _)⟩
        | 1, hj =>
          cases hj
          rw [← e]
          exact ⟨by omega, fun z => absurd z (Nat.not_lt_zero _)⟩
        | j + 2, hj => exact ⟨(hb (j + 1) w hj).1, fun z => absurd z (Nat.not_lt_zero _)⟩
      | succ i =>
        refine ⟨i + 2, hi, fun j w hj => ?_⟩
        have q := (hb 0 a rfl).2 (by omega)
        match j, hj with
        | 0, hj => exact ⟨(hb 0 w hj).1, fun _ => (hb 0 w hj).2 (by omega)⟩
        | 1, hj =>
          cases hj
          exact ⟨by omega, fun z => by omega⟩
        | j + 2, hj => exact ⟨(hb (j + 1) w hj).1, fun z => (hb (j + 1) w hj).2 (by omega)⟩
theorem first_unique' {l : List Nat} {i i' v v' : Nat} (hi : l[i]? = some v) (hi' : l[i']? = some v') (h : ∀ j w, l[j]? = some w → worth w ≤ worth v ∧ (j < i → worth w < worth v))
    (h' : ∀ j w, l[j]? = some w → worth w ≤ worth v' ∧ (j < i' → worth w < worth v')) : v = v' := by
  have a := h i' v' hi'
  have b := h' i v hi
  rcases Nat.lt_trichotomy i i' with q | q | q
  · have := b.2 q; omega
  · subst q; rw [hi] at hi'; exact Option.some.inj hi'
  · have := a.2 q; omega
theorem most_eq {l : List Nat} {i v : Nat} (hi : l[i]? = some v) (h : ∀ j w, l[j]? = some w → worth w ≤ worth v ∧ (j < i → worth w < worth v)) : mostOf l = v := by
  cases l with
  | nil => simp at hi
  | cons a r =>
    obtain ⟨i', hi', h'⟩ := fold_most r a
    exact (first_unique' hi hi' h h').symm
end Ma
end
section
/-! The specification's files, step by step as the program reads them. -/
set_option linter.all false
set_option maxRecDepth 100000
namespace Ma
open Rc25 Rc25Neutral
theorem low_drop (b : Bytes) (p i n : Nat) : low (b.drop p) i n = low b (p + i) n := by unfold low; rw [List.drop_drop]
theorem high_drop (b : Bytes) (p i n : Nat) : high (b.drop p) i n = high b (p + i) n := by unfold high; rw [List.drop_drop]
/-! ### records -/
/-- one record from the place p on, numbered k: its shape and the place behind it -/
def recStep (kind : Nat) (b : Bytes) (p k : Nat) : Option (Shape × Nat) :=
  if p + 8 ≤ b.length ∧ high b p 4 = k ∧ p + 8 + 2 * high b (p + 4) 4 ≤ b.length then
    (shape kind ((b.drop (p + 8)).take (2 * high b (p + 4) 4))).map fun s => (s, p + 8 + 2 * high b (p + 4) 4)
  else none
theorem recs_end {kind f k p : Nat} {b : Bytes} (h : b.length ≤ p) : records kind (f + 1) k (b.drop p) = some [] := by
  rw [List.drop_eq_nil_of_le h, records]
  rfl
theorem recs_step {kind f k p : Nat} {b : Bytes} (h : p < b.length) :
    records kind (f + 1) k (b.drop p) = (recStep kind b p k).bind fun q => (records kind f (k + 1) (b.drop q.2)).map fun l => q.1 :: l := by
  have hne : (b.drop p).isEmpty = false := by
    rw [List.isEmpty_eq_false_iff]
    intro q
    have := congrArg List.length q
    rw [List.length_drop] at this
    simp at this
    omega
  rw [records, hne]
  simp only [Bool.false_eq_true, if_false, high_drop, List.length_drop, List.drop_drop]
  unfold recStep
  by_cases c : p + 8 ≤ b.length ∧ high b p 4 = k ∧ p + 8 + 2 * high b (p + 4) 4 ≤ b.length
  · rw [if_pos c, if_neg (by simp only [Nat.add_zero]; omega)]
    rw [Option.bind_map]
    show _ = Option.bind _ _
    have e : p + (8 + 2 * high b (p + 4) 4) = p + 8 + 2 * high b (p + 4) 4 := by omega
    rw [e]
    rfl
  · rw [if_neg c, if_pos (by simp only [Nat.add_zero]; omega)]
    rfl
/-! ### parts -/
theorem cut_eq {ps : List Point} {n : Nat} (hn : ps.length = n) : ∀ starts : List Nat, cut ps starts = (starts.zip (starts.drop 1 ++ [n])).map fun s => (ps.drop s.1).take (s.2 - s.1)
  | [] => rfl
  | [a] => by
    show [ps.drop a] = [(ps.drop a).take (n - a)]
    rw [List.take_of_length_le (by rw [List.length_drop]; omega)]
  | a :: c :: r => by
    have ih := cut_eq hn (c :: r)
    rw [cut, ih]
    rfl
theorem zip_len (starts : List Nat) (n : Nat) : (starts.zip (starts.drop 1 ++ [n])).length = starts.length := by
  rw [List.length_zip, List.length_append, List.length_drop]
  cases starts with
  | nil => rfl
  | cons a r => simp
def starts (b : Bytes) : List Nat := (List.range (low b 36 4)).map fun i => low b (44 + 4 * i) 4
def isPart (kind : Nat) (l : List Point) : Bool := if kind = 3 then decide (2 ≤ l.length) else isRing l
def pointsOf (b : Bytes) : List Point := points b (44 + 4 * low b 36 4) (low b 40 4)
def rising (b : Bytes) : Bool := ((starts b).zip ((starts b).drop 1 ++ [low b 40 4])).all fun s => decide (s.1 < s.2)
/-- a shape's parts, in the program's order of looking -/
def partsM (kind : Nat) (b : Bytes) : Option (List (List Point)) :=
  if 44 ≤ b.length ∧ (1 ≤ low b 36 4 ∧ low b 36 4 ≤ 65536) ∧ (1 ≤ low b 40 4 ∧ low b 40 4 ≤ 65536) ∧ b.length = 44 + 4 * low b 36 4 + 16 * low b 40 4 ∧ good (pointsOf b) = true ∧ doubles b 4 4 = boxOf (pointsOf b) ∧
    (starts b).head? = some 0 ∧ rising b = true ∧ ((cut (pointsOf b) (starts b)).all (isPart kind)) = true then some (cut (pointsOf b) (starts b)) else none
def shapeOf (kind : Nat) (l : List (List Point)) : Shape := if kind = 3 then .lines l else .area l
theorem shape_eq {kind : Nat} (hk : kind = 1 ∨ kind = 3 ∨ kind = 5) (b : Bytes) : shape kind b =
    if b.length < 4 then none else if low b 0 4 = 0 then (if b.length = 4 then some .null else none) else if low b 0 4 ≠ kind then none
    else if kind = 1 then (if b.length = 20 ∧ good (points b 4 1) = true then some (.point (low b 4 8, low b 12 8)) else none) else (partsM kind b).map (shapeOf kind) := by
  unfold shape
  by_cases h1 : b.length < 4
  · simp only [h1, if_true]
  simp only [h1, if_false]
  by_cases h2 : low b 0 4 = 0
  · simp only [h2, if_true]
  simp only [h2, if_false]
  by_cases h3 : low b 0 4 = kind
  · simp only [h3, ne_eq, not_true_eq_false, if_false]
    by_cases h4 : kind = 1
    · simp only [h4, if_true]
      by_cases h5 : b.length = 20 ∧ good (points b 4 1) = true
      · rw [if_pos h5, if_pos h5]
        rfl
      · rw [if_neg h5, if_neg h5]
    · simp only [h4, if_false]
      unfold partsM
      by_cases c : 44 ≤ b.length ∧ (1 ≤ low b 36 4 ∧ low b 36 4 ≤ 65536) ∧ (1 ≤ low b 40 4 ∧ low b 40 4 ≤ 65536) ∧ b.length = 44 + 4 * low b 36 4 + 16 * low b 40 4 ∧ good (pointsOf b) = true ∧ doubles b 4 4 = boxOf (pointsOf b) ∧
          (starts b).head? = some 0 ∧ rising b = true ∧ ((cut (pointsOf b) (starts b)).all (isPart kind)) = true
      · rw [if_pos c]
        obtain ⟨c1, c2, c3, c4, c5, c6, c7, c8, c9⟩ := c
        rw [if_neg (by omega), if_neg]
        · have hs : ((List.range (low b 36 4)).map fun i => low b (44 + 4 * i) 4) = starts b := rfl
          have hp : points b (44 + 4 * low b 36 4) (low b 40 4) = pointsOf b := rfl
          rw [hs, hp, Option.map_some]
          unfold shapeOf
          unfold isPart at c9
          by_cases h6 : kind = 3
          · simp only [h6, if_true] at c9 ⊢
            rw [if_pos c9]
          · simp only [h6, if_false] at c9 ⊢
            rw [if_pos c9]
        · rintro (q | q | q | q)
          · rw [show good (points b (44 + 4 * low b 36 4) (low b 40 4)) = true from c5] at q; cases q
          · exact q c7
          · rw [show ((((List.range (low b 36 4)).map fun i => low b (44 + 4 * i) 4).zip ((((List.range (low b 36 4)).map fun i => low b (44 + 4 * i) 4)).drop 1 ++ [low b 40 4])).all fun s => decide (s.1 < s.2)) = true from c8] at q; cases q
          · exact q c6
      · rw [if_neg c, Option.map_none]
        split
        · rfl
        · rename_i d1
          split
          · rfl
          · rename_i d2
            have d3 : good (pointsOf b) = true := by
              cases e : good (pointsOf b) with
              | true => rfl
              | false => exact absurd (Or.inl e) d2
            have d4 : (starts b).head? = some 0 := Decidable.byContradiction fun z => d2 (.inr (.inl z))
            have d5 : rising b = true := by
              cases e : rising b with
              | true => rfl
              | false => exact absurd (Or.inr (Or.inr (Or.inl e))) d2
            have d6 : doubles b 4 4 = boxOf (pointsOf b) := Decidable.byContradiction fun z => d2 (.inr (.inr (.inr z)))
            have n1 : 1 ≤ low b 40 4 := by
              cases hst : starts b with
              | nil => rw [hst] at d4; cases d4
              | cons a r =>
                have z := d5
                unfold rising at z
                rw [List.all_eq_true] at z
                have hl := zip_len (starts b) (low b 40 4)
                have hlen : 0 < (starts b).length := by rw [hst]; exact Nat.zero_lt_succ _
                have lt : (starts b).length - 1 < ((starts b).zip ((starts b).drop 1 ++ [low b 40 4])).length := by omega
                have zz := z _ (List.getElem_mem lt)
                rw [List.getElem_zip] at zz
                have : ((starts b).drop 1 ++ [low b 40 4])[(starts b).length - 1]'(by rw [List.length_append, List.length_drop]; simp <;> omega) = low b 40 4 := by
                  rw [List.getElem_append_right (by rw [List.length_drop]; exact Nat.le_refl _)]
                  simp
                rw [this] at zz
                simp only [decide_eq_true_eq] at zz
                omega
            have hs : ((List.range (low b 36 4)).map fun i => low b (44 + 4 * i) 4) = starts b := rfl
            have hp : points b (44 + 4 * low b 36 4) (low b 40 4) = pointsOf b := rfl
            rw [hs, hp]
            by_cases h6 : kind = 3
            · rw [if_pos h6, if_neg]
              intro q
              exact c ⟨by omega, by omega, by omega, by omega, d3, d6, d4, d5, by unfold isPart; simp only [h6, if_true]; exact q⟩
            · rw [if_neg h6, if_neg]
              intro q
              exact c ⟨by omega, by omega, by omega, by omega, d3, d6, d4, d5, by unfold isPart; simp only [h6, if_false]; exact q⟩
  · rw [if_pos h3, if_pos h3]
/-! ### the whole file -/
def headM (b : Bytes) : Prop := high b 0 4 = 9994 ∧ high b 4 20 = 0 ∧ 2 * high b 24 4 = b.length ∧ low b 28 4 = 1000 ∧ (low b 32 4 = 1 ∨ low b 32 4 = 3 ∨ low b 32 4 = 5) ∧ low b 68 32 = 0
def allPoints (l : List Shape) : List Point := l.flatMap fun s => s.parts.flatten
theorem file_short {b : Bytes} (h : b.length < 100) : file b = none := by
  unfold file
  simp only [h, true_or, if_true]
theorem file_head {b : Bytes} (h : ¬ headM b) : file b = none := by
  unfold file
  rw [if_pos]
  by_cases h0 : b.length < 100
  · exact .inl h0
  · refine .inr ?_
    unfold headM at h
    omega
theorem file_eq {b : Bytes} (h : ¬ b.length < 100) (hh : headM b) : file b = (records (low b 32 4) (b.length + 1) 1 (b.drop 100)).bind fun l => if doubles b 36 4 = boxOf (allPoints l) then some l else none := by
  unfold file
  rw [if_neg]
  · rfl
  · unfold headM at hh
    omega
end Ma
end
section
/-! A list of calls, call by call. -/
set_option linter.all false
set_option maxRecDepth 100000
namespace Ma
open Rc25 Rc25Neutral
/-- one call at the head of a list -/
inductive Head : List Int → List (List Int) → List Int → Prop
  | c0 (t) : Head (0 :: t) [[0]] t
  | c1 (n : Int) (r : List Int) : 0 ≤ n → n.toNat ≤ r.length → Head (1 :: n :: r) [[1], r.take n.toNat] (r.drop n.toNat)
  | c2 (t) : Head (2 :: t) [[2]] t
  | c3 (k t) : Head (3 :: k :: t) [[3, k]] t
  | c4 (k t) : Head (4 :: k :: t) [[4, k]] t
  | c5 (a b c d t) : Head (5 :: a :: b :: c :: d :: t) [[5, a, b, c, d]] t
  | c6 (a b c t) : Head (6 :: a :: b :: c :: t) [[6, a, b, c]] t
  | c7 (k t) : Head (7 :: k :: t) [[7, k]] t
theorem flat_n {p : Int} {n : Nat} {r : List Int} {c : List (List Int)} {t : List Int} (hs : PyRc25.shape p = some (n, 0)) (h : PyFlat.call PyRc25.shape (p :: r) = some (c, t)) : n ≤ r.length ∧ c = [p :: r.take n] ∧ t = r.drop n := by
  unfold PyFlat.call at h
  dsimp only at h
  rw [hs] at h
  simp only [PyFlat.rows] at h
  split at h
  · cases h
  · cases h
    exact ⟨by omega, rfl, rfl⟩
theorem head_of {l : List Int} {c : List (List Int)} {t : List Int} (h : PyFlat.call PyRc25.shape l = some (c, t)) : Head l c t := by
  cases l with
  | nil => cases h
  | cons p r =>
    by_cases h0 : p = 0
    · subst h0
      obtain ⟨_, rfl, rfl⟩ := flat_n (n := 0) rfl h
      exact .c0 _
    by_cases h1 : p = 1
    · subst h1
      cases r with
      | nil => cases h
      | cons n r =>
        unfold PyFlat.call at h
        dsimp only at h
        have e : PyRc25.shape 1 = some (0, 1) := rfl
        rw [e] at h
        simp only [List.drop_zero, List.take_zero, Nat.not_lt_zero, if_false, PyFlat.rows, PyFlat.row] at h
        by_cases q : 0 ≤ n ∧ n.toNat ≤ r.length
        · rw [if_pos q] at h
          cases h
          exact .c1 n r q.1 q.2
        · rw [if_neg q] at h
          cases h
    by_cases h2 : p = 2
    · subst h2
      obtain ⟨_, rfl, rfl⟩ := flat_n (n := 0) rfl h
      exact .c2 _
    by_cases h3 : p = 3
    · subst h3
      obtain ⟨q, rfl, rfl⟩ := flat_n (n := 1) rfl h
      match r, q with
      | k :: t, _ => exact .c3 k t
    by_cases h4 : p = 4
    · subst h4
      obtain ⟨q, rfl, rfl⟩ := flat_n (n := 1) rfl h
      match r, q with
      | k :: t, _ => exact .c4 k t
    by_cases h5 : p = 5
    · subst h5
      obtain ⟨q, rfl, rfl⟩ := flat_n (n := 4) rfl h
      match r, q with
      | a :: b :: c :: d :: t, _ => exact .c5 a b c d t
    by_cases h6 : p = 6
    · subst h6
      obtain ⟨q, rfl, rfl⟩ := flat_n (n := 3) rfl h
      match r, q with
      | a :: b :: c :: t, _ => exact .c6 a b c t
    by_cases h7 : p = 7
    · subst h7
      obtain ⟨q, rfl, rfl⟩ := flat_n (n := 1) rfl h
      match r, q with
      | k :: t, _ => exact .c7 k t
    · exfalso
      unfold PyFlat.call at h
      dsimp only at h
      have e : PyRc25.shape p = none := by
        unfold PyRc25.shape
        rw [if_neg h0, if_neg h1, if_neg h2, if_neg h3, if_neg h4, if_neg h5, if_neg h6, if_neg h7]
      rw [e] at h
      cases h
theorem calls_step {f : Nat} {p : Int} {r : List Int} {cs : List (List (List Int))} (h : PyFlat.calls PyRc25.shape f (p :: r) = some cs) :
    ∃ g c t cs', f = g + 1 ∧ Head (p :: r) c t ∧ PyFlat.calls PyRc25.shape g t = some cs' ∧ cs = c :: cs' := by
  cases f with
  | zero => cases h
  | succ g =>
    rw [PyFlat.calls] at h
    cases e : PyFlat.call PyRc25.shape (p :: r) with
    | none => rw [e] at h; cases h
    | some q =>
      obtain ⟨c, t⟩ := q
      rw [e] at h
      simp only at h
      cases e2 : PyFlat.calls PyRc25.shape g t with
      | none => rw [e2] at h; cases h
      | some cs' =>
        rw [e2] at h
        cases h
        exact ⟨g, c, t, cs', rfl, head_of e, e2, rfl⟩
theorem calls_nil {f : Nat} {cs : List (List (List Int))} (h : PyFlat.calls PyRc25.shape f [] = some cs) : cs = [] := by
  cases f <;> (rw [PyFlat.calls] at h; cases h; rfl)
/-- the answers from a state on -/
def rest (s : S) (cs : List (List (List Int))) : List Int := PyFlat.told (PyFlat.played step s (cs.map PyRc25.whole))
theorem rest_nil (s : S) : rest s [] = [] := rfl
theorem rest_cons (s : S) (c : List (List Int)) (cs : List (List (List Int))) : rest s (c :: cs) = (((step s (PyRc25.whole c)).2.length : Int) :: (step s (PyRc25.whole c)).2) ++ rest (step s (PyRc25.whole c)).1 cs := rfl
/-- what is asked of each call -/
def Ask (cs : List (List (List Int))) : Prop := ∀ c ∈ cs, asked1 (PyRc25.whole c) = true
theorem asked_calls {l : List Int} (h : PyRc25.answers_asked l = true) : ∃ cs, PyFlat.calls PyRc25.shape l.length l = some cs ∧ cs.length ≤ 200 ∧ Ask cs ∧ PyRc25.answers l = rest {} cs := by
  unfold PyRc25.answers_asked PyRc25.calls at h
  cases e : PyFlat.calls PyRc25.shape l.length l with
  | none => rw [e] at h; cases h
  | some cs =>
    rw [e] at h
    simp only [Bool.and_eq_true] at h
    refine ⟨cs, rfl, ?_, ?_, ?_⟩
    · have := h.1
      unfold PyFlat.atMost at this
      simpa using this
    · intro c hc
      have := h.2
      unfold asked at this
      simp only [Bool.and_eq_true] at this
      exact List.all_eq_true.mp this.1.1 _ (List.mem_map_of_mem hc)
    · unfold PyRc25.answers PyRc25.calls
      rw [e]
      rfl
end Ma
end
section
/-! What a shape that was read has: few points, coordinates all. -/
set_option linter.all false
set_option maxRecDepth 100000
namespace Ma
open Rc25 Rc25Neutral
theorem cut_flat {ps : List Point} {n : Nat} : ∀ (r : List Nat) (a : Nat), (((a :: r).zip (r ++ [n])).all fun s => decide (s.1 < s.2)) = true → (cut ps (a :: r)).flatten = ps.drop a
  | [], a, _ => by simp [cut]
  | c :: r, a, h => by
    have h' : decide (a < c) = true ∧ (((c :: r).zip (r ++ [n])).all fun s => decide (s.1 < s.2)) = true := by
      rw [List.cons_append, List.zip_cons_cons, List.all_cons, Bool.and_eq_true] at h
      exact h
    rw [cut, List.flatten_cons, cut_flat r c h'.2]
    have : a < c := of_decide_eq_true h'.1
    conv => rhs; rw [← List.take_append_drop (c - a) (ps.drop a)]
    rw [List.drop_drop]
    congr 2
    omega
/-- points that a shape may have -/
structure Fine (l : List Point) (n : Nat) : Prop where
  few : 16 * l.length ≤ n
  good : good l = true
  bits : ∀ p ∈ l, p.1 < 2 ^ 64 ∧ p.2 < 2 ^ 64
theorem points_len (b : Bytes) (i n : Nat) : (points b i n).length = n := by simp [points]
theorem points_bits (b : Bytes) (i n : Nat) : ∀ p ∈ points b i n, p.1 < 2 ^ 64 ∧ p.2 < 2 ^ 64 := by
  intro p hp
  unfold points at hp
  obtain ⟨k, _, rfl⟩ := List.mem_map.mp hp
  have a := low_lt b 8 (i + 16 * k)
  have c := low_lt b 8 (i + 16 * k + 8)
  exact ⟨by omega, by omega⟩
theorem parts_flat {kind : Nat} {b : Bytes} {l : List (List Point)} (h : partsM kind b = some l) : l.flatten = pointsOf b ∧ 16 * (pointsOf b).length + 48 ≤ b.length ∧ good (pointsOf b) = true := by
  unfold partsM at h
  split at h
  · rename_i c
    obtain ⟨c1, c2, c3, c4, c5, c6, c7, c8, c9⟩ := c
    cases h
    refine ⟨?_, ?_, c5⟩
    · cases e : starts b with
      | nil => rw [e] at c7; cases c7
      | cons a r =>
        rw [e] at c7
        cases c7
        unfold rising at c8
        rw [e] at c8
        rw [cut_flat r 0 c8]
        rfl
    · unfold pointsOf
      rw [points_len]
      omega
  · cases h
theorem shape_fine {kind : Nat} (hk : kind = 1 ∨ kind = 3 ∨ kind = 5) {b : Bytes} {s : Shape} (h : shape kind b = some s) : Fine s.parts.flatten b.length := by
  rw [shape_eq hk] at h
  split at h
  · cases h
  split at h
  · split at h
    · cases h
      exact ⟨by simp [Shape.parts], rfl, fun p hp => by simp [Shape.parts] at hp⟩
    · cases h
  split at h
  · cases h
  split at h
  · split at h
    · rename_i c
      cases h
      have e : points b 4 1 = [(low b 4 8, low b 12 8)] := rfl
      have q := points_bits b 4 1
      have g := c.2
      rw [e] at q g
      exact ⟨by simp [Shape.parts]; omega, g, q⟩
    · cases h
  · cases e : partsM kind b with
    | none => rw [e] at h; cases h
    | some l =>
      rw [e] at h
      cases h
      obtain ⟨f1, f2, f3⟩ := parts_flat e
      have ep : (shapeOf kind l).parts.flatten = pointsOf b := by
        rw [← f1]
        unfold shapeOf
        split <;> rfl
      rw [ep]
      exact ⟨by omega, f3, points_bits _ _ _⟩
theorem good_append {l m : List Point} : good (l ++ m) = (good l && good m) := by unfold good; rw [List.all_append]
theorem Fine.append {l m : List Point} {a b : Nat} (h : Fine l a) (k : Fine m b) : Fine (l ++ m) (a + b) :=
  ⟨by rw [List.length_append]; have := h.few; have := k.few; omega, by rw [good_append, h.good, k.good]; rfl, fun p hp => (List.mem_append.mp hp).elim (h.bits p) (k.bits p)⟩
theorem Fine.mono {l : List Point} {a b : Nat} (h : Fine l a) (k : a ≤ b) : Fine l b := ⟨Nat.le_trans h.few k, h.good, h.bits⟩
theorem recStep_fine {kind : Nat} (hk : kind = 1 ∨ kind = 3 ∨ kind = 5) {b : Bytes} {p k p' : Nat} {s : Shape} (h : recStep kind b p k = some (s, p')) : Fine s.parts.flatten (p' - p) ∧ p + 8 ≤ p' ∧ p' ≤ b.length := by
  unfold recStep at h
  split at h
  · rename_i c
    cases e : shape kind ((b.drop (p + 8)).take (2 * high b (p + 4) 4)) with
    | none => rw [e] at h; cases h
    | some z =>
      rw [e] at h
      cases h
      have f := shape_fine hk e
      rw [List.length_take, List.length_drop] at f
      exact ⟨f.mono (by omega), by omega, by omega⟩
  · cases h
end Ma
end
section
/-! Records that were read: few points altogether. -/
set_option linter.all false
set_option maxRecDepth 100000
namespace Ma
open Rc25 Rc25Neutral
theorem recs_fine {kind : Nat} (hk : kind = 1 ∨ kind = 3 ∨ kind = 5) {b : Bytes} : ∀ (f k p : Nat) (l : List Shape), records kind f k (b.drop p) = some l → p ≤ b.length → Fine (allPoints l) (b.length - p)
  | 0, k, p, l, h, _ => by rw [records] at h; cases h
  | f + 1, k, p, l, h, hp => by
    by_cases hlt : p < b.length
    · rw [recs_step hlt] at h
      cases e : recStep kind b p k with
      | none => rw [e] at h; cases h
      | some q =>
        obtain ⟨s, p'⟩ := q
        rw [e] at h
        simp only [Option.bind_some] at h
        obtain ⟨f1, f2, f3⟩ := recStep_fine hk e
        cases e2 : records kind f (k + 1) (b.drop p') with
        | none => rw [e2] at h; cases h
        | some r =>
          rw [e2] at h
          cases h
          have ih := recs_fine hk f (k + 1) p' r e2 f3
          have := f1.append ih
          have e3 : allPoints (s :: r) = s.parts.flatten ++ allPoints r := rfl
          rw [e3]
          exact this.mono (by omega)
    · rw [recs_end (by omega)] at h
      cases h
      exact ⟨Nat.zero_le _, rfl, fun p hp => by simp [allPoints] at hp⟩
/-- read on from a place: what was read is put ahead -/
theorem more_none {kind f k p : Nat} {b : Bytes} {done : List Shape} (h : p < b.length) (hs : recStep kind b p k = none) : (records kind (f + 1) k (b.drop p)).map (fun l => done ++ l) = none := by
  rw [recs_step h, hs]
  rfl
theorem more_some {kind f k p p' : Nat} {b : Bytes} {done : List Shape} {s : Shape} (h : p < b.length) (hs : recStep kind b p k = some (s, p')) :
    (records kind (f + 1) k (b.drop p)).map (fun l => done ++ l) = (records kind f (k + 1) (b.drop p')).map (fun l => (done ++ [s]) ++ l) := by
  rw [recs_step h, hs]
  simp only [Option.bind_some, Option.map_map]
  congr 1
  funext l
  simp
theorem step_no {kind p k : Nat} {b : Bytes} (h : ¬ (p + 8 ≤ b.length ∧ high b p 4 = k ∧ p + 8 + 2 * high b (p + 4) 4 ≤ b.length)) : recStep kind b p k = none := if_neg h
theorem step_yes {kind p k : Nat} {b : Bytes} (h : p + 8 ≤ b.length ∧ high b p 4 = k ∧ p + 8 + 2 * high b (p + 4) 4 ≤ b.length) :
    recStep kind b p k = (shape kind ((b.drop (p + 8)).take (2 * high b (p + 4) 4))).map fun s => (s, p + 8 + 2 * high b (p + 4) 4) := if_pos h
theorem more_end {kind f k p : Nat} {b : Bytes} {done : List Shape} (h : b.length ≤ p) : (records kind (f + 1) k (b.drop p)).map (fun l => done ++ l) = some done := by
  rw [recs_end h]
  simp
end Ma
end
section
/-! Calls one behind another: places, and how long answers are. -/
set_option linter.all false
set_option maxRecDepth 100000
namespace Ma
open Rc25 Rc25Neutral
/-! ### places -/
def nb (c : Nat) : Nat := ([0, 1, 0, 1, 1, 4, 3, 1] : List Nat).getD c 0
/-- a call by its number and its numbers -/
def theCall (c : Nat) (nums : List Int) : List (List Int) := if c = 1 then [[1], nums] else [(c : Int) :: nums]
theorem drop_len {ns l : List Int} {p : Nat} (h : ns.drop p = l) (hl : 0 < l.length) : ns.length = p + l.length := by
  have := congrArg List.length h
  rw [List.length_drop] at this
  omega
theorem drop_at {ns l : List Int} {p : Nat} (h : ns.drop p = l) (i : Nat) : ns[p + i]? = l[i]? := by rw [← h, List.getElem?_drop]
theorem drop_more {ns l : List Int} {p : Nat} (h : ns.drop p = l) (i : Nat) : ns.drop (p + i) = l.drop i := by rw [← h, List.drop_drop]
theorem head_place {ns : List Int} {p : Nat} {c : List (List Int)} {t : List Int} (h : Head (ns.drop p) c t) : ∃ (k e s : Nat), k < 8 ∧ ns[p]? = some (k : Int) ∧ t = ns.drop e ∧ e ≤ ns.length ∧ p < e ∧ s ≤ e ∧ c = theCall k ((ns.drop s).take (e - s)) ∧
    ((k ≠ 1 ∧ s = p + 1 ∧ e = p + 1 + nb k) ∨ (k = 1 ∧ ∃ n : Nat, ns[p + 1]? = some (n : Int) ∧ s = p + 2 ∧ e = p + 2 + n)) := by
  generalize hl : ns.drop p = l at h
  have plain : ∀ (k : Nat) (r : List Int), k < 8 → k ≠ 1 → l = (k : Int) :: r → nb k ≤ r.length → ∃ (k' e s : Nat), k' < 8 ∧ ns[p]? = some (k' : Int) ∧ r.drop (nb k) = ns.drop e ∧ e ≤ ns.length ∧ p < e ∧ s ≤ e ∧ [(k : Int) :: r.take (nb k)] = theCall k' ((ns.drop s).take (e - s)) ∧
      ((k' ≠ 1 ∧ s = p + 1 ∧ e = p + 1 + nb k') ∨ (k' = 1 ∧ ∃ n : Nat, ns[p + 1]? = some (n : Int) ∧ s = p + 2 ∧ e = p + 2 + n)) := by
    intro k r hk h1 e hr
    rw [e] at hl
    have len := drop_len hl (by simp)
    have at0 := drop_at hl 0
    have d1 := drop_more hl 1
    rw [List.length_cons] at len
    refine ⟨k, p + 1 + nb k, p + 1, hk, by simpa using at0, ?_, by omega, by omega, by omega, ?_, .inl ⟨h1, rfl, rfl⟩⟩
    · rw [← List.drop_drop, d1]
      rfl
    · unfold theCall
      rw [if_neg h1, d1, show p + 1 + nb k - (p + 1) = nb k by omega]
      rfl
  cases h with
  | c0 t => exact plain 0 t (by decide) (by decide) rfl (Nat.zero_le _)
  | c2 t => exact plain 2 t (by decide) (by decide) rfl (Nat.zero_le _)
  | c3 k t => exact plain 3 (k :: t) (by decide) (by decide) rfl (by simp [nb])
  | c4 k t => exact plain 4 (k :: t) (by decide) (by decide) rfl (by simp [nb])
  | c5 a b c d t => exact plain 5 (a :: b :: c :: d :: t) (by decide) (by decide) rfl (by simp [nb])
  | c6 a b c t => exact plain 6 (a :: b :: c :: t) (by decide) (by decide) rfl (by simp [nb])
  | c7 k t => exact plain 7 (k :: t) (by decide) (by decide) rfl (by simp [nb])
  | c1 n r h0 hr =>
    have len := drop_len hl (by simp)
    have at0 := drop_at hl 0
    have at1 := drop_at hl 1
    have d2 := drop_more hl 2
    rw [List.length_cons, List.length_cons] at len
    refine ⟨1, p + 2 + n.toNat, p + 2, by decide, by simpa using at0, ?_, by omega, by omega, by omega, ?_, .inr ⟨rfl, n.toNat, ?_, rfl, rfl⟩⟩
    · rw [← List.drop_drop, d2]
      rfl
    · unfold theCall
      rw [if_pos rfl, d2, show p + 2 + n.toNat - (p + 2) = n.toNat by omega]
      rfl
    · rw [at1, show ((n.toNat : Nat) : Int) = n by omega]
      rfl
/-! ### what a file's shapes and an answer are bounded by -/
theorem recs_len {kind : Nat} {b : Bytes} (hk : kind = 1 ∨ kind = 3 ∨ kind = 5) : ∀ (f k p : Nat) (l : List Shape), records kind f k (b.drop p) = some l → p ≤ b.length → 8 * l.length ≤ b.length - p
  | 0, k, p, l, h, _ => by rw [records] at h; cases h
  | f + 1, k, p, l, h, hp => by
    by_cases hlt : p < b.length
    · rw [recs_step hlt] at h
      cases e : recStep kind b p k with
      | none => rw [e] at h; cases h
      | some q =>
        obtain ⟨s, p'⟩ := q
        rw [e] at h
        simp only [Option.bind_some] at h
        obtain ⟨_, f2, f3⟩ := recStep_fine hk e
        cases e2 : records kind f (k + 1) (b.drop p') with
        | none => rw [e2] at h; cases h
        | some r =>
          rw [e2] at h
          cases h
          have ih := recs_len hk f (k + 1) p' r e2 f3
          rw [List.length_cons]
          omega
    · rw [recs_end (by omega)] at h
      cases h
      exact Nat.zero_le _
theorem file_parts {b : Bytes} {l : List Shape} (h : file b = some l) : ¬ b.length < 100 ∧ headM b ∧ records (low b 32 4) (b.length + 1) 1 (b.drop 100) = some l := by
  by_cases h1 : b.length < 100
  · rw [file_short h1] at h; cases h
  by_cases h2 : headM b
  · rw [file_eq h1 h2] at h
    refine ⟨h1, h2, ?_⟩
    cases e : records (low b 32 4) (b.length + 1) 1 (b.drop 100) with
    | none => rw [e] at h; cases h
    | some r =>
      rw [e] at h
      simp only [Option.bind_some] at h
      split at h
      · exact h
      · cases h
  · rw [file_head h2] at h; cases h
/-- how many parts -/
theorem cut_len {ps : List Point} {st : List Nat} : (cut ps st).length = st.length := by rw [cut_eq rfl, List.length_map, zip_len]
theorem shape_parts {kind : Nat} (hk : kind = 1 ∨ kind = 3 ∨ kind = 5) {b : Bytes} {s : Shape} (h : shape kind b = some s) : s.parts.length ≤ b.length := by
  rw [shape_eq hk] at h
  split at h
  · cases h
  split at h
  · split at h
    · cases h
      exact Nat.zero_le _
    · cases h
  split at h
  · cases h
  split at h
  · split at h
    · rename_i c
      cases h
      show 1 ≤ _
      omega
    · cases h
  · cases e : partsM kind b with
    | none => rw [e] at h; cases h
    | some l =>
      rw [e] at h
      cases h
      have ep : (shapeOf kind l).parts = l := by unfold shapeOf; split <;> rfl
      rw [ep]
      unfold partsM at e
      split at e
      · rename_i c
        cases e
        rw [cut_len]
        unfold starts
        rw [List.length_map, List.length_range]
        omega
      · cases e
theorem recStep_parts {kind : Nat} (hk : kind = 1 ∨ kind = 3 ∨ kind = 5) {b : Bytes} {p k p' : Nat} {s : Shape} (h : recStep kind b p k = some (s, p')) : s.parts.length ≤ b.length := by
  unfold recStep at h
  split at h
  · cases e : shape kind ((b.drop (p + 8)).take (2 * high b (p + 4) 4)) with
    | none => rw [e] at h; cases h
    | some z =>
      rw [e] at h
      cases h
      have f := shape_parts hk e
      rw [List.length_take, List.length_drop] at f
      omega
  · cases h
theorem recs_parts {kind : Nat} {b : Bytes} (hk : kind = 1 ∨ kind = 3 ∨ kind = 5) : ∀ (f k p : Nat) (l : List Shape), records kind f k (b.drop p) = some l → p ≤ b.length → ∀ s ∈ l, s.parts.length ≤ b.length
  | 0, k, p, l, h, _ => by rw [records] at h; cases h
  | f + 1, k, p, l, h, hp => by
    by_cases hlt : p < b.length
    · rw [recs_step hlt] at h
      cases e : recStep kind b p k with
      | none => rw [e] at h; cases h
      | some q =>
        obtain ⟨s, p'⟩ := q
        rw [e] at h
        simp only [Option.bind_some] at h
        obtain ⟨_, f2, f3⟩ := recStep_fine hk e
        cases e2 : records kind f (k + 1) (b.drop p') with
        | none => rw [e2] at h; cases h
        | some r =>
          rw [e2] at h
          cases h
          have ih := recs_parts hk f (k + 1) p' r e2 f3
          intro z hz
          rcases List.mem_cons.mp hz with rfl | hz
          · exact recStep_parts hk e
          · exact ih z hz
    · rw [recs_end (by omega)] at h
      cases h
      intro z hz
      cases hz
/-- a file of a list of calls -/
structure FineFile (l : List Shape) : Prop where
  pts : Fine (allPoints l) 16000
  few : l.length ≤ 2000
  parts : ∀ s ∈ l, s.parts.length ≤ 16000
theorem file_fine {b : Bytes} {l : List Shape} (h : file b = some l) (hb : b.length ≤ 16000) : FineFile l := by
  obtain ⟨h1, h2, h3⟩ := file_parts h
  refine ⟨(recs_fine h2.2.2.2.2.1 _ _ _ _ h3 (by omega)).mono (by omega), ?_, fun s hs => Nat.le_trans (recs_parts h2.2.2.2.2.1 _ _ _ _ h3 (by omega) s hs) hb⟩
  have := recs_len h2.2.2.2.2.1 _ _ _ _ h3 (by omega)
  omega
def FineSt (s : S) : Prop := ∀ l, s.file = some l → FineFile l
theorem pick_mem {α : Type} {l : List α} {k : Int} {x : α} (h : pick l k = some x) : x ∈ l := by
  unfold pick at h
  split at h
  · cases h
  · exact List.mem_of_getElem? h
theorem len_in {l : List Shape} {s : Shape} (h : s ∈ l) : s.parts.flatten.length ≤ (allPoints l).length := by
  unfold allPoints
  induction l with
  | nil => cases h
  | cons a r ih =>
    rw [List.flatMap_cons, List.length_append]
    rcases List.mem_cons.mp h with rfl | h
    · omega
    · have := ih h
      omega
theorem len_part {ps : List (List Point)} {l : List Point} (h : l ∈ ps) : l.length ≤ ps.flatten.length := by
  induction ps with
  | nil => cases h
  | cons a r ih =>
    rw [List.flatten_cons, List.length_append]
    rcases List.mem_cons.mp h with rfl | h
    · omega
    · have := ih h
      omega
theorem pairs_len (l : List Point) : (l.flatMap fun (p : Point) => [p.1, p.2]).length = 2 * l.length := by
  induction l with
  | nil => rfl
  | cons a r ih =>
    rw [List.flatMap_cons, List.length_append, ih, List.length_cons]
    show 2 + 2 * r.length = 2 * (r.length + 1)
    omega
theorem does_len {s : S} (hs : FineSt s) (c : Rc25.Call) : (does s c).2.numbers.length ≤ 2900 := by
  cases hf : s.file with
  | none => cases c <;> simp only [does, hf] <;> (first | exact Nat.zero_le _ | (split <;> first | exact Nat.zero_le _ | (split <;> exact Nat.zero_le _)))
  | some l =>
    have hl := hs l hf
    have hp := hl.pts.few
    have hn := hl.few
    cases c with
    | init => simp only [does]; exact Nat.zero_le _
    | open_ b n =>
      simp only [does]
      split
      · exact Nat.zero_le _
      · split <;> exact Nat.zero_le _
    | count => simp only [does, hf]; exact Nat.zero_le _
    | about k =>
      simp only [does, hf]
      split
      · exact Nat.zero_le _
      · show 2 ≤ 2900; decide
    | box k =>
      simp only [does, hf]
      split
      · exact Nat.zero_le _
      · exact Nat.zero_le _
      · show 4 ≤ 2900; decide
    | part k i f r =>
      simp only [does, hf]
      split
      · exact Nat.zero_le _
      · rename_i z hz
        split
        · exact Nat.zero_le _
        · rename_i ps hps
          split
          · exact Nat.zero_le _
          · have h1 := len_in (pick_mem hz)
            have h2 := len_part (pick_mem hps)
            show (((ps.drop f.toNat).take (room_ r)).flatMap fun (p : Point) => [p.1, p.2]).length ≤ 2900
            rw [pairs_len, List.length_take, List.length_drop]
            omega
    | at_ px py r =>
      simp only [does, hf]
      split
      · exact Nat.zero_le _
      · show ((holding l (px, py)).take (room_ r)).length ≤ 2900
        rw [List.length_take]
        have : (holding l (px, py)).length ≤ l.length := by
          unfold holding
          exact Nat.le_trans (List.length_filter_le _ _) (by rw [List.length_range]; exact Nat.le_refl _)
        omega
    | area k =>
      simp only [does, hf]
      split
      · exact Nat.zero_le _
      · show 1 ≤ 2900; decide
theorem step_len {s : S} (hs : FineSt s) (c : List (List Int)) : (step s c).2.length ≤ 2901 := by
  unfold step
  cases callOf c with
  | none => exact Nat.zero_le _
  | some x =>
    have := does_len hs x
    simp only [List.length_cons, List.length_map]
    omega
end Ma
end
section
/-! What one call answers, call by call, as the specification tells it. -/
set_option linter.all false
set_option maxRecDepth 100000
namespace Ma
open Rc25 Rc25Neutral
abbrev stepOf (s : S) (k : Nat) (nums : List Int) : S × List Int := step s (PyRc25.whole (theCall k nums))
abbrev askOf (k : Nat) (nums : List Int) : Prop := asked1 (PyRc25.whole (theCall k nums)) = true
theorem w32 {z : Int} (h : whole32 z = true) : -2147483648 ≤ z ∧ z ≤ 2147483647 := by
  unfold whole32 at h
  rw [Bool.and_eq_true, decide_eq_true_eq, decide_eq_true_eq] at h
  omega
theorem nat64 {z : Int} (h : natural z 64 = true) : 0 ≤ z ∧ z < 2 ^ 64 := by
  unfold natural at h
  rw [Bool.and_eq_true, decide_eq_true_eq, decide_eq_true_eq] at h
  exact h
/-! ### what is asked of the numbers -/
theorem ask0 {nums : List Int} (a : askOf 0 nums) : nums = [] := by
  cases nums with
  | nil => rfl
  | cons x r => exact Bool.noConfusion (show false = true from a)
theorem ask2 {nums : List Int} (a : askOf 2 nums) : nums = [] := by
  cases nums with
  | nil => rfl
  | cons x r => exact Bool.noConfusion (show false = true from a)
theorem ask_one {k : Nat} (hk : k = 3 ∨ k = 4 ∨ k = 7) {nums : List Int} (a : askOf k nums) : ∃ x, nums = [x] ∧ -2147483648 ≤ x ∧ x ≤ 2147483647 := by
  cases nums with
  | nil => rcases hk with rfl | rfl | rfl <;> exact Bool.noConfusion (show false = true from a)
  | cons x r =>
    cases r with
    | nil => exact ⟨x, rfl, w32 (by rcases hk with rfl | rfl | rfl <;> exact a)⟩
    | cons y r => rcases hk with rfl | rfl | rfl <;> exact Bool.noConfusion (show false = true from a)
theorem ask5 {nums : List Int} (a : askOf 5 nums) : ∃ x y z u, nums = [x, y, z, u] := by
  cases nums with
  | nil => exact Bool.noConfusion (show false = true from a)
  | cons x r =>
    cases r with
    | nil => exact Bool.noConfusion (show false = true from a)
    | cons y r =>
      cases r with
      | nil => exact Bool.noConfusion (show false = true from a)
      | cons z r =>
        cases r with
        | nil => exact Bool.noConfusion (show false = true from a)
        | cons u r =>
          cases r with
          | nil => exact ⟨x, y, z, u, rfl⟩
          | cons v r => exact Bool.noConfusion (show false = true from a)
theorem ask6 {nums : List Int} (a : askOf 6 nums) : ∃ (x y : Nat) (m : Int), nums = [(x : Int), (y : Int), m] ∧ x < 2 ^ 64 ∧ y < 2 ^ 64 := by
  cases nums with
  | nil => exact Bool.noConfusion (show false = true from a)
  | cons x r =>
    cases r with
    | nil => exact Bool.noConfusion (show false = true from a)
    | cons y r =>
      cases r with
      | nil => exact Bool.noConfusion (show false = true from a)
      | cons m r =>
        cases r with
        | nil =>
          have q : (natural x 64 && (natural y 64 && whole32 m)) = true := a
          rw [Bool.and_eq_true, Bool.and_eq_true] at q
          have q1 := nat64 q.1
          have q2 := nat64 q.2.1
          clear a
          exact ⟨x.toNat, y.toNat, m, by rw [Int.toNat_of_nonneg q1.1, Int.toNat_of_nonneg q2.1], by omega, by omega⟩
        | cons v r => exact Bool.noConfusion (show false = true from a)
theorem ask1 {nums : List Int} (a : askOf 1 nums) : Bt nums := by
  have q : ((nums.all (fun (z : Int) => natural z 8) && long nums nums.length 1 4194304) && (whole32 nums.length)) = true := a
  rw [Bool.and_eq_true, Bool.and_eq_true] at q
  intro x hx
  have := List.all_eq_true.mp q.1.1 x hx
  unfold natural at this
  rw [Bool.and_eq_true, decide_eq_true_eq, decide_eq_true_eq] at this
  exact this
/-! ### what is answered -/
theorem step0 (s : S) : stepOf s 0 [] = ({}, [0]) := rfl
theorem step1_none {s : S} {nums : List Int} (h : file (bytesOf nums) = none) : stepOf s 1 nums = (s, [-1]) := by
  have e : PyRc25.whole (theCall 1 nums) = [[1, (nums.length : Int)], nums] := rfl
  unfold stepOf
  rw [e]
  show ((does s (.open_ (bytesOf nums) (nums.length : Int))).1, (does s (.open_ (bytesOf nums) (nums.length : Int))).2.value :: (does s (.open_ (bytesOf nums) (nums.length : Int))).2.numbers.map fun (b : Nat) => (b : Int)) = _
  simp only [does, h]
  split <;> rfl
theorem step1_some {s : S} {nums : List Int} {l : List Shape} (h : file (bytesOf nums) = some l) (hn : nums.length ≤ 16000) : stepOf s 1 nums = ({ file := some l }, [0]) := by
  have e : PyRc25.whole (theCall 1 nums) = [[1, (nums.length : Int)], nums] := rfl
  have h100 := (file_parts h).1
  rw [len_bytes] at h100
  unfold stepOf
  rw [e]
  show ((does s (.open_ (bytesOf nums) (nums.length : Int))).1, (does s (.open_ (bytesOf nums) (nums.length : Int))).2.value :: (does s (.open_ (bytesOf nums) (nums.length : Int))).2.numbers.map fun (b : Nat) => (b : Int)) = _
  simp only [does, h]
  rw [if_neg (by omega)]
  rfl
theorem step_no_file {s : S} (hf : s.file = none) {k : Nat} (hk : 2 ≤ k) (h8 : k < 8) {nums : List Int} (a : askOf k nums) : stepOf s k nums = (s, [-4]) := by
  have : k = 2 ∨ k = 3 ∨ k = 4 ∨ k = 5 ∨ k = 6 ∨ k = 7 := by omega
  rcases this with rfl | rfl | rfl | rfl | rfl | rfl
  · rw [ask2 a]
    show ((does s .count).1, (does s .count).2.value :: (does s .count).2.numbers.map fun (b : Nat) => (b : Int)) = _
    simp only [does, hf]
    rfl
  · obtain ⟨x, rfl, _⟩ := ask_one (by decide) a
    show ((does s (.about x)).1, (does s (.about x)).2.value :: (does s (.about x)).2.numbers.map fun (b : Nat) => (b : Int)) = _
    simp only [does, hf]
    rfl
  · obtain ⟨x, rfl, _⟩ := ask_one (by decide) a
    show ((does s (.box x)).1, (does s (.box x)).2.value :: (does s (.box x)).2.numbers.map fun (b : Nat) => (b : Int)) = _
    simp only [does, hf]
    rfl
  · obtain ⟨x, y, z, u, rfl⟩ := ask5 a
    show ((does s (.part x y z u)).1, (does s (.part x y z u)).2.value :: (does s (.part x y z u)).2.numbers.map fun (b : Nat) => (b : Int)) = _
    simp only [does, hf]
    rfl
  · obtain ⟨x, y, m, rfl, _, _⟩ := ask6 a
    show ((does s (.at_ x y m)).1, (does s (.at_ x y m)).2.value :: (does s (.at_ x y m)).2.numbers.map fun (b : Nat) => (b : Int)) = _
    simp only [does, hf]
    rfl
  · obtain ⟨x, rfl, _⟩ := ask_one (by decide) a
    show ((does s (.area x)).1, (does s (.area x)).2.value :: (does s (.area x)).2.numbers.map fun (b : Nat) => (b : Int)) = _
    simp only [does, hf]
    rfl
def nums (l : List Nat) : List Int := l.map fun (b : Nat) => (b : Int)
def tellBox (l : List Shape) (k : Int) : List Int := match pick l k with
  | none => [-1]
  | some .null => [-2]
  | some z => 0 :: nums (boxOf z.parts.flatten)
def tellPart (l : List Shape) (k i f r : Int) : List Int := match pick l k with
  | none => [-1]
  | some z => match pick z.parts i with
    | none => [-1]
    | some ps => if f < 0 then [-1] else (((ps.drop f.toNat).take (room_ r)).length : Int) :: nums (((ps.drop f.toNat).take (room_ r)).flatMap fun (p : Point) => [p.1, p.2])
def tellAt (l : List Shape) (x y : Nat) (r : Int) : List Int := if (coordinate x && coordinate y) = false then [-1] else ((holding l (x, y)).length : Int) :: nums ((holding l (x, y)).take (room_ r))
def tellArea (l : List Shape) (k : Int) : List Int := match pick l k with
  | none => [-1]
  | some z => [0, (nearest z.inside : Int)]
def tellAbout (l : List Shape) (k : Int) : List Int := match pick l k with
  | none => [-1]
  | some z => [(z.kind : Nat), (z.parts.length : Nat), (z.parts.flatten.length : Nat)]
section
variable {s : S} {l : List Shape}
theorem step2 (hf : s.file = some l) : stepOf s 2 [] = (s, [(l.length : Int)]) := by
  show ((does s .count).1, (does s .count).2.value :: (does s .count).2.numbers.map fun (b : Nat) => (b : Int)) = _
  simp only [does, hf]
  rfl
theorem step3 (hf : s.file = some l) (k : Int) : stepOf s 3 [k] = (s, tellAbout l k) := by
  show ((does s (.about k)).1, (does s (.about k)).2.value :: (does s (.about k)).2.numbers.map fun (b : Nat) => (b : Int)) = _
  simp only [does, hf]
  unfold tellAbout
  cases pick l k <;> rfl
theorem step4 (hf : s.file = some l) (k : Int) : stepOf s 4 [k] = (s, tellBox l k) := by
  show ((does s (.box k)).1, (does s (.box k)).2.value :: (does s (.box k)).2.numbers.map fun (b : Nat) => (b : Int)) = _
  simp only [does, hf]
  unfold tellBox
  cases pick l k with
  | none => rfl
  | some z => cases z <;> rfl
theorem step5 (hf : s.file = some l) (k i f r : Int) : stepOf s 5 [k, i, f, r] = (s, tellPart l k i f r) := by
  show ((does s (.part k i f r)).1, (does s (.part k i f r)).2.value :: (does s (.part k i f r)).2.numbers.map fun (b : Nat) => (b : Int)) = _
  simp only [does, hf]
  unfold tellPart
  cases pick l k with
  | none => rfl
  | some z =>
    cases hz : pick z.parts i with
    | none => simp only [hz]; rfl
    | some ps =>
      simp only [hz]
      split <;> rfl
theorem step6 (hf : s.file = some l) (x y : Nat) (r : Int) : stepOf s 6 [(x : Int), (y : Int), r] = (s, tellAt l x y r) := by
  show ((does s (.at_ x y r)).1, (does s (.at_ x y r)).2.value :: (does s (.at_ x y r)).2.numbers.map fun (b : Nat) => (b : Int)) = _
  simp only [does, hf]
  unfold tellAt
  split <;> rfl
theorem step7 (hf : s.file = some l) (k : Int) : stepOf s 7 [k] = (s, tellArea l k) := by
  show ((does s (.area k)).1, (does s (.area k)).2.value :: (does s (.area k)).2.numbers.map fun (b : Nat) => (b : Int)) = _
  simp only [does, hf]
  unfold tellArea
  cases pick l k <;> rfl
end
/-- all calls but open leave the file, or take it away -/
theorem step_fine {s : S} (hs : FineSt s) {k : Nat} (h8 : k < 8) {nums : List Int} (hn : nums.length ≤ 16000) (a : askOf k nums) : FineSt (stepOf s k nums).1 := by
  match k, h8, a with
  | 0, _, a => rw [ask0 a, step0]; exact fun l h => nomatch h
  | 1, _, a =>
    cases h : file (bytesOf nums) with
    | none => rw [step1_none h]; exact hs
    | some l =>
      rw [step1_some h hn]
      exact fun l' e => by
        cases e
        exact file_fine h (by rw [len_bytes]; exact hn)
  | k + 2, h8, a =>
    cases hf : s.file with
    | none => rw [step_no_file hf (Nat.le_add_left _ _) h8 a]; exact hs
    | some l =>
      match k, h8, a with
      | 0, _, a => rw [ask2 a, step2 hf]; exact hs
      | 1, _, a => obtain ⟨x, rfl, _⟩ := ask_one (.inl rfl) a; rw [step3 hf]; exact hs
      | 2, _, a => obtain ⟨x, rfl, _⟩ := ask_one (.inr (.inl rfl)) a; rw [step4 hf]; exact hs
      | 3, _, a => obtain ⟨x, y, z, u, rfl⟩ := ask5 a; rw [step5 hf]; exact hs
      | 4, _, a => obtain ⟨x, y, m, rfl, _, _⟩ := ask6 a; rw [step6 hf]; exact hs
      | 5, _, a => obtain ⟨x, rfl, _⟩ := ask_one (.inr (.inr rfl)) a; rw [step7 hf]; exact hs
end Ma
end
section
/-! The nearest double; whether a shape holds a point; as the program works them out. -/
set_option linter.all false
set_option maxRecDepth 100000
set_option exponentiation.threshold 5000
namespace Ma
open Rc25 Rc25Neutral
/-! ### the nearest double -/
/-- without the last d bits, to the nearest, of two as near to the even one -/
def wlb (m d : Nat) : Nat := if 2 ^ d < 2 * (m % 2 ^ d) ∨ (2 ^ d = 2 * (m % 2 ^ d) ∧ m / 2 ^ d % 2 = 1) then m / 2 ^ d + 1 else m / 2 ^ d
/-- how many bits are dropped, of a number of so many bits -/
def drp (bits : Nat) : Nat := max (bits - 53) 1075
theorem wlb_zero (d : Nat) : wlb 0 d = 0 := by
  unfold wlb
  have : (0 : Nat) < 2 ^ d := Nat.two_pow_pos d
  rw [if_neg]
  · simp
  · simp
theorem nearest_eq (z : Int) {b : Nat} (hb : z.natAbs = 0 ∧ b = 0 ∨ z.natAbs ≠ 0 ∧ b = Nat.log2 z.natAbs + 1) : nearest z = (if z < 0 then 2 ^ 63 else 0) + ((drp b - 1075) * 2 ^ 52 + wlb z.natAbs (drp b)) := by
  unfold nearest
  generalize hs : (if z < 0 then 2 ^ 63 else 0 : Nat) = s
  rcases hb with ⟨h0, rfl⟩ | ⟨h0, rfl⟩
  · simp only [h0, if_true]
    rw [wlb_zero]
    simp [drp]
  · simp only [h0, if_false]
    have hd : drp (Nat.log2 z.natAbs + 1) = max (Nat.log2 z.natAbs - 52) 1075 := by unfold drp; congr 1
    rw [hd]
    generalize hu : max (Nat.log2 z.natAbs - 52) 1075 = u
    congr 1
    have hw : (if 2 ^ u < 2 * (z.natAbs % 2 ^ u) ∨ (2 ^ u = 2 * (z.natAbs % 2 ^ u) ∧ z.natAbs / 2 ^ u % 2 = 1) then z.natAbs / 2 ^ u + 1 else z.natAbs / 2 ^ u) = wlb z.natAbs u := rfl
    rw [hw]
    have hq : z.natAbs / 2 ^ u ≤ wlb z.natAbs u := by
      unfold wlb
      split <;> omega
    by_cases hu2 : u = 1075
    · split
      · rw [show u - 1075 = 0 by omega, Nat.zero_mul, Nat.zero_add]
      · rename_i h
        rw [show u - 1075 = 0 by omega, show u - 1074 = 1 by omega, Nat.zero_mul, Nat.zero_add, Nat.one_mul]
        generalize wlb z.natAbs u = q at h ⊢
        clear hw hq
        omega
    · have hu3 : u = Nat.log2 z.natAbs - 52 ∧ 1075 < u := by omega
      have h1 : 2 ^ Nat.log2 z.natAbs ≤ z.natAbs := Nat.log2_self_le h0
      have h2 : 2 ^ 52 ≤ z.natAbs / 2 ^ u := by
        rw [Nat.le_div_iff_mul_le (Nat.two_pow_pos u), ← Nat.pow_add]
        exact Nat.le_trans (Nat.pow_le_pow_right (by decide) (by omega)) h1
      rw [if_neg (by omega)]
      obtain ⟨v, hv⟩ : ∃ v, u = v + 1075 := ⟨u - 1075, by omega⟩
      rw [hv, show v + 1075 - 1074 = v + 1 by omega, show v + 1075 - 1075 = v by omega, Nat.add_mul]
      rw [hv] at hq h2
      omega
theorem wlb_lt {m d : Nat} (h : m < 2 ^ (d + 53)) : wlb m d ≤ 2 ^ 53 := by
  have : m / 2 ^ d < 2 ^ 53 := by
    rw [Nat.div_lt_iff_lt_mul (Nat.two_pow_pos d), ← Nat.pow_add, Nat.add_comm]
    exact h
  unfold wlb
  split <;> omega
theorem near_lt {m b : Nat} (hb : m = 0 ∧ b = 0 ∨ m ≠ 0 ∧ b = Nat.log2 m + 1) (hm : m < 2 ^ 2300) : (drp b - 1075) * 2 ^ 52 + wlb m (drp b) < 2 ^ 63 ∧ b ≤ 2300 := by
  have hb2 : b ≤ 2300 := by
    rcases hb with ⟨_, rfl⟩ | ⟨h0, rfl⟩
    · decide
    · have : Nat.log2 m < 2300 := (Nat.log2_lt h0).mpr hm
      omega
  have hmb : m < 2 ^ b := by
    rcases hb with ⟨rfl, rfl⟩ | ⟨h0, rfl⟩
    · decide
    · exact Nat.lt_log2_self
  have h1 : m < 2 ^ (drp b + 53) := Nat.lt_of_lt_of_le hmb (Nat.pow_le_pow_right (by decide) (by unfold drp; omega))
  have h2 := wlb_lt h1
  have h3 : drp b ≤ 2300 := by unfold drp; omega
  refine ⟨?_, hb2⟩
  have h4 : (drp b - 1075) * 2 ^ 52 ≤ 1225 * 2 ^ 52 := Nat.mul_le_mul_right _ (by omega)
  exact Nat.lt_of_le_of_lt (Nat.add_le_add h4 h2) (by decide)
/-! ### whether a point is held -/
def ways (l : List Point) : List (Point × Point) := l.zip (l.drop 1)
theorem turn_swap (a b p : Point) : turn b a p = - turn a b p := by unfold turn; grind
theorem crosses_eq (a b p : Point) : crosses a b p = if y a ≤ y p ∧ y p < y b then decide (0 < turn a b p) else if y b ≤ y p ∧ y p < y a then decide (turn a b p < 0) else false := by
  unfold crosses
  rw [turn_swap a b p]
  have e : decide (0 < -turn a b p) = decide (turn a b p < 0) := by
    by_cases h : turn a b p < 0
    · simp [h]
    · simp [h]
  rw [e]
theorem onSide_eq (a b p : Point) : onSide a b p = (between (y a) (y b) (y p) && (between (x a) (x b) (x p) && decide (turn a b p = 0))) := by
  unfold onSide
  have e : (turn a b p == 0) = decide (turn a b p = 0) := by
    by_cases h : turn a b p = 0
    · simp [h]
    · simp [h]
  rw [e]
  cases decide (turn a b p = 0) <;> cases between (x a) (x b) (x p) <;> cases between (y a) (y b) (y p) <;> rfl
def crossed (ps : List (List Point)) (p : Point) : Nat := (ps.map fun s => crossings s p).sum
theorem holds_eq {s : Shape} (h : s.kind ≠ 1) (p : Point) : s.holds p = ((s.parts.any fun l => onLine l p) || (decide (s.kind = 5) && decide (crossed s.parts p % 2 = 1))) := by
  cases s with
  | null => rfl
  | point q => exact absurd rfl h
  | lines l => simp [Shape.holds, Shape.parts, Shape.kind]
  | area l =>
    simp only [Shape.holds, Shape.parts, Shape.kind, crossed, decide_true, Bool.true_and]
    congr 1
theorem holds_pt {s : Shape} (h : s.kind = 1) (p : Point) : ∃ q, s = .point q ∧ s.holds p = (decide (x q = x p) && decide (y q = y p)) := by
  cases s with
  | point q =>
    refine ⟨q, rfl, ?_⟩
    have e : ∀ a b : Int, (a == b) = decide (a = b) := fun a b => by
      by_cases h : a = b
      · simp [h]
      · simp [h]
    show (x q == x p && y q == y p) = _
    rw [e, e]
  | null => cases h
  | lines l => cases h
  | area l => cases h
theorem crossed_nil (p : Point) : crossed [] p = 0 := rfl
theorem crossed_snoc (ps : List (List Point)) (l : List Point) (p : Point) : crossed (ps ++ [l]) p = crossed ps p + crossings l p := by
  unfold crossed
  rw [List.map_append, List.sum_append]
  simp
theorem crossings_eq (l : List Point) (p : Point) : crossings l p = ((ways l).filter fun s => crosses s.1 s.2 p).length := rfl
theorem onLine_eq (l : List Point) (p : Point) : onLine l p = (ways l).any fun s => onSide s.1 s.2 p := rfl
def cnt (w : List (Point × Point)) (p : Point) : Nat := (w.filter fun s => crosses s.1 s.2 p).length
theorem cnt_snoc (w : List (Point × Point)) (s : Point × Point) (p : Point) : cnt (w ++ [s]) p = cnt w p + (if crosses s.1 s.2 p = true then 1 else 0) := by
  unfold cnt
  rw [List.filter_append, List.length_append]
  congr 1
  by_cases h : crosses s.1 s.2 p = true
  · rw [if_pos h]; simp [List.filter, h]
  · rw [if_neg h]; simp [List.filter, h]
theorem cnt_le (w : List (Point × Point)) (p : Point) : cnt w p ≤ w.length := List.length_filter_le _ _
theorem ways_len (l : List Point) : (ways l).length = l.length - 1 := by unfold ways; rw [List.length_zip, List.length_drop]; omega
theorem crossed_le (ps : List (List Point)) (p : Point) : crossed ps p ≤ ps.flatten.length := by
  induction ps with
  | nil => exact Nat.zero_le _
  | cons a r ih =>
    have h1 : crossed (a :: r) p = crossings a p + crossed r p := by unfold crossed; simp
    have h2 : crossings a p ≤ (ways a).length := List.length_filter_le _ _
    have h3 := ways_len a
    rw [h1, List.flatten_cons, List.length_append]
    omega
/-! ### how large a size may be -/
theorem sum_abs (l : List Int) (B : Nat) (h : ∀ z ∈ l, z.natAbs ≤ B) : l.sum.natAbs ≤ l.length * B := by
  induction l with
  | nil => simp
  | cons a r ih =>
    rw [List.sum_cons, List.length_cons, Nat.add_mul]
    have h1 := h a List.mem_cons_self
    have h2 := ih fun z hz => h z (List.mem_cons_of_mem _ hz)
    omega
theorem worth_le {n : Nat} (h : coordinate n = true) : (worth n).natAbs ≤ 2 ^ 1114 := by
  have := size_lt h
  have e : (worth n).natAbs = size n := by
    rw [worth_eq]
    split <;> omega
  omega
theorem mul_abs {a b : Int} {m n : Nat} (ha : a.natAbs ≤ 2 ^ m) (hb : b.natAbs ≤ 2 ^ n) : (a * b).natAbs ≤ 2 ^ (m + n) := by
  rw [Int.natAbs_mul, Nat.pow_add]
  exact Nat.mul_le_mul ha hb
theorem around_abs {l : List Point} (hg : good l = true) : (around l).natAbs ≤ l.length * 2 ^ 2229 := by
  unfold around
  have h1 := sum_abs ((l.zip (l.drop 1)).map fun s => x s.1 * y s.2 - x s.2 * y s.1) (2 ^ 2229) fun z hz => by
    obtain ⟨⟨a, b⟩, hs, rfl⟩ := List.mem_map.mp hz
    have ha := List.all_eq_true.mp hg a (List.of_mem_zip hs).1
    have hb := List.all_eq_true.mp hg b (List.mem_of_mem_drop (List.of_mem_zip hs).2)
    rw [Bool.and_eq_true] at ha hb
    have e1 := mul_abs (worth_le ha.1) (worth_le hb.2)
    have e2 := mul_abs (worth_le hb.1) (worth_le ha.2)
    have e3 : (2 : Nat) ^ 2229 = 2 ^ (1114 + 1114) + 2 ^ (1114 + 1114) := by rw [← Nat.two_mul, Nat.mul_comm, ← Nat.pow_succ]
    show (x a * y b - x b * y a).natAbs ≤ 2 ^ 2229
    rw [e3]
    generalize (2 : Nat) ^ (1114 + 1114) = M at e1 e2 ⊢
    unfold x y at *
    omega
  refine Nat.le_trans h1 (Nat.mul_le_mul_right _ ?_)
  rw [List.length_map, List.length_zip]
  omega
theorem arounds_abs {ps : List (List Point)} (hg : good ps.flatten = true) : (ps.map around).sum.natAbs ≤ ps.flatten.length * 2 ^ 2229 := by
  induction ps with
  | nil => simp
  | cons a r ih =>
    rw [List.flatten_cons] at hg
    rw [good_append, Bool.and_eq_true] at hg
    have h1 := around_abs hg.1
    have h2 := ih hg.2
    rw [List.map_cons, List.sum_cons, List.flatten_cons, List.length_append, Nat.add_mul]
    omega
theorem inside_abs {s : Shape} (hg : good s.parts.flatten = true) (hl : s.parts.flatten.length ≤ 1000) : s.inside.natAbs < 2 ^ 2300 := by
  have h0 : (0 : Nat) < 2 ^ 2300 := Nat.two_pow_pos _
  cases s with
  | area l =>
    have h1 := arounds_abs hg
    have h2 : l.flatten.length * 2 ^ 2229 ≤ 2 ^ 10 * 2 ^ 2229 := Nat.mul_le_mul_right _ (Nat.le_trans hl (by decide))
    rw [← Nat.pow_add] at h2
    have h3 : (2 : Nat) ^ (10 + 2229) < 2 ^ 2300 := Nat.pow_lt_pow_right (by decide) (by decide)
    show (-(l.map around).sum).natAbs < 2 ^ 2300
    rw [Int.natAbs_neg]
    exact Nat.lt_of_le_of_lt (Nat.le_trans h1 h2) h3
  | null => exact h0
  | point p => exact h0
  | lines l => exact h0
end Ma
end
section
set_option Elab.async false
set_option linter.all false
set_option maxRecDepth 100000
/-! Exceptions of one own class, over the hand layer: how one lies behind a call, raise, passing on, try. -/
namespace L3
open PySem PySem.Spec PyProof.Rows L2
/-- an exception of the class at C on its way: its record at x, its newest trace; both untracked, and not of the heap g -/
def Fly (h : Heap) (H : Hp) (g : Heap) (x C : Addr) : Prop :=
  ∃ a0 oe vs T oT ts, h.get? x = some oe ∧ (oe.cls = .ref C ∧ vs[0]? = some a0) ∧ oe.data = .fields vs ∧ vs[1]? = some (.ref T) ∧ T ≠ x ∧ h.get? T = some oT ∧ oT.data = .fields ts ∧ ts[3]? = some .none ∧
    H x = none ∧ H T = none ∧ g.get? x = none ∧ g.get? T = none
theorem Fly.back {h g g' : Heap} {H : Hp} {x C : Addr} (f : Fly h H g x C) (k : ∀ b o, g'.get? b = some o → ∃ o', g.get? b = some o') : Fly h H g' x C := by
  obtain ⟨a0, oe, vs, T, oT, ts, h1, h2, h3, h4, h5, h6, h7, h8, h9, h10, h11, h12⟩ := f
  refine ⟨a0, oe, vs, T, oT, ts, h1, h2, h3, h4, h5, h6, h7, h8, h9, h10, ?_, ?_⟩
  · cases q : g'.get? x with
    | none => rfl
    | some o => obtain ⟨o', e⟩ := k x o q; rw [h11] at e; cases e
  · cases q : g'.get? T with
    | none => rfl
    | some o => obtain ⟨o', e⟩ := k T o q; rw [h12] at e; cases e
/-- how an exception lies behind a call -/
def CXE (P : Program) (w : World) (C : Addr) : CXT := fun outer H s E e s' =>
  ∃ x H', e = .ref x ∧ s'.os = s.os ∧ AllBare s'.gens ∧ Un (frs outer) [] H H' s.heap s'.heap ∧ HOk P w H' s'.heap ∧ Fly s'.heap H' s.heap x C ∧ E (.ref C) none H'
theorem funFrames_base {h b1 b2 : Heap} : ∀ {l : List Env}, h.FunFrames b1 l → (∀ a ∈ frs l, b2.get? a = none) → h.FunFrames b2 l
  | [], _, _ => trivial
  | env :: r, ⟨k, ⟨L, o, f, n, ho, d⟩, t⟩, hb => by
    have e : frs (env :: r) = L :: frs r := by unfold frs; rw [List.filterMap_cons, f]
    rw [e] at hb
    exact ⟨k, ⟨L, o, f, hb L List.mem_cons_self, ho, d⟩, funFrames_base t fun a ha => hb a (List.mem_cons_of_mem _ ha)⟩
theorem objOk_there {P : Program} {w : World} {H : Hp} {h : Heap} {a : Addr} {o : HO} (x : ObjOk P w H h a o) : ∃ u, h.get? a = some u := by
  cases o with
  | lst xs => obtain ⟨_, _, _, _, e⟩ := x; exact ⟨_, e⟩
  | tup xs => obtain ⟨_, _, _, _, e, _⟩ := x; exact ⟨_, e⟩
  | dK kvs => obtain ⟨_, _, _, _, o, _, _, e, _⟩ := x; exact ⟨_, e⟩
  | dT kvs => obtain ⟨_, _, _, _, o, _, _, e, _⟩ := x; exact ⟨_, e⟩
  | set S n => obtain ⟨o, _, _, _, e, _⟩ := x; exact ⟨_, e⟩
  | ins C dx fs => obtain ⟨_, _, _, e, _⟩ := x; exact ⟨_, e⟩
  | own y => obtain ⟨_, e⟩ := x; exact ⟨_, e⟩
  | xd fs => obtain ⟨_, ⟨_, _, _, e, _⟩, _⟩ := x; exact ⟨_, e⟩
  | rng lo hi => obtain ⟨_, _, _, e⟩ := x; exact ⟨_, e⟩
  | frz ob u => obtain ⟨e, _⟩ := x; exact ⟨_, e⟩
  | tbl ps => exact ⟨_, show h.get? a = some _ from x⟩
  | met f y => exact ⟨_, show h.get? a = some _ from x⟩
  | ext φ => obtain ⟨_, ⟨_, e⟩, _⟩ := x; exact ⟨_, e⟩
theorem untracked {P : Program} {w : World} {H : Hp} {h : Heap} {a : Addr} (ok : HOk P w H h) (e : h.get? a = none) : H a = none := by
  cases q : H a with
  | none => rfl
  | some o => obtain ⟨u, z⟩ := objOk_there (ok a o q); rw [e] at z; cases z
/-- what stays behind a frame that an exception has left; h: ahead of the raise, h1: ahead of the leaving -/
theorem left_fin {P : Program} {w : World} {H : Hp} {h h1 h' g b0 : Heap} {l : List Env} {x C : Addr} {a0 : Value} {more : List Addr}
    (hok : HOk P w H h) (k1 : ∀ b o, h.get? b = some o → h1.get? b = some o) (hl : h1.FunFrames b0 l) (fr : ∀ b ∈ frs l, H b = none) (mo : ∀ b ∈ more, H b = none ∧ g.get? b = none)
    (hx : H x = none ∧ g.get? x = none) (gd : ∀ b o, g.get? b = some o → ∃ o', h.get? b = some o')
    (stay : (PySem.W.hideAll h (frs l ++ more)).StaysIn h') (tr : h'.TracedW (PySem.W.hideAll h (frs l ++ more)) x (.ref C) a0) (ups : h1.UpToSlots h') :
    (∀ b o, h.get? b = some o → b ∉ frs l → b ∉ more → h'.get? b = some o) ∧ (∀ b o, h.get? b = some o → b ∈ frs l → ∃ sl, h'.get? b = some { o with slots := sl }) ∧ HOk P w H h' ∧ Fly h' H g x C := by
  have keep : ∀ b o, h.get? b = some o → b ∉ frs l → b ∉ more → h'.get? b = some o := fun b o e n1 n2 =>
    stay b o (PySem.W.hideAll_get _ e fun z => (List.mem_append.mp z).elim n1 n2)
  have fram : ∀ b, b ∈ frs l → ∃ o, h'.get? b = some o ∧ ∀ vs, o.data ≠ .fields vs := fun b hb => by
    obtain ⟨_, o, ho, hd⟩ := hl.mem hb
    obtain ⟨sl, e⟩ := ups b o ho hd
    exact ⟨_, e, hd⟩
  have slot : ∀ b o, h.get? b = some o → b ∈ frs l → ∃ sl, h'.get? b = some { o with slots := sl } := fun b o e hb => by
    obtain ⟨_, o2, ho, hd⟩ := hl.mem hb
    have e2 := k1 b o e
    rw [ho] at e2
    cases e2
    exact ups b _ ho hd
  have trk : ∀ b u, H b = some u → b ∉ frs l ∧ b ∉ more := fun b u e => ⟨fun z => (by rw [fr b z] at e; cases e), fun z => (by rw [(mo b z).1] at e; cases e)⟩
  have ok' : HOk P w H h' := fun b u e => (hok b u e).stay (fun c v hc q => by
      rcases hc with rfl | hc
      · exact keep _ v q (trk _ u e).1 (trk _ u e).2
      · exact keep c v q (trk c _ hc).1 (trk c _ hc).2) (fun _ q => q) fun _ _ q => q
  refine ⟨keep, slot, ok', ?_⟩
  obtain ⟨oe, vs, T, oT, ts, he, hc, hd, h1', hnT, hTe, hT, hdT, h3⟩ := tr
  have nf : T ∉ frs l := fun z => by
    obtain ⟨o, e, n⟩ := fram T z
    rw [hT] at e; cases e
    exact n ts hdT
  have hnh : T ∉ more → h.get? T = none := fun z => by
    cases q : h.get? T with
    | none => rfl
    | some o => rw [PySem.W.hideAll_get (frs l ++ more) q fun y => (List.mem_append.mp y).elim nf z] at hnT; cases hnT
  have HT : H T = none ∧ g.get? T = none := by
    by_cases z : T ∈ more
    · exact mo T z
    · refine ⟨untracked hok (hnh z), ?_⟩
      cases q : g.get? T with
      | none => rfl
      | some o => obtain ⟨o', e⟩ := gd T o q; rw [hnh z] at e; cases e
  exact ⟨a0, oe, vs, T, oT, ts, he, hc, hd, h1', hTe, hT, hdT, h3, hx.1, HT.1, hx.2, HT.2⟩
section
variable {X : Cx} {pins : List (Addr × Obj)} {σ : L2.St} {H : Hp} {s : Shared} {x C : Addr}
/-- a running def's own frame is on the stack -/
structure Top (X : Cx) : Prop where
  stk : X.stack = X.env :: X.outer
  frm : X.env.frame = some X.env.locals
  nex : X.ex = []
theorem Top.frs (t : Top X) : frs X.stack = X.env.locals :: frs X.outer := by
  rw [t.stk]; unfold L2.frs; rw [List.filterMap_cons, t.frm]
/-- the end of a leaving, by what stays -/
theorem left_cx {E : XK} {h' : Heap} {more : List Addr} (I : Inv X pins σ H s) (t : Top X) (mo : ∀ b ∈ more, X.s_0.heap.get? b = none)
    (z : (∀ b o, s.heap.get? b = some o → b ∉ frs X.stack → b ∉ more → h'.get? b = some o) ∧ (∀ b o, s.heap.get? b = some o → b ∈ frs X.stack → ∃ sl, h'.get? b = some { o with slots := sl }) ∧ HOk X.prog X.w H h' ∧ Fly h' H X.s_0.heap x C)
    (q : E (.ref C) none H) {s2 : Shared} (e1 : s2.os = s.os) (e2 : s2.gens = s.gens) (e3 : s2.heap = h') : CXE X.prog X.w C X.outer X.H_0 X.s_0 E (.ref x) s2 := by
  obtain ⟨keep, slot, ok', fly⟩ := z
  subst e3
  have nx : ∀ b : Addr, b ∉ X.ex := fun b => by rw [t.nex]; exact List.not_mem_nil
  have low : ∀ b o, X.s_0.heap.get? b = some o → b ≠ X.env.locals ∧ b ∉ more := fun b o e => ⟨Nat.ne_of_lt (Nat.lt_of_lt_of_le (Heap.lt_size e) I.ok.above), fun y => (by rw [mo b y] at e; cases e)⟩
  have nfr : ∀ b o, X.s_0.heap.get? b = some o → b ∉ frs X.outer → b ∉ frs X.stack := fun b o e n y => by
    rw [t.frs] at y
    rcases List.mem_cons.mp y with y | y
    · exact (low b o e).1 y
    · exact n y
  refine ⟨x, H, rfl, e1.trans I.os, by rw [e2]; exact I.bare, ⟨fun b o e n hb _ => ?_, fun b o e n hb _ => ?_, fun b o e n _ => I.base.free b o e n (nx b), fun b o e _ => ?_, I.base.tups, I.base.frzs, I.base.tbls⟩, ok', fly, q⟩
  · exact keep b o (I.base.keep b o e n hb (nx b)) (nfr b o e hb) (low b o e).2
  · obtain ⟨sl, e1⟩ := I.base.slot b o e n hb (nx b)
    obtain ⟨sl', e2⟩ := slot b _ e1 (by rw [t.frs]; exact List.mem_cons_of_mem _ hb)
    exact ⟨sl', e2⟩
  · obtain ⟨o', e1⟩ := I.base.there b o e (nx b)
    by_cases hb : b ∈ frs X.stack
    · obtain ⟨sl', e2⟩ := slot b _ e1 hb
      exact ⟨_, e2⟩
    · exact ⟨o', keep b o' e1 hb (low b o e).2⟩
theorem leave_next {M : Model} {Q : Unit → Shared → Prop} {E : Value → Shared → Prop} {E' : XK} (I : Inv X pins σ H s) (t : Top X) (fl : Fly s.heap H X.s_0.heap x C) (e : E' (.ref C) none H)
    (h : ∀ h', CXE X.prog X.w C X.outer X.H_0 X.s_0 E' (.ref x) { s with heap := h' } → Q () { s with heap := h' }) : wpAny M X.A (leaving X.env (.ref x)) Q E s := by
  obtain ⟨a0, oe, vs, T, oT, ts, he, hc, hd, h1, hTx, hT, hdT, h3, Hx, HT, gx, gT⟩ := fl
  have hid : ∀ b, b ∈ frs X.stack ++ [x, T] → (PySem.W.hideAll s.heap (frs X.stack ++ [x, T])).get? b = none := fun b hb => PySem.W.hideAll_none _ hb
  have tx : x ∈ frs X.stack ++ [x, T] := List.mem_append_right _ List.mem_cons_self
  have tT : T ∈ frs X.stack ++ [x, T] := List.mem_append_right _ (List.mem_cons_of_mem _ List.mem_cons_self)
  have hl : s.heap.FunFrames (PySem.W.hideAll s.heap (frs X.stack ++ [x, T])) (X.env :: X.outer) := by
    rw [← t.stk]
    exact funFrames_base I.stack fun b hb => hid b (List.mem_append_left _ hb)
  refine wpAny_leaving_nextW (base := PySem.W.hideAll s.heap (frs X.stack ++ [x, T])) (a0 := a0) (cls := .ref C) (by rw [← t.stk]; exact I.ok.frames) hl t.frm ⟨oe, vs, T, oT, ts, he, hc, hd, h1, hid T tT, hTx, hT, hdT, h3⟩ (fun b o q => PySem.W.of_hideAll _ q) (hid x tx) fun h' L => ?_
  obtain ⟨L1, L2, L3, L4⟩ := L
  have mo : ∀ b ∈ [x, T], H b = none ∧ X.s_0.heap.get? b = none := fun b hb => by
    rcases List.mem_cons.mp hb with rfl | hb
    · exact ⟨Hx, gx⟩
    · rw [List.mem_singleton.mp hb]; exact ⟨HT, gT⟩
  refine h h' (left_cx (h' := h') (more := [x, T]) I t (fun b hb => (mo b hb).2) (left_fin I.hok (fun _ _ q => q) I.stack I.stkFree mo ⟨Hx, gx⟩ (fun b o q => I.base.there b o q (by rw [t.nex]; exact List.not_mem_nil)) L1 L3 L4) e rfl rfl rfl)
theorem leave_first {M : Model} {Q : Unit → Shared → Prop} {E : Value → Shared → Prop} {E' : XK} {h1 : Heap} {args : List Value} (I : Inv X pins σ H s) (t : Top X) (m : Heap.MadeExcOf s.heap h1 x (.ref C) args) (e : E' (.ref C) none H)
    (h : ∀ h', CXE X.prog X.w C X.outer X.H_0 X.s_0 E' (.ref x) { s with heap := h' } → Q () { s with heap := h' }) : wpAny M X.A (leaving X.env (.ref x)) Q E { s with heap := h1 } := by
  obtain ⟨tp, he, _, _⟩ := m.there
  have hid : ∀ b, b ∈ frs X.stack ++ [] → (PySem.W.hideAll s.heap (frs X.stack ++ [])).get? b = none := fun b hb => PySem.W.hideAll_none _ hb
  have gd : ∀ b o, X.s_0.heap.get? b = some o → ∃ o', s.heap.get? b = some o' := fun b o q => I.base.there b o q (by rw [t.nex]; exact List.not_mem_nil)
  have gx : X.s_0.heap.get? x = none := by
    cases q : X.s_0.heap.get? x with
    | none => rfl
    | some o => obtain ⟨o', z⟩ := gd x o q; rw [m.new] at z; cases z
  have hfr : h1.FunFrames X.base X.stack := I.stack.of_keeps fun b o q _ => ⟨o, m.keeps b o q, rfl⟩
  have hl : h1.FunFrames (PySem.W.hideAll s.heap (frs X.stack ++ [])) (X.env :: X.outer) := by
    rw [← t.stk]
    exact funFrames_base hfr fun b hb => hid b (List.mem_append_left _ hb)
  have hen : (PySem.W.hideAll s.heap (frs X.stack ++ [])).get? x = none := by
    cases q : (PySem.W.hideAll s.heap (frs X.stack ++ [])).get? x with
    | none => rfl
    | some o => have := PySem.W.of_hideAll _ q; rw [m.new] at this; cases this
  refine wpAny_leaving_firstW (base := PySem.W.hideAll s.heap (frs X.stack ++ [])) (a0 := .ref tp) (s := { s with heap := h1 }) (by rw [← t.stk]; exact I.ok.frames) hl t.frm he (fun b o q => m.keeps b o (PySem.W.of_hideAll _ q)) hen rfl rfl rfl fun h' L => ?_
  obtain ⟨L1, L2, L3, L4⟩ := L
  exact h h' (left_cx (h' := h') (more := []) I t (fun b hb => (List.not_mem_nil hb).elim) (left_fin I.hok m.keeps hfr I.stkFree (fun b hb => (List.not_mem_nil hb).elim) ⟨untracked I.hok m.new, gx⟩ gd L1 L3 L4) e rfl rfl rfl)
end
/-! ### in a def's body -/
section
variable {P : Program} {w : World} {C : Addr} {K : PySem.W.Frag} {mg : Str → Option Value} {base : Heap} {N : List Str} {qual : Str} {scope : Scope} {f : Addr} {cd : Value} {A : Around} {outer : List Env} {s0 : Shared} {H0 : Hp} {E : XK}
abbrev cxE (P : Program) (w : World) (C : Addr) (K : PySem.W.Frag) (mg : Str → Option Value) (base : Heap) (N : List Str) (qual : Str) (scope : Scope) (f : Addr) (cd : Value) (A : Around) (outer : List Env) (s0 : Shared) (H0 : Hp) (E : XK) : Cx :=
  cxOf (CXE P w C) P w K mg base N qual scope f cd A outer s0 H0 E
theorem top_cx : Top (cxE P w C K mg base N qual scope f cd A outer s0 H0 E) := ⟨rfl, rfl, rfl⟩
/-- an exception of a callee passes on -/
theorem pass_cx : Passes (CXE P w C) (cxE P w C K mg base N qual scope f cd A outer s0 H0 E) E := by
  intro pins σ H s e s' I hc
  obtain ⟨x, H', rfl, os, bare, un, hok, fl, q⟩ := hc
  have J : Inv (cxE P w C K mg base N qual scope f cd A outer s0 H0 E) pins σ H' s' := I.call' (ch := []) os un hok bare fun b hb => (List.not_mem_nil hb).elim
  exact leave_next J top_cx (fl.back fun b o q => I.base.there b o q (fun z => List.not_mem_nil z)) q fun h' z => z
/-- nothing is wished of an exception: there is none -/
theorem pass_no {X : Cx} : Passes (CXE P w C) X E0 := fun _ _ _ _ _ _ _ h => by
  obtain ⟨_, _, _, _, _, _, _, _, q⟩ := h
  exact q.elim
theorem own_cx : PassesOwn (model P w) (cxE P w C K mg base N qual scope f cd A outer s0 H0 E).A (cxE P w C K mg base N qual scope f cd A outer s0 H0 E).env (cxE P w C K mg base N qual scope f cd A outer s0 H0 E).xe :=
  PassesOwn.leaving
/-- what a raise is to reach -/
def Raises (X : Cx) (C : Addr) (R : Hp → Prop) : Prop := ∀ (pins : List (Addr × Obj)) (σ : L2.St) (H : Hp) (s : Shared) (x : Addr) (h1 : Heap), Inv X pins σ H s → Heap.MadeExcOf s.heap h1 x (.ref C) [] → R H → X.xe (.ref x) { s with heap := h1 }
theorem raises_cx : Raises (cxE P w C K mg base N qual scope f cd A outer s0 H0 E) C (fun H => E (.ref C) none H) := fun pins σ H s x h1 I m q =>
  leave_first I top_cx m q fun h' z => z
end
/-- raise C() -/
theorem ps_raise {X : Cx} {C : Addr} {R : Hp → Prop} {n : Str} {bm : List Value} {newId initId B : String} {np cpos pos : Pos} (hc : X.calm = true) (O : OwnCls n C bm newId X.mg X.base) (FB : ExcBaseFacts B newId initId bm) (hg : Gl X n) (hx : Raises X C R)
    (hd : (n == ("__debug__" : Str)) = false := by decide) : PS X (.Raise (some (.Call (.Name n np) [] [] cpos)) none pos) (fun _ _ H => R H) := by
  intro pins s σ H D I h
  obtain ⟨tl, N, nm, q, bs, hdct, sn, sub, ab, col, dd, k0, k1, k2, k3, k5, mN, hC, hN, hni, T⟩ := O.obj
  refine wpAny_Raise_call_subT (C := C) (nm := nm) (q := q) (N := N) (bs := bs) (bm := tl) (hdct := hdct) (sn := sn) (sub := sub) (ab := ab) (col := col) (dd := dd) (k0 := k0) (k1 := k1) (k2 := k2) (k3 := k3) (k5 := k5)
    FB (mN := mN) (T.hasType FB.hasBase) (I.ok.hd hc) rfl hni (ld_glob I hg O.bound ⟨rfl, ?_⟩ hd)
  exact evalArgs_empty ⟨rfl, Nat.zero_le _, I.bk _ _ hC, hN.keeps I.bk, T.keeps I.bk, fun h' e m => hx pins σ H s e h' I m h⟩
/-! ### try: .. except C: .. -/
abbrev pinned (X : Cx) (pn : List (Addr × Obj)) : Cx := { X with pn := pn }
/-- the exception as it comes to the clause: the state ahead of the call that raised it -/
def XT (X : Cx) (C : Addr) (R : Hp → Prop) : Value → Shared → Prop := fun e s' =>
  ∃ σ H sp, Inv X [] σ H sp ∧ CXE X.prog X.w C X.stack H sp (fun _ _ H' => R H') e s'
theorem pass_try {P : Program} {w : World} {X : Cx} {C : Addr} {R : Hp → Prop} (hp : X.prog = P) (hw : X.w = w) : Passes (CXE P w C) (X.wish (XT X C R)) (fun _ _ H' => R H') := by
  subst hp hw
  exact fun pins σ H s e s' I h => ⟨σ, H, s, I.unwish.pins_of (fun p hp => (List.not_mem_nil hp).elim), h⟩
abbrev marked (X : Cx) (pn : List (Addr × Obj)) (x : Addr) : Cx := { X with pn := pn, A := X.A.mark (some (.ref x)), calm := false, xe := fun _ _ => False }
theorem Inv.pinned {X : Cx} {pins : List (Addr × Obj)} {σ : L2.St} {H : Hp} {s : Shared} (I : Inv X pins σ H s) : Inv (pinned X (X.pn ++ pins)) [] σ H s :=
  ⟨⟨I.ok.mod, I.ok.kind, I.ok.glob, I.ok.blt, I.ok.above, I.ok.inj, I.ok.has, I.ok.cab, I.ok.hd, I.ok.frames, I.ok.stk, I.ok.exf, I.ok.bs, I.ok.bsz, I.ok.noex, I.ok.exfs, I.ok.funs, I.ok.frf⟩, I.os, I.bare, I.base, I.loc, I.cell, I.free, I.freeC, by
    intro p hp
    rw [List.append_nil] at hp
    exact I.pin p hp, I.hok, I.len⟩
theorem Inv.unpin {X : Cx} {pins : List (Addr × Obj)} {σ : L2.St} {H : Hp} {s : Shared} (I : Inv (L3.pinned X (X.pn ++ pins)) [] σ H s) : Inv X pins σ H s :=
  ⟨⟨I.ok.mod, I.ok.kind, I.ok.glob, I.ok.blt, I.ok.above, I.ok.inj, I.ok.has, I.ok.cab, I.ok.hd, I.ok.frames, I.ok.stk, I.ok.exf, I.ok.bs, I.ok.bsz, I.ok.noex, I.ok.exfs, I.ok.funs, I.ok.frf⟩, I.os, I.bare, I.base, I.loc, I.cell, I.free, I.freeC, by
    intro p hp
    exact I.pin p (by rw [List.append_nil]; exact hp), I.hok, I.len⟩
theorem Inv.marked {X : Cx} {pn : List (Addr × Obj)} {x : Addr} {σ : L2.St} {H : Hp} {s : Shared} (I : Inv (L3.pinned X pn) [] σ H s) : Inv (marked X pn x) [] σ H s :=
  ⟨⟨I.ok.mod, I.ok.kind, I.ok.glob, I.ok.blt, I.ok.above, I.ok.inj, I.ok.has, I.ok.cab, (fun z => Bool.noConfusion z), I.ok.frames, I.ok.stk, I.ok.exf, I.ok.bs, I.ok.bsz, I.ok.noex, I.ok.exfs, I.ok.funs, I.ok.frf⟩, I.os, I.bare, I.base, I.loc, I.cell, I.free, I.freeC, I.pin, I.hok, I.len⟩
theorem Inv.unmarked {X : Cx} {pins : List (Addr × Obj)} {x : Addr} {σ : L2.St} {H : Hp} {s : Shared} (hd : X.calm = true → X.A.handled = none) (I : Inv (L3.marked X (X.pn ++ pins) x) [] σ H s) : Inv X pins σ H s :=
  ⟨⟨I.ok.mod, I.ok.kind, I.ok.glob, I.ok.blt, I.ok.above, I.ok.inj, I.ok.has, I.ok.cab, hd, I.ok.frames, I.ok.stk, I.ok.exf, I.ok.bs, I.ok.bsz, I.ok.noex, I.ok.exfs, I.ok.funs, I.ok.frf⟩, I.os, I.bare, I.base, I.loc, I.cell, I.free, I.freeC, by
    intro p hp
    exact I.pin p (by rw [List.append_nil]; exact hp), I.hok, I.len⟩
def tTry (tb th : TS) (R : Hp → Prop) : TS := fun D σ H => tb D σ H ∧ ∀ σ' H', R H' → th D σ' H'
theorem ps_try {X : Cx} {C : Addr} {R : Hp → Prop} {n : Str} {bm : List Value} {newId initId B : String} {np hpos pos : Pos} {body suite : List Stmt} {b0 : Stmt} {tb th : TS} (t : Top X) (O : OwnCls n C bm newId X.mg X.base) (FB : ExcBaseFacts B newId initId bm) (hg : Gl X n)
    (hb : ∀ pn, PSs ((L3.pinned X pn).wish (XT (L3.pinned X pn) C R)) body tb) (hh : ∀ pn x, PSs (L3.marked X pn x) (b0 :: suite) th)
    (hd : (n == ("__debug__" : Str)) = false := by decide) : PS X (.Try body [.ExceptHandler (some (.Name n np)) none (b0 :: suite) hpos] [] [] pos) (tTry tb th R) := by
  intro pins s σ H D I h
  obtain ⟨h1, h2⟩ := h
  have Ip := Inv.pinned I
  refine wpAny_Try_except (wpAny_mono (hb (X.pn ++ pins) [] s σ H D (Ip.wish _) h1) (fun fl s1 hs => ?_) fun e s1 hx => ?_)
  · cases fl with
    | next =>
      obtain ⟨σ', H', J, q⟩ := hs
      exact wpAny_execs_nil ⟨σ', H', Inv.unpin J.unwish, q⟩
    | brk =>
      obtain ⟨σ', H', J, q⟩ := hs
      exact ⟨σ', H', Inv.unpin J.unwish, q⟩
    | cont =>
      obtain ⟨σ', H', J, q⟩ := hs
      exact ⟨σ', H', Inv.unpin J.unwish, q⟩
    | ret u =>
      obtain ⟨v, σ', H', J, r, q⟩ := hs
      exact ⟨v, σ', H', Inv.unpin J.unwish, r, q⟩
  · obtain ⟨σ', H1, sp, J, x, H', rfl, os, bare, un, hok, fl, r⟩ := hx
    have Js : Inv (L3.pinned X (X.pn ++ pins)) [] σ' H' s1 := J.call' (ch := []) os un hok bare fun b hb => (List.not_mem_nil hb).elim
    obtain ⟨a0, oe, vs, T, oT, ts, he, hc, hd', h1', hTx, hT, hdT, h3, Hx, HT, gx, gT⟩ := fl
    have hid : ∀ b, b ∈ frs X.stack ++ [x, T] → (PySem.W.hideAll s1.heap (frs X.stack ++ [x, T])).get? b = none := fun b hb => PySem.W.hideAll_none _ hb
    have tx : x ∈ frs X.stack ++ [x, T] := List.mem_append_right _ List.mem_cons_self
    have tT : T ∈ frs X.stack ++ [x, T] := List.mem_append_right _ (List.mem_cons_of_mem _ List.mem_cons_self)
    have hl : s1.heap.FunFrames (PySem.W.hideAll s1.heap (frs X.stack ++ [x, T])) (X.env :: X.outer) := by
      rw [← t.stk]
      exact funFrames_base Js.stack fun b hb => hid b (List.mem_append_left _ hb)
    have fly0 : Heap.FlyingW (PySem.W.hideAll s1.heap (frs X.stack ++ [x, T])) (X.env :: X.outer) x (.ref C) a0 s1.heap :=
      ⟨fun b o q => PySem.W.of_hideAll _ q, hid x tx, hl, ⟨oe, vs, T, oT, ts, he, hc, hd', h1', hid T tT, hTx, hT, hdT, h3⟩⟩
    have mo : ∀ b ∈ [x, T], H' b = none ∧ sp.heap.get? b = none := fun b hb => by
      rcases List.mem_cons.mp hb with rfl | hb
      · exact ⟨Hx, gx⟩
      · rw [List.mem_singleton.mp hb]; exact ⟨HT, gT⟩
    -- whatever the clause's own steps have done to the record and its traces, the def goes on
    have back : ∀ h' : Heap, Heap.FlyingW (PySem.W.hideAll s1.heap (frs X.stack ++ [x, T])) (X.env :: X.outer) x (.ref C) a0 h' → s1.heap.UpToSlots h' → Inv (L3.marked X (X.pn ++ pins) x) [] σ' H' { s1 with heap := h' } := fun h' fy up => by
      obtain ⟨keep, slot, ok', _⟩ := left_fin (h' := h') (h1 := s1.heap) (l := X.stack) (more := [x, T]) (g := sp.heap) Js.hok (fun _ _ q => q) Js.stack Js.stkFree mo ⟨Hx, gx⟩ (fun b o q => un.there b o q (fun z => List.not_mem_nil z)) fy.1 fy.2.2.2 up
      have low : ∀ b o, sp.heap.get? b = some o → b ∉ ([x, T] : List Addr) := fun b o e y => by rw [(mo b y).2] at e; cases e
      refine Inv.marked (J.call' (ch := []) (s' := { s1 with heap := h' }) os ⟨fun b o e n hb _ => ?_, fun b o e n hb _ => ?_, un.free, fun b o e _ => ?_, un.tups, un.frzs, un.tbls⟩ ok' bare fun b hb => (List.not_mem_nil hb).elim)
      · exact keep b o (un.keep b o e n hb (fun z => List.not_mem_nil z)) hb (low b o e)
      · obtain ⟨sl, e1⟩ := un.slot b o e n hb (fun z => List.not_mem_nil z)
        obtain ⟨sl', e2⟩ := slot b _ e1 hb
        exact ⟨sl', e2⟩
      · obtain ⟨o', e1⟩ := un.there b o e (fun z => List.not_mem_nil z)
        by_cases hb : b ∈ frs X.stack
        · obtain ⟨sl', e2⟩ := slot b _ e1 hb
          exact ⟨_, e2⟩
        · exact ⟨o', keep b o' e1 hb (low b o e)⟩
    refine wpAny_looks_onW (by rw [← t.stk]; exact I.ok.frames) t.frm fly0 fun h4 held up4 => ?_
    refine wpAny_landsW held fun h5 fly5 up5 => ?_
    have J5 := back h5 fly5 (up4.trans up5)
    refine wpAny_handleBy_cons (codeAny_handlers_test (ld_glob (X := L3.marked X (X.pn ++ pins) x) J5 hg O.bound ?_ hd)) (by intro q; cases q)
    obtain ⟨tl, N, nm, q, bs, hdct, sn, sub, ab, col, dd, k0, k1, k2, k3, k5, mN, hC, hN, hni, TL⟩ := O.obj
    obtain ⟨ob, hob, hobc⟩ := fly5.there
    refine wpAny_excMatches_sub_self (J5.bk _ _ hC) hob hobc (TL.hasType FB.hasBase) (codeAny_handlers_suite ?_)
    refine lands_againW fly5 fun h6 fly6 up6 => ?_
    have J6 := back h6 fly6 ((up4.trans up5).trans up6)
    refine wpAny_mono (hh (X.pn ++ pins) x [] _ σ' H' D J6 (h2 σ' H' r)) (fun f s2 hs => ?_) fun _ _ z => z.elim
    cases f with
    | next =>
      obtain ⟨σ2, H2, J2, q⟩ := hs
      exact ⟨σ2, H2, Inv.unmarked I.ok.hd J2, q⟩
    | brk =>
      obtain ⟨σ2, H2, J2, q⟩ := hs
      exact ⟨σ2, H2, Inv.unmarked I.ok.hd J2, q⟩
    | cont =>
      obtain ⟨σ2, H2, J2, q⟩ := hs
      exact ⟨σ2, H2, Inv.unmarked I.ok.hd J2, q⟩
    | ret u =>
      obtain ⟨v, σ2, H2, J2, rr, q⟩ := hs
      exact ⟨v, σ2, H2, Inv.unmarked I.ok.hd J2, rr, q⟩
end L3
end
section
set_option Elab.async false
set_option linter.all false
set_option maxRecDepth 100000
/-! More rules over the hand layer: products of any size, any of numbers, the least and the greatest by an own key, lists walked in pairs. -/
namespace L3
open PySem PySem.Spec PyProof.Rows L2
/-- products of numbers of any size that the machine has room for -/
theorem op_mulB {X : Cx} : OpR X (binaryOp .Mult) (rI IntMulOk fun i j => .int (i * j)) := opI fun _ _ _ _ _ _ _ hc q => mul_int q hc
theorem mul_ok {a b : Int} {m n : Nat} (ha : a.natAbs < 2 ^ m) (hb : b.natAbs < 2 ^ n) (h : m + n ≤ 1000000) : IntMulOk a b :=
  mulOk_of_bits (m := m) (n := n) (intBits_le_iff.mpr ha) (intBits_le_iff.mpr hb) (by omega)
/-! ### any(xs) of a list of numbers -/
theorem truth_ints {prog : Program} {w : World} {A : Around} {ns : List Int} {its : List Value} (hi : IntsAre its ns) :
    TruthOf prog w A (fun i v => its.toArray[i]? = some v) (fun i => (ns.map (· != 0)).getD i false) := fun i v s Q E hv hq => by
  have hv' : its[i]? = some v := by simpa using hv
  have hlt : i < ns.length := by
    have := (List.getElem?_eq_some_iff.mp hv').1
    have := hi.length
    omega
  obtain ⟨t, ht⟩ := hi.get i ns[i] (List.getElem?_eq_getElem hlt)
  rw [ht] at hv'
  cases hv'
  have e : (ns.map (· != 0)).getD i false = (ns[i] != 0) := by simp [hlt]
  have hq' : Q ((ns.map (· != 0)).getD i false) s := hq
  rw [e] at hq'
  exact PySem.P.truthy_int hq'
def rAnyI (K : PySem.W.Frag) : List V → Hp → VK → Prop := fun vs H Q => ∃ (a : Addr) (ns : List Int), vs = [V.ref a] ∧ SqL K H a (ns.map V.int) ∧ Q (.bl (ns.any (· != 0))) H
theorem cr_anyI {X : Cx} (hc : X.calm = true) : CallR X (.builtin "any") (rAnyI X.K) := by
  intro pins s σ H vs us Q I r h
  obtain ⟨a, ns, rfl, hs, q⟩ := h
  obtain ⟨its, rv, hl, _⟩ := I.list hs
  rw [Vals.ref1 r]
  have hb := rv.ints
  refine call_any_walk (iter_any hl.isList fun s₂ e2 st hne => ?_)
  subst e2
  refine ⟨_, _, _, _, _, _, _, rfl, Walks.list (A := X.A.in1) (I.ok.hd hc) _ a hne its.toArray, st, truth_ints hb, fun h' tk hk => ?_⟩
  refine ⟨.bl _, H, I.kept fun b o eo => hk b o (fun hmem => ?_) (Heap.get?_push_of_some _ eo), ?_, q⟩
  · rcases List.mem_cons.mp hmem with e1 | hmem
    · exact absurd (e1 ▸ Heap.lt_size eo) (Nat.lt_irrefl _)
    · cases hmem
  · show Value.bool _ = Value.bool _
    have e := any_range (ns.map (· != 0))
    rw [List.length_map, List.any_map] at e
    rw [List.size_toArray, hb.length, e]
    rfl
/-! ### min(xs, key=f), max(xs, key=f), f an own def -/
abbrev inner (X : Cx) : Cx := { X with A := X.A.in1, xe := fun _ _ => False }
theorem Inv.inner {X : Cx} {pins : List (Addr × Obj)} {σ : L2.St} {H : Hp} {s : Shared} (I : Inv X pins σ H s) : Inv (inner X) pins σ H s :=
  ⟨⟨I.ok.mod, I.ok.kind, I.ok.glob, I.ok.blt, I.ok.above, I.ok.inj, I.ok.has, I.ok.cab, I.ok.hd, I.ok.frames, I.ok.stk, I.ok.exf, I.ok.bs, I.ok.bsz, I.ok.noex, I.ok.exfs, I.ok.funs, I.ok.frf⟩, I.os, I.bare, I.base, I.loc, I.cell, I.free, I.freeC, I.pin, I.hok, I.len⟩
theorem Inv.outer {X : Cx} {pins : List (Addr × Obj)} {σ : L2.St} {H : Hp} {s : Shared} (I : Inv (L3.inner X) pins σ H s) : Inv X pins σ H s :=
  ⟨⟨I.ok.mod, I.ok.kind, I.ok.glob, I.ok.blt, I.ok.above, I.ok.inj, I.ok.has, I.ok.cab, I.ok.hd, I.ok.frames, I.ok.stk, I.ok.exf, I.ok.bs, I.ok.bsz, I.ok.noex, I.ok.exfs, I.ok.funs, I.ok.frf⟩, I.os, I.bare, I.base, I.loc, I.cell, I.free, I.freeC, I.pin, I.hok, I.len⟩
/-- the key of one item, asked while two records of ours stand by -/
theorem key_run {X : Cx} {CX : CXT} {k : Nat} {f : Addr} {fd : FuncData} {ps : List Str} {sp : Sp} {H : Hp} {pins : List (Addr × Obj)} {σ : L2.St} {s : Shared} {x : V} {v : Value} {n : Int} {S I : Addr} {oS oI : Obj}
    (F : FnOk X.prog X.w X.K X.mg X.base CX k f fd ps sp) (hr : Room (k + 1) X.A) (hb : Binds X.K fd ps []) (hx : ∀ Y, Passes CX Y E0) (J : Inv X pins σ H s) (fS : FpOk X pins H S) (fI : FpOk X pins H I) (rv : RelV x v)
    (hS : s.heap.get? S = some oS) (hI : s.heap.get? I = some oI) (dS : ∀ v, oS.data ≠ .cell v) (dI : ∀ v, oI.data ≠ .cell v) (hsp : ∀ R : VK, R (.int n) H → sp [x] H R E0) :
    wpAny (model X.prog X.w) X.A.in1 (call (.ref f) [v]) (fun z s' => ∃ t, z = .int n t ∧ Inv X pins σ H s' ∧ s'.heap.get? S = some oS ∧ s'.heap.get? I = some oI) (fun _ _ => False) s := by
  have J1 := J.pinned (fp := [S, I]) (fun b hb => by
    rcases List.mem_cons.mp hb with rfl | hb
    · exact fS
    · rw [List.mem_singleton.mp hb]; exact fI) (fun b hb => by
    rcases List.mem_cons.mp hb with rfl | hb
    · exact ⟨oS, hS, dS⟩
    · rw [List.mem_singleton.mp hb]; exact ⟨oI, hI, dI⟩)
  refine wpAny_mono (run_fn (X := L3.inner X) (us := [v]) (vs := [x]) (dvs := []) (ds := []) (E := E0) (Q := fun y H' => y = .int n ∧ H' = H) F hr.in1 hb .nil (hx _) (Inv.inner J1) (.cons rv .nil) (hsp _ ⟨rfl, rfl⟩)) (fun u s' hq => ?_) fun _ _ z => z
  obtain ⟨y, H', J2, r2, rfl, rfl⟩ := hq
  obtain ⟨t, rfl⟩ := r2
  have J3 := Inv.outer J2
  have pS := (J3.pin (S, oS) (List.mem_append_right _ (List.mem_append_right _ (mem_pinsAt (List.mem_cons_self) hS)))).1
  have pI := (J3.pin (I, oI) (List.mem_append_right _ (List.mem_append_right _ (mem_pinsAt (List.mem_cons_of_mem _ List.mem_cons_self) hI)))).1
  exact ⟨t, rfl, J3.unpinned, pS, pI⟩
section
variable {X : Cx} {CX : CXT} {k : Nat} {f l : Addr} {fd : FuncData} {ps : List Str} {sp : Sp} {H : Hp} {pins : List (Addr × Obj)} {σ : L2.St} {xs : List V}
theorem min_loop {R : Result → Shared → Prop} (kf : Nat → Int) (hc : X.calm = true) (F : FnOk X.prog X.w X.K X.mg X.base CX k f fd ps sp) (hr : Room (k + 1) X.A) (hb : Binds X.K fd ps []) (hx : ∀ Y, Passes CX Y E0)
    (hsp : ∀ i x, xs[i]? = some x → ∀ Q : VK, Q (.int (kf i)) H → sp [x] H Q E0) (hl : H l = some (.lst xs))
    (hR : ∀ i x u s', xs[i]? = some x → (∀ j, j < xs.length → kf i ≤ kf j ∧ (j < i → kf i < kf j)) → RelV x u → Inv X pins σ H s' → R (.ok (.ret u)) s') :
    ∀ (r j i : Nat) (s : Shared) (S I : Addr) (xb : V) (vb : Value) (tb : Tok) (c : Nat), xs.length - (j + 1) = r → j + 1 ≤ xs.length → Inv X pins σ H s → FpOk X pins H S → FpOk X pins H I → S ≠ I →
      s.heap.get? S = some (seqObj "list" #[vb, .int (kf i) tb] c) → s.heap.IsListIter I l (j + 1) → xs[i]? = some xb → RelV xb vb → i ≤ j → (∀ j', j' ≤ j → kf i ≤ kf j' ∧ (j' < i → kf i < kf j')) →
      codeAny (model X.prog X.w) X.A (.builtin "min.loop" ⟨[.ref I, .ref f, .ref S], []⟩) R s := by
  have nm : (toString "min" ++ toString ".loop" : String) = "min.loop" := by decide
  intro r
  induction r with
  | zero =>
    intro j i s S I xb vb tb c hr0 hj J fS fI hSI hS hit hxb rb hij hbest
    obtain ⟨its, rv, pl, _⟩ := J.list (SqL.of hl)
    have len := rv.length
    have hlI : l ≠ I := ne_of_none hl fI.1
    refine codeAny_builtin PySem.F.entry_min_loop ?_
    rw [Around.under_plainId PySem.F.plain_min_loop _]
    show wpAny _ X.A.in1 (seqItems? (.ref S) >>= _) _ _ _
    refine wpAny_bind (wpAny_seqItems hS rfl ?_)
    show wpAny _ X.A.in1 (tryCatch (pyNext (.ref I)) _ >>= _) _ _ _
    refine wpAny_bind (wpAny_tryCatch (wpAny_pyNext_list_end (J.ok.hd hc) hit pl.isList (by simp; omega) fun h' he => ?_))
    have J1 : Inv X pins σ H { s with heap := h' } := J.turnedL (t' := s.toks) (ch := [I]) (fun b o hb q => he b o (fun z => hb (by simp [z])) q) fun b hb => by rw [List.mem_singleton.mp hb]; exact fI
    have hS1 := he S _ (fun z => hSI z) hS
    show wpAny _ X.A.in1 (updateSeq S (fun _ => #[]) >>= _) _ _ _
    refine wpAny_bind (wpAny_updateSeq hS1 rfl (wpAny_bind (wpAny_letGo (wpAny_pure ?_))))
    have sb := Heap.SameBut.update h' S (Obj.mapSeq fun _ => (#[] : Array Value))
    exact hR i xb vb _ hxb (fun j' hj' => hbest j' (by omega)) rb (J1.turnedL (t' := s.toks) (ch := [S]) (fun b o hb q => (sb.2 b (fun z => hb (by simp [z]))).trans q) fun b hb => by rw [List.mem_singleton.mp hb]; exact fS)
  | succ r ih =>
    intro j i s S I xb vb tb c hr0 hj J fS fI hSI hS hit hxb rb hij hbest
    obtain ⟨its, rv, pl, _⟩ := J.list (SqL.of hl)
    have len := rv.length
    have hlI : l ≠ I := ne_of_none hl fI.1
    have hlt : j + 1 < xs.length := by omega
    obtain ⟨u, hu, ru⟩ := rv.get (List.getElem?_eq_getElem hlt)
    refine codeAny_builtin PySem.F.entry_min_loop ?_
    rw [Around.under_plainId PySem.F.plain_min_loop _]
    show wpAny _ X.A.in1 (seqItems? (.ref S) >>= _) _ _ _
    refine wpAny_bind (wpAny_seqItems hS rfl ?_)
    show wpAny _ X.A.in1 (tryCatch (pyNext (.ref I)) _ >>= _) _ _ _
    refine wpAny_bind (wpAny_tryCatch (wpAny_pyNext_list_item hit pl.isList (x := u) (by simpa using hu) fun h' hit' hs' => ?_))
    have he := hs'.extBut
    have J1 : Inv X pins σ H { s with heap := h' } := J.turnedL (t' := s.toks) (ch := [I]) (fun b o hb q => he b o (fun z => hb (by simp [z])) q) fun b hb => by rw [List.mem_singleton.mp hb]; exact fI
    have hS1 := he S _ (fun z => hSI z) hS
    obtain ⟨oI, hoI, hoc, hod⟩ := id hit'
    show wpAny _ X.A.in1 (tryCatch (holding [u] (call (.ref f) [u])) _ >>= _) _ _ _
    refine wpAny_bind (wpAny_tryCatch (wpAny_holding (wpAny_mono (key_run (n := kf (j + 1)) F hr hb hx J1 fS fI ru hS1 hoI (fun v q => nomatch q) (fun v q => by rw [hod] at q; cases q) (hsp (j + 1) _ (List.getElem?_eq_getElem hlt))) (fun z s2 hz => ?_) fun _ _ hF => hF.elim)))
    obtain ⟨t2, rfl, J2, p1, p2⟩ := hz
    have hit2 : s2.heap.IsListIter I l (j + 1 + 1) := ⟨oI, p2, hoc, hod⟩
    show wpAny _ X.A.in1 (tryCatch (holding [u, .int (kf (j + 1)) t2] (richCompare .Lt (.int (kf (j + 1)) t2) (.int (kf i) tb) >>= _)) _ >>= _) _ _ _
    refine wpAny_bind (wpAny_tryCatch (wpAny_holding (wpAny_bind (CmpOf.ints_lt (prog := X.prog) (w := X.w) (A := X.A.in1) (P := fun i v => ∃ t, v = .int (kf i) t) kf (fun i v h => h) (j + 1) i _ _ _ _ _ ⟨t2, rfl⟩ ⟨tb, rfl⟩ ?_))))
    refine wpAny_bind (wpAny_holding (wpAny_truthy_bool ?_))
    refine wpAny_bind (wpAny_letGo (wpAny_pure ?_))
    by_cases hb' : kf (j + 1) < kf i
    · have sb := Heap.SameBut.update s2.heap S (Obj.mapSeq fun _ => #[u, .int (kf (j + 1)) t2])
      obtain ⟨c2, hc2⟩ : ∃ c2, (s2.heap.update S (Obj.mapSeq fun _ => #[u, .int (kf (j + 1)) t2])).get? S = some (seqObj "list" #[u, .int (kf (j + 1)) t2] c2) := ⟨_, get?_update_seq p1 fun _ => #[u, .int (kf (j + 1)) t2]⟩
      simp only [hb', decide_true, if_true]
      refine wpAny_bind (wpAny_updateSeq p1 rfl (wpAny_bind (wpAny_letGo ?_)))
      rw [nm]
      have J3 : Inv X pins σ H { s2 with heap := s2.heap.update S (Obj.mapSeq fun _ => #[u, .int (kf (j + 1)) t2]) } := J2.turnedL (t' := s2.toks) (ch := [S]) (fun b o hb q => (sb.2 b (fun z => hb (by simp [z]))).trans q) fun b hb => by rw [List.mem_singleton.mp hb]; exact fS
      refine wpAny_pure ⟨plainId_quiet PySem.F.plain_min_loop _, ih (j + 1) (j + 1) _ S I _ u t2 c2 (by omega) hlt J3 fS fI hSI hc2 ⟨oI, (sb.2 I (Ne.symm hSI)).trans p2, hoc, hod⟩ (List.getElem?_eq_getElem hlt) ru (Nat.le_refl _) fun j' hj' => ?_⟩
      by_cases e : j' = j + 1
      · subst e
        exact ⟨by omega, fun _ => by omega⟩
      · have hb1 := hbest j' (by omega)
        have hb2 := hb1.1
        exact ⟨by omega, fun _ => by omega⟩
    · simp only [hb', decide_false, Bool.false_eq_true, if_false]
      refine wpAny_bind (wpAny_letGo ?_)
      rw [nm]
      refine wpAny_pure ⟨plainId_quiet PySem.F.plain_min_loop _, ih (j + 1) i _ S I _ vb tb c (by omega) hlt J2 fS fI hSI p1 hit2 hxb rb (by omega) fun j' hj' => ?_⟩
      by_cases e : j' = j + 1
      · subst e
        exact ⟨by omega, fun _ => by omega⟩
      · exact hbest j' (by omega)
/-- min(xs, key=f): the first of the best -/
theorem min_key {Q : VK} {s : Shared} (kf : Nat → Int) (hc : X.calm = true) (F : FnOk X.prog X.w X.K X.mg X.base CX k f fd ps sp) (hr : Room (k + 1) X.A) (hb : Binds X.K fd ps []) (hx : ∀ Y, Passes CX Y E0)
    (hsp : ∀ i x, xs[i]? = some x → ∀ Q : VK, Q (.int (kf i)) H → sp [x] H Q E0) (hl : H l = some (.lst xs)) (hne : 0 < xs.length) (J : Inv X pins σ H s)
    (hQ : ∀ i x, xs[i]? = some x → (∀ j, j < xs.length → kf i ≤ kf j ∧ (j < i → kf i < kf j)) → Q x H) :
    wpAny (model X.prog X.w) X.A (call (.builtin "min") [.ref l] [(Str.ofString "key", .ref f)]) (EP X pins σ Q) X.xe s := by
  have nm : (toString "min" ++ toString ".loop" : String) = "min.loop" := by decide
  obtain ⟨its, rv, pl, _⟩ := J.list (SqL.of hl)
  have len := rv.length
  have ll : l < s.heap.objs.size := J.hok.lt hl
  refine kmk_tree PySem.F.kind_min PySem.F.plain_min PySem.F.entry_min (kmk_min_key _ _) ?_
  show wpAny _ X.A.in1 (Builtin.Builtins.bindParams "min" ["key", "default"] 0 ⟨[], [(Str.ofString "key", .ref f)]⟩ >>= _) _ _ s
  refine wpAny_bind (wpAny_of_eq (show Builtin.Builtins.bindParams "min" ["key", "default"] 0 ⟨[], [(Str.ofString "key", .ref f)]⟩ = pure [some (.ref f), none] from rfl) ?_)
  refine wpAny_bind (wpAny_pure (wpAny_bind (wpAny_pyIter_list pl.isList (wpAny_bind (wpAny_newList ?_ (Nat.zero_le _))))))
  rw [nm]
  have e1 : (s.heap.push { cls := .type "list_iterator", data := .fields #[.ref l, .int 0 0] }).objs.size = s.heap.objs.size + 1 := size_push' ..
  refine wpAny_pure ⟨plainId_quiet PySem.F.plain_min_loop _, ?_⟩
  generalize hh2 : (s.heap.push { cls := .type "list_iterator", data := .fields #[.ref l, .int 0 0] }).push (seqObj "list" #[] 0) = h2
  have keep2 : ∀ b o, s.heap.get? b = some o → h2.get? b = some o := fun b o e => by rw [← hh2]; exact Heap.get?_push_of_some _ (Heap.get?_push_of_some _ e)
  have gI : h2.get? s.heap.objs.size = some { cls := .type "list_iterator", data := .fields #[.ref l, .int 0 0] } := by rw [← hh2]; exact Heap.get?_push_of_some _ (Heap.get?_push_size _ rfl)
  have gS : h2.get? (s.heap.push { cls := .type "list_iterator", data := .fields #[.ref l, .int 0 0] }).objs.size = some (seqObj "list" #[] 0) := by rw [← hh2]; exact Heap.get?_push_size _ rfl
  rw [e1] at gS ⊢
  have J2 : Inv X pins σ H { s with heap := h2 } := J.kept (t' := s.toks) keep2
  have fI : FpOk X pins H s.heap.objs.size := J.fpOk (Nat.le_refl _) (J.hok.fresh (Nat.le_refl _))
  have fS : FpOk X pins H (s.heap.objs.size + 1) := J.fpOk (Nat.le_succ _) (J.hok.fresh (Nat.le_succ _))
  have hSI : s.heap.objs.size + 1 ≠ s.heap.objs.size := Nat.succ_ne_self _
  have hit : h2.IsListIter s.heap.objs.size l 0 := ⟨_, gI, rfl, rfl⟩
  obtain ⟨its2, rv2, pl2, _⟩ := J2.list (SqL.of hl)
  obtain ⟨u, hu, ru⟩ := rv2.get (List.getElem?_eq_getElem hne)
  refine codeAny_builtin PySem.F.entry_min_loop ?_
  rw [Around.under_plainId PySem.F.plain_min_loop _]
  show wpAny _ X.A.in1 (seqItems? (.ref _) >>= _) _ _ _
  refine wpAny_bind (wpAny_seqItems gS rfl ?_)
  show wpAny _ X.A.in1 (tryCatch (pyNext (.ref s.heap.objs.size)) _ >>= _) _ _ _
  refine wpAny_bind (wpAny_tryCatch (wpAny_pyNext_list_item hit pl2.isList (x := u) (by simpa using hu) fun h' hit' hs' => ?_))
  have he := hs'.extBut
  have J3 : Inv X pins σ H { s with heap := h' } := L2.Inv.turnedL (s := { s with heap := h2 }) (t' := s.toks) (ch := [s.heap.objs.size]) J2 (fun b o hb q => he b o (fun z => hb (by simp [z])) q) fun b hb => by rw [List.mem_singleton.mp hb]; exact fI
  have hS1 := he (s.heap.objs.size + 1) _ (fun z => hSI z) gS
  obtain ⟨oI, hoI, hoc, hod⟩ := id hit'
  show wpAny _ X.A.in1 (tryCatch (holding [u] (call (.ref f) [u])) _ >>= _) _ _ _
  refine wpAny_bind (wpAny_tryCatch (wpAny_holding (wpAny_mono (key_run (n := kf 0) F hr hb hx J3 fS fI ru hS1 hoI (fun v q => nomatch q) (fun v q => by rw [hod] at q; cases q) (hsp 0 _ (List.getElem?_eq_getElem hne))) (fun z s2 hz => ?_) fun _ _ hF => hF.elim)))
  obtain ⟨t2, rfl, J4, p1, p2⟩ := hz
  have sb := Heap.SameBut.update s2.heap (s.heap.objs.size + 1) (Obj.mapSeq fun _ => #[u, .int (kf 0) t2])
  obtain ⟨c2, hc2⟩ : ∃ c2, (s2.heap.update (s.heap.objs.size + 1) (Obj.mapSeq fun _ => #[u, .int (kf 0) t2])).get? (s.heap.objs.size + 1) = some (seqObj "list" #[u, .int (kf 0) t2] c2) := ⟨_, get?_update_seq p1 fun _ => #[u, .int (kf 0) t2]⟩
  show wpAny _ X.A.in1 (updateSeq (s.heap.objs.size + 1) (fun _ => #[u, .int (kf 0) t2]) >>= _) _ _ _
  refine wpAny_bind (wpAny_updateSeq p1 rfl ?_)
  rw [nm]
  have J5 : Inv X pins σ H { s2 with heap := s2.heap.update (s.heap.objs.size + 1) (Obj.mapSeq fun _ => #[u, .int (kf 0) t2]) } := J4.turnedL (t' := s2.toks) (ch := [s.heap.objs.size + 1]) (fun b o hb q => (sb.2 b (fun z => hb (by simp [z]))).trans q) fun b hb => by rw [List.mem_singleton.mp hb]; exact fS
  refine wpAny_pure ⟨plainId_quiet PySem.F.plain_min_loop _, min_loop kf hc F hr hb hx hsp hl (fun i x v s' hx hb rr JJ => ⟨x, H, JJ, rr, hQ i x hx hb⟩) _ 0 0 _ (s.heap.objs.size + 1) s.heap.objs.size _ u t2 c2 rfl hne J5 fS fI hSI hc2 ⟨oI, (sb.2 _ (Ne.symm hSI)).trans p2, hoc, hod⟩ (List.getElem?_eq_getElem hne) ru (Nat.le_refl _) fun j' hj' => ?_⟩
  have e : j' = 0 := by omega
  subst e
  exact ⟨by omega, fun h => absurd h (Nat.lt_irrefl _)⟩
end
section
variable {X : Cx} {CX : CXT} {k : Nat} {f l : Addr} {fd : FuncData} {ps : List Str} {sp : Sp} {H : Hp} {pins : List (Addr × Obj)} {σ : L2.St} {xs : List V}
theorem max_loop {R : Result → Shared → Prop} (kf : Nat → Int) (hc : X.calm = true) (F : FnOk X.prog X.w X.K X.mg X.base CX k f fd ps sp) (hr : Room (k + 1) X.A) (hb : Binds X.K fd ps []) (hx : ∀ Y, Passes CX Y E0)
    (hsp : ∀ i x, xs[i]? = some x → ∀ Q : VK, Q (.int (kf i)) H → sp [x] H Q E0) (hl : H l = some (.lst xs))
    (hR : ∀ i x u s', xs[i]? = some x → (∀ j, j < xs.length → kf j ≤ kf i ∧ (j < i → kf j < kf i)) → RelV x u → Inv X pins σ H s' → R (.ok (.ret u)) s') :
    ∀ (r j i : Nat) (s : Shared) (S I : Addr) (xb : V) (vb : Value) (tb : Tok) (c : Nat), xs.length - (j + 1) = r → j + 1 ≤ xs.length → Inv X pins σ H s → FpOk X pins H S → FpOk X pins H I → S ≠ I →
      s.heap.get? S = some (seqObj "list" #[vb, .int (kf i) tb] c) → s.heap.IsListIter I l (j + 1) → xs[i]? = some xb → RelV xb vb → i ≤ j → (∀ j', j' ≤ j → kf j' ≤ kf i ∧ (j' < i → kf j' < kf i)) →
      codeAny (model X.prog X.w) X.A (.builtin "max.loop" ⟨[.ref I, .ref f, .ref S], []⟩) R s := by
  have nm : (toString "max" ++ toString ".loop" : String) = "max.loop" := by decide
  intro r
  induction r with
  | zero =>
    intro j i s S I xb vb tb c hr0 hj J fS fI hSI hS hit hxb rb hij hbest
    obtain ⟨its, rv, pl, _⟩ := J.list (SqL.of hl)
    have len := rv.length
    have hlI : l ≠ I := ne_of_none hl fI.1
    refine codeAny_builtin PySem.F.entry_max_loop ?_
    rw [Around.under_plainId PySem.F.plain_max_loop _]
    show wpAny _ X.A.in1 (seqItems? (.ref S) >>= _) _ _ _
    refine wpAny_bind (wpAny_seqItems hS rfl ?_)
    show wpAny _ X.A.in1 (tryCatch (pyNext (.ref I)) _ >>= _) _ _ _
    refine wpAny_bind (wpAny_tryCatch (wpAny_pyNext_list_end (J.ok.hd hc) hit pl.isList (by simp; omega) fun h' he => ?_))
    have J1 : Inv X pins σ H { s with heap := h' } := J.turnedL (t' := s.toks) (ch := [I]) (fun b o hb q => he b o (fun z => hb (by simp [z])) q) fun b hb => by rw [List.mem_singleton.mp hb]; exact fI
    have hS1 := he S _ (fun z => hSI z) hS
    show wpAny _ X.A.in1 (updateSeq S (fun _ => #[]) >>= _) _ _ _
    refine wpAny_bind (wpAny_updateSeq hS1 rfl (wpAny_bind (wpAny_letGo (wpAny_pure ?_))))
    have sb := Heap.SameBut.update h' S (Obj.mapSeq fun _ => (#[] : Array Value))
    exact hR i xb vb _ hxb (fun j' hj' => hbest j' (by omega)) rb (J1.turnedL (t' := s.toks) (ch := [S]) (fun b o hb q => (sb.2 b (fun z => hb (by simp [z]))).trans q) fun b hb => by rw [List.mem_singleton.mp hb]; exact fS)
  | succ r ih =>
    intro j i s S I xb vb tb c hr0 hj J fS fI hSI hS hit hxb rb hij hbest
    obtain ⟨its, rv, pl, _⟩ := J.list (SqL.of hl)
    have len := rv.length
    have hlI : l ≠ I := ne_of_none hl fI.1
    have hlt : j + 1 < xs.length := by omega
    obtain ⟨u, hu, ru⟩ := rv.get (List.getElem?_eq_getElem hlt)
    refine codeAny_builtin PySem.F.entry_max_loop ?_
    rw [Around.under_plainId PySem.F.plain_max_loop _]
    show wpAny _ X.A.in1 (seqItems? (.ref S) >>= _) _ _ _
    refine wpAny_bind (wpAny_seqItems hS rfl ?_)
    show wpAny _ X.A.in1 (tryCatch (pyNext (.ref I)) _ >>= _) _ _ _
    refine wpAny_bind (wpAny_tryCatch (wpAny_pyNext_list_item hit pl.isList (x := u) (by simpa using hu) fun h' hit' hs' => ?_))
    have he := hs'.extBut
    have J1 : Inv X pins σ H { s with heap := h' } := J.turnedL (t' := s.toks) (ch := [I]) (fun b o hb q => he b o (fun z => hb (by simp [z])) q) fun b hb => by rw [List.mem_singleton.mp hb]; exact fI
    have hS1 := he S _ (fun z => hSI z) hS
    obtain ⟨oI, hoI, hoc, hod⟩ := id hit'
    show wpAny _ X.A.in1 (tryCatch (holding [u] (call (.ref f) [u])) _ >>= _) _ _ _
    refine wpAny_bind (wpAny_tryCatch (wpAny_holding (wpAny_mono (key_run (n := kf (j + 1)) F hr hb hx J1 fS fI ru hS1 hoI (fun v q => nomatch q) (fun v q => by rw [hod] at q; cases q) (hsp (j + 1) _ (List.getElem?_eq_getElem hlt))) (fun z s2 hz => ?_) fun _ _ hF => hF.elim)))
    obtain ⟨t2, rfl, J2, p1, p2⟩ := hz
    have hit2 : s2.heap.IsListIter I l (j + 1 + 1) := ⟨oI, p2, hoc, hod⟩
    show wpAny _ X.A.in1 (tryCatch (holding [u, .int (kf (j + 1)) t2] (richCompare .Gt (.int (kf (j + 1)) t2) (.int (kf i) tb) >>= _)) _ >>= _) _ _ _
    refine wpAny_bind (wpAny_tryCatch (wpAny_holding (wpAny_bind (CmpOf.ints_gt (prog := X.prog) (w := X.w) (A := X.A.in1) (P := fun i v => ∃ t, v = .int (kf i) t) kf (fun i v h => h) (j + 1) i _ _ _ _ _ ⟨t2, rfl⟩ ⟨tb, rfl⟩ ?_))))
    refine wpAny_bind (wpAny_holding (wpAny_truthy_bool ?_))
    refine wpAny_bind (wpAny_letGo (wpAny_pure ?_))
    by_cases hb' : kf i < kf (j + 1)
    · have sb := Heap.SameBut.update s2.heap S (Obj.mapSeq fun _ => #[u, .int (kf (j + 1)) t2])
      obtain ⟨c2, hc2⟩ : ∃ c2, (s2.heap.update S (Obj.mapSeq fun _ => #[u, .int (kf (j + 1)) t2])).get? S = some (seqObj "list" #[u, .int (kf (j + 1)) t2] c2) := ⟨_, get?_update_seq p1 fun _ => #[u, .int (kf (j + 1)) t2]⟩
      simp only [hb', decide_true, if_true]
      refine wpAny_bind (wpAny_updateSeq p1 rfl (wpAny_bind (wpAny_letGo ?_)))
      rw [nm]
      have J3 : Inv X pins σ H { s2 with heap := s2.heap.update S (Obj.mapSeq fun _ => #[u, .int (kf (j + 1)) t2]) } := J2.turnedL (t' := s2.toks) (ch := [S]) (fun b o hb q => (sb.2 b (fun z => hb (by simp [z]))).trans q) fun b hb => by rw [List.mem_singleton.mp hb]; exact fS
      refine wpAny_pure ⟨plainId_quiet PySem.F.plain_max_loop _, ih (j + 1) (j + 1) _ S I _ u t2 c2 (by omega) hlt J3 fS fI hSI hc2 ⟨oI, (sb.2 I (Ne.symm hSI)).trans p2, hoc, hod⟩ (List.getElem?_eq_getElem hlt) ru (Nat.le_refl _) fun j' hj' => ?_⟩
      by_cases e : j' = j + 1
      · subst e
        exact ⟨by omega, fun _ => by omega⟩
      · have hb1 := hbest j' (by omega)
        have hb2 := hb1.1
        exact ⟨by omega, fun _ => by omega⟩
    · simp only [hb', decide_false, Bool.false_eq_true, if_false]
      refine wpAny_bind (wpAny_letGo ?_)
      rw [nm]
      refine wpAny_pure ⟨plainId_quiet PySem.F.plain_max_loop _, ih (j + 1) i _ S I _ vb tb c (by omega) hlt J2 fS fI hSI p1 hit2 hxb rb (by omega) fun j' hj' => ?_⟩
      by_cases e : j' = j + 1
      · subst e
        exact ⟨by omega, fun _ => by omega⟩
      · exact hbest j' (by omega)
/-- max(xs, key=f): the first of the best -/
theorem max_key {Q : VK} {s : Shared} (kf : Nat → Int) (hc : X.calm = true) (F : FnOk X.prog X.w X.K X.mg X.base CX k f fd ps sp) (hr : Room (k + 1) X.A) (hb : Binds X.K fd ps []) (hx : ∀ Y, Passes CX Y E0)
    (hsp : ∀ i x, xs[i]? = some x → ∀ Q : VK, Q (.int (kf i)) H → sp [x] H Q E0) (hl : H l = some (.lst xs)) (hne : 0 < xs.length) (J : Inv X pins σ H s)
    (hQ : ∀ i x, xs[i]? = some x → (∀ j, j < xs.length → kf j ≤ kf i ∧ (j < i → kf j < kf i)) → Q x H) :
    wpAny (model X.prog X.w) X.A (call (.builtin "max") [.ref l] [(Str.ofString "key", .ref f)]) (EP X pins σ Q) X.xe s := by
  have nm : (toString "max" ++ toString ".loop" : String) = "max.loop" := by decide
  obtain ⟨its, rv, pl, _⟩ := J.list (SqL.of hl)
  have len := rv.length
  have ll : l < s.heap.objs.size := J.hok.lt hl
  refine kmk_tree PySem.F.kind_max PySem.F.plain_max PySem.F.entry_max (kmk_max_key _ _) ?_
  show wpAny _ X.A.in1 (Builtin.Builtins.bindParams "max" ["key", "default"] 0 ⟨[], [(Str.ofString "key", .ref f)]⟩ >>= _) _ _ s
  refine wpAny_bind (wpAny_of_eq (show Builtin.Builtins.bindParams "max" ["key", "default"] 0 ⟨[], [(Str.ofString "key", .ref f)]⟩ = pure [some (.ref f), none] from rfl) ?_)
  refine wpAny_bind (wpAny_pure (wpAny_bind (wpAny_pyIter_list pl.isList (wpAny_bind (wpAny_newList ?_ (Nat.zero_le _))))))
  rw [nm]
  have e1 : (s.heap.push { cls := .type "list_iterator", data := .fields #[.ref l, .int 0 0] }).objs.size = s.heap.objs.size + 1 := size_push' ..
  refine wpAny_pure ⟨plainId_quiet PySem.F.plain_max_loop _, ?_⟩
  generalize hh2 : (s.heap.push { cls := .type "list_iterator", data := .fields #[.ref l, .int 0 0] }).push (seqObj "list" #[] 0) = h2
  have keep2 : ∀ b o, s.heap.get? b = some o → h2.get? b = some o := fun b o e => by rw [← hh2]; exact Heap.get?_push_of_some _ (Heap.get?_push_of_some _ e)
  have gI : h2.get? s.heap.objs.size = some { cls := .type "list_iterator", data := .fields #[.ref l, .int 0 0] } := by rw [← hh2]; exact Heap.get?_push_of_some _ (Heap.get?_push_size _ rfl)
  have gS : h2.get? (s.heap.push { cls := .type "list_iterator", data := .fields #[.ref l, .int 0 0] }).objs.size = some (seqObj "list" #[] 0) := by rw [← hh2]; exact Heap.get?_push_size _ rfl
  rw [e1] at gS ⊢
  have J2 : Inv X pins σ H { s with heap := h2 } := J.kept (t' := s.toks) keep2
  have fI : FpOk X pins H s.heap.objs.size := J.fpOk (Nat.le_refl _) (J.hok.fresh (Nat.le_refl _))
  have fS : FpOk X pins H (s.heap.objs.size + 1) := J.fpOk (Nat.le_succ _) (J.hok.fresh (Nat.le_succ _))
  have hSI : s.heap.objs.size + 1 ≠ s.heap.objs.size := Nat.succ_ne_self _
  have hit : h2.IsListIter s.heap.objs.size l 0 := ⟨_, gI, rfl, rfl⟩
  obtain ⟨its2, rv2, pl2, _⟩ := J2.list (SqL.of hl)
  obtain ⟨u, hu, ru⟩ := rv2.get (List.getElem?_eq_getElem hne)
  refine codeAny_builtin PySem.F.entry_max_loop ?_
  rw [Around.under_plainId PySem.F.plain_max_loop _]
  show wpAny _ X.A.in1 (seqItems? (.ref _) >>= _) _ _ _
  refine wpAny_bind (wpAny_seqItems gS rfl ?_)
  show wpAny _ X.A.in1 (tryCatch (pyNext (.ref s.heap.objs.size)) _ >>= _) _ _ _
  refine wpAny_bind (wpAny_tryCatch (wpAny_pyNext_list_item hit pl2.isList (x := u) (by simpa using hu) fun h' hit' hs' => ?_))
  have he := hs'.extBut
  have J3 : Inv X pins σ H { s with heap := h' } := L2.Inv.turnedL (s := { s with heap := h2 }) (t' := s.toks) (ch := [s.heap.objs.size]) J2 (fun b o hb q => he b o (fun z => hb (by simp [z])) q) fun b hb => by rw [List.mem_singleton.mp hb]; exact fI
  have hS1 := he (s.heap.objs.size + 1) _ (fun z => hSI z) gS
  obtain ⟨oI, hoI, hoc, hod⟩ := id hit'
  show wpAny _ X.A.in1 (tryCatch (holding [u] (call (.ref f) [u])) _ >>= _) _ _ _
  refine wpAny_bind (wpAny_tryCatch (wpAny_holding (wpAny_mono (key_run (n := kf 0) F hr hb hx J3 fS fI ru hS1 hoI (fun v q => nomatch q) (fun v q => by rw [hod] at q; cases q) (hsp 0 _ (List.getElem?_eq_getElem hne))) (fun z s2 hz => ?_) fun _ _ hF => hF.elim)))
  obtain ⟨t2, rfl, J4, p1, p2⟩ := hz
  have sb := Heap.SameBut.update s2.heap (s.heap.objs.size + 1) (Obj.mapSeq fun _ => #[u, .int (kf 0) t2])
  obtain ⟨c2, hc2⟩ : ∃ c2, (s2.heap.update (s.heap.objs.size + 1) (Obj.mapSeq fun _ => #[u, .int (kf 0) t2])).get? (s.heap.objs.size + 1) = some (seqObj "list" #[u, .int (kf 0) t2] c2) := ⟨_, get?_update_seq p1 fun _ => #[u, .int (kf 0) t2]⟩
  show wpAny _ X.A.in1 (updateSeq (s.heap.objs.size + 1) (fun _ => #[u, .int (kf 0) t2]) >>= _) _ _ _
  refine wpAny_bind (wpAny_updateSeq p1 rfl ?_)
  rw [nm]
  have J5 : Inv X pins σ H { s2 with heap := s2.heap.update (s.heap.objs.size + 1) (Obj.mapSeq fun _ => #[u, .int (kf 0) t2]) } := J4.turnedL (t' := s2.toks) (ch := [s.heap.objs.size + 1]) (fun b o hb q => (sb.2 b (fun z => hb (by simp [z]))).trans q) fun b hb => by rw [List.mem_singleton.mp hb]; exact fS
  refine wpAny_pure ⟨plainId_quiet PySem.F.plain_max_loop _, max_loop kf hc F hr hb hx hsp hl (fun i x v s' hx hb rr JJ => ⟨x, H, JJ, rr, hQ i x hx hb⟩) _ 0 0 _ (s.heap.objs.size + 1) s.heap.objs.size _ u t2 c2 rfl hne J5 fS fI hSI hc2 ⟨oI, (sb.2 _ (Ne.symm hSI)).trans p2, hoc, hod⟩ (List.getElem?_eq_getElem hne) ru (Nat.le_refl _) fun j' hj' => ?_⟩
  have e : j' = 0 := by omega
  subst e
  exact ⟨by omega, fun h => absurd h (Nat.lt_irrefl _)⟩
end
section
variable {X : Cx} {CX : CXT} {k : Nat} {f : Addr} {fd : FuncData} {ps : List Str} {sp : Sp} {e : Expr} {t : TA} {p kp pos kpos : Pos} {y : Str}
/-- the first whose key is least: the keys kf are the reading's choice -/
def tmin (sp : Sp) (t : TA) : TE := fun σ H Q => t σ H fun vs H1 => ∃ l xs, ∃ kf : Nat → Int, vs = [.ref l] ∧ H1 l = some (.lst xs) ∧ 0 < xs.length ∧ (∀ i x, xs[i]? = some x → ∀ R : VK, R (.int (kf i)) H1 → sp [x] H1 R E0) ∧
  ∀ i x, xs[i]? = some x → (∀ j, j < xs.length → kf i ≤ kf j ∧ (j < i → kf i < kf j)) → Q x H1
theorem pe_min (hc : X.calm = true) (F : FnOk X.prog X.w X.K X.mg X.base CX k f fd ps sp) (hr : Room (k + 1) X.A) (hb : Binds X.K fd ps []) (hx : ∀ Y, Passes CX Y E0) (hg : Gl X "min") (hm : X.mg "min" = none) (hgk : Gl X y) (hmk : X.mg y = some (.ref f)) (ha : PA X [e] t)
    (hd : (y == ("__debug__" : Str)) = false := by decide) (hs : starEach [e] X.env = [(false, eval e X.env)] := by rfl) : PE X (.Call (.Name "min" p) [e] [⟨some "key", .Name y kp, kpos⟩] pos) (tmin sp t) := by
  intro pins s σ H Q I h
  refine wpAny_Call_Name_kw (ld_blt I hg hm boot_min ?_)
  refine callWith_kw (thn (ha pos pins s σ H _ I h) fun us s1 hq => ?_) (by rw [hs]; rfl) (by rw [hs]; rfl)
  obtain ⟨vs, H1, I1, r1, l, xs, kf, rfl, hl, hne, hsp, hQ⟩ := hq
  rw [Vals.ref1 r1]
  refine kws_cons (ld_glob I1 hgk hmk (kws_nil ?_) hd)
  exact min_key kf hc F hr hb hx hsp hl hne I1 hQ
end
section
variable {X : Cx} {CX : CXT} {k : Nat} {f : Addr} {fd : FuncData} {ps : List Str} {sp : Sp} {e : Expr} {t : TA} {p kp pos kpos : Pos} {y : Str}
/-- the first whose key is greatest: the keys kf are the reading's choice -/
def tmax (sp : Sp) (t : TA) : TE := fun σ H Q => t σ H fun vs H1 => ∃ l xs, ∃ kf : Nat → Int, vs = [.ref l] ∧ H1 l = some (.lst xs) ∧ 0 < xs.length ∧ (∀ i x, xs[i]? = some x → ∀ R : VK, R (.int (kf i)) H1 → sp [x] H1 R E0) ∧
  ∀ i x, xs[i]? = some x → (∀ j, j < xs.length → kf j ≤ kf i ∧ (j < i → kf j < kf i)) → Q x H1
theorem pe_max (hc : X.calm = true) (F : FnOk X.prog X.w X.K X.mg X.base CX k f fd ps sp) (hr : Room (k + 1) X.A) (hb : Binds X.K fd ps []) (hx : ∀ Y, Passes CX Y E0) (hg : Gl X "max") (hm : X.mg "max" = none) (hgk : Gl X y) (hmk : X.mg y = some (.ref f)) (ha : PA X [e] t)
    (hd : (y == ("__debug__" : Str)) = false := by decide) (hs : starEach [e] X.env = [(false, eval e X.env)] := by rfl) : PE X (.Call (.Name "max" p) [e] [⟨some "key", .Name y kp, kpos⟩] pos) (tmax sp t) := by
  intro pins s σ H Q I h
  refine wpAny_Call_Name_kw (ld_blt I hg hm boot_max ?_)
  refine callWith_kw (thn (ha pos pins s σ H _ I h) fun us s1 hq => ?_) (by rw [hs]; rfl) (by rw [hs]; rfl)
  obtain ⟨vs, H1, I1, r1, l, xs, kf, rfl, hl, hne, hsp, hQ⟩ := hq
  rw [Vals.ref1 r1]
  refine kws_cons (ld_glob I1 hgk hmk (kws_nil ?_) hd)
  exact max_key kf hc F hr hb hx hsp hl hne I1 hQ
end
/-! ### two lists walked together -/
theorem for_zip {K : PySem.W.Frag} {a b : Addr} {xs ys : List V} {g : TG} {tb : TS} {D : Ends} {σ : L2.St} {H : Hp} (n : Nat) (hn : n = min xs.length ys.length) (Pv : Nat → L2.St → Hp → Prop) (h0 : Pv 0 σ H) (hl : ∀ i σ H, Pv i σ H → SqL K H a xs ∧ SqL K H b ys)
    (hs : ∀ i x y T σ H, xs[i]? = some x → ys[i]? = some y → Pv i σ H → H T = none → g (.ref T) σ (upd H T (.tup [x, y])) fun σ2 H2 => tb { D with nx := Pv (i + 1), ct := Pv (i + 1), bk := D.nx } σ2 H2) (hd : ∀ σ H, Pv n σ H → D.nx σ H) :
    ∃ W : Nat → Nat → L2.St → Hp → Prop, (∃ m, W 0 m σ H) ∧ ∀ i m σ H, W i m σ H →
      ((Itz K a b).stop i H ∧ D.nx σ H) ∨ ((Itz K a b).go i H ∧ ∃ N : L2.St → Hp → Prop, (∀ σ' H', N σ' H' → ∃ m', m' < m ∧ W (i + 1) m' σ' H') ∧ ∀ x H', (Itz K a b).yld i H x H' → g x σ H' fun σ2 H2 => tb { D with nx := N, ct := N, bk := D.nx } σ2 H2) := by
  refine ⟨fun i m σ H => m = n - i ∧ i ≤ n ∧ Pv i σ H, ⟨n, by simp, Nat.zero_le _, h0⟩, ?_⟩
  rintro i m σ H ⟨rfl, hi, p⟩
  obtain ⟨q1, q2⟩ := hl i σ H p
  by_cases hlt : i < n
  · have l1 : i < xs.length := by omega
    have l2 : i < ys.length := by omega
    refine .inr ⟨⟨xs, ys, xs[i], ys[i], q1, q2, by simp [l1], by simp [l2]⟩, Pv (i + 1), fun σ' H' p' => ⟨n - (i + 1), by omega, rfl, hlt, p'⟩, fun x H' y => ?_⟩
    obtain ⟨T, u, v, rfl, hT, rfl, hu, hv⟩ := y
    exact hs i u v T σ H (hu xs q1) (hv ys q2) p hT
  · have e : i = n := by omega
    subst e
    exact .inl ⟨⟨xs, ys, q1, q2, by omega⟩, hd σ H p⟩
end L3
end
section
set_option Elab.async false
set_option linter.all false
set_option maxRecDepth 100000
/-! Rules for numbers of any size: shifts, division by large numbers, how many bits. -/
namespace L3
open PySem PySem.Spec PyProof.Rows L2
/-- i << j, i of up to some million bits -/
def CShl (i j : Int) : Prop := 0 ≤ j ∧ j ≤ 1000000 ∧ ∃ m : Nat, m ≤ 1000000 ∧ i.natAbs < 2 ^ m
theorem CShl.fits {i j : Int} (h : CShl i j) : (Builtin.Int.intBits i : Int) + j ≤ 2 ^ 27 := by
  obtain ⟨_, h1, m, hm, hi⟩ := h
  have a := intBits_le_iff.mpr hi
  have b : (Builtin.Int.intBits i : Int) ≤ (m : Int) := Int.ofNat_le.mpr a
  omega
theorem op_shlB {X : Cx} : OpR X (binaryOp .LShift) (rI CShl fun i j => .int (i * 2 ^ j.toNat)) := opI fun _ _ _ _ _ _ _ hc q => lshift_int hc.1 hc.fits q
/-- i // j, i % j, j above 0 and of less than 9000 bits -/
def CDivB (_ j : Int) : Prop := 0 < j ∧ j.natAbs.log2 < 9000
theorem op_fdivB {X : Cx} : OpR X (binaryOp .FloorDiv) (rI CDivB fun i j => .int (i / j)) := opI fun i j _ _ _ _ _ hc q => by
  refine floordiv_int (Int.ne_of_gt hc.1) ?_ (.inl (PyProof.noPylong_of_log2 hc.2))
  rw [Int.fdiv_eq_ediv_of_nonneg _ (Int.le_of_lt hc.1)]
  exact q
/-- n.bit_length() -/
theorem mt_bits {X : Cx} : MtR X "int.bit_length" (fun x xs H Q => ∃ i, x = .int i ∧ xs = [] ∧ Q (.int (Builtin.Int.intBits i : Nat)) H) := by
  intro pins s σ H x xs v us Q I rx rs h
  obtain ⟨i, rfl, rfl, h⟩ := h
  obtain ⟨t, rfl⟩ := rx
  cases rs
  exact call_int_bit_length ⟨.int _, H, I.tok _, ⟨_, rfl⟩, h⟩
theorem pe_bits {X : Cx} {o : Expr} {to : TE} {apos cpos : Pos} (ho : PE X o to) (hbase : attributeBase o "bit_length" X.env (eval o X.env) = eval o X.env := by rfl) (hline : (apos.endLine == cpos.line) = true := by rfl) :
    PE X (.Call (.Attribute o "bit_length" apos) [] [] cpos) (tBM0 X.K "int" (fun x xs H Q => ∃ i, x = .int i ∧ xs = [] ∧ Q (.int (Builtin.Int.intBits i : Nat)) H) to) :=
  pe_bm0 PySem.F.plainAttrs_int PySem.F.slot_int_bit_length PySem.F.type_int_bit_length mt_bits ho hbase hline
/-- how many bits: one more than the logarithm -/
theorem bits_log {n : Nat} (h : n ≠ 0) : Builtin.Int.intBits (n : Int) = Nat.log2 n + 1 := by
  have h1 := Nat.log2_self_le h
  have h2 := @Nat.lt_log2_self n
  have a : Builtin.Int.intBits (n : Int) ≤ Nat.log2 n + 1 := intBits_le_iff.mpr (by show n < _; exact h2)
  have b : ¬ Builtin.Int.intBits (n : Int) ≤ Nat.log2 n := fun z => by
    have : n < 2 ^ Nat.log2 n := intBits_le_iff.mp z
    omega
  omega
end L3
end
section
set_option Elab.async false
set_option linter.all false
set_option maxRecDepth 100000
/-! Rules for a list lengthened by a tuple, for a comprehension over enumerate, for list(zip(a, b)). -/
namespace L3
open PySem PySem.Spec PyProof.Rows L2
theorem same_new {H H' : Hp} {q : Addr} {o : HO} (e : Same H H') (h : H q = none) : Same H (upd H' q o) := fun b u z => by
  rw [upd_ne (ne_of_none z h)]
  exact e b u z
/-! ### xs.extend(t), t a tuple -/
def rExtendT (K : PySem.W.Frag) : V → List V → Hp → VK → Prop := fun x vs H Q => ∃ (l b : Addr) (xs zs : List V), x = .ref l ∧ vs = [.ref b] ∧ H l = some (.lst xs) ∧ SqT K H b zs ∧ xs.length + zs.length ≤ sizeLine ∧ Q .non (upd H l (.lst (xs ++ zs)))
theorem mt_extendT {X : Cx} : MtM X "list.extend" (rExtendT X.K) := by
  intro pins s σ H x vs v us Q I rx rv h
  obtain ⟨l, b, xs, zs, rfl, rfl, hH, hB, hz, q⟩ := h
  cases rx
  obtain ⟨u, rfl, ru⟩ := rv.one
  cases ru
  obtain ⟨_, its, n, r, hl, e⟩ := I.lstM hH
  obtain ⟨its2, r2, ⟨o, ho, hcl, n2, hdt⟩, _⟩ := I.tuple hB
  have l2 := r2.length
  have fit : its.toArray.size + its2.toArray.size ≤ sizeLine := by rw [List.size_toArray, List.size_toArray]; omega
  refine wpAny_call_entry PySem.F.slot_list_extend ⟨_, e, rfl⟩ PySem.F.entry_list_extend ?_ (PySem.F.args_list_extend_2 _ _)
  show wpAny _ _ (Builtin.List.listExtendWith (.ref l) (.ref b) .none) _ _ s
  unfold Builtin.List.listExtendWith
  refine wpAny_bind (wpAny_typeOf ⟨o, ho, hcl⟩ ?_)
  have c1 : (Builtin.List.listSameRef (.ref l) (.ref b) || Value.type "tuple" == Value.type "list" || Value.type "tuple" == Value.type "tuple") = true := by simp
  simp only [c1, if_true]
  refine wpAny_bind ?_
  unfold Builtin.List.listItems
  refine wpAny_bind (wpAny_seqItems ho hdt (wpAny_pure ?_))
  refine wpAny_bind ?_
  refine wpAny_bind (wpAny_seqItems e rfl (wpAny_pure ?_))
  have c2 : (!its.toArray.isEmpty && Builtin.List.listTooLong (its.toArray.size + its2.toArray.size)) = false := by rw [notLongL fit, Bool.and_false]
  simp only [c2, Bool.false_eq_true, if_false]
  show wpAny _ _ (updateSeq l (· ++ its2.toArray) >>= fun _ => ret Value.none) _ _ s
  refine wpAny_bind (wpAny_updateSeq e rfl ?_ (by rw [List.size_toArray]; omega) (by rw [Array.size_append]; omega))
  refine wpAny_pure ⟨_, rfl, .non, _, I.lset (its' := its ++ its2) hH e (by simp) (r.append r2) ?_, rfl, q⟩
  rw [List.length_append]
  omega
/-! ### a comprehension over enumerate(xs) -/
theorem lc_enum {K : PySem.W.Frag} {a : Addr} {xs : List V} {g : TG} {tt : TT} {te : TE} {vs : List Nat} {σ : L2.St} {H1 : Hp} {D : Addr} {Qd : Hp → Prop} (Pv : Nat → Hp → Prop) (h0 : Pv 0 (upd H1 D (.lst []))) (hl : ∀ i H, Pv i H → SqL K H a xs)
    (hs : ∀ i x T H, xs[i]? = some x → Pv i H → H T = none → g (.ref T) (wipe σ vs) (upd H T (.tup [.int (i : Nat), x])) fun σ2 H2 => wipe σ2 vs = wipe σ vs ∧ tt σ2 H2 fun b H3 =>
      if b = true then te σ2 H3 fun y H4 => ∃ acc, H4 D = some (.lst acc) ∧ acc.length < sizeLine ∧ Pv (i + 1) (upd H4 D (.lst (acc ++ [y]))) else Pv (i + 1) H3) (hd : ∀ H, Pv xs.length H → Qd H) :
    ∃ W : Nat → Nat → Hp → Prop, (∃ m, W 0 m (upd H1 D (.lst []))) ∧ ∀ i m H, W i m H →
      ((Ite K a).stop i H ∧ Qd H) ∨ ((Ite K a).go i H ∧ ∃ Nx : Hp → Prop, (∀ H', Nx H' → ∃ m', m' < m ∧ W (i + 1) m' H') ∧ ∀ x H', (Ite K a).yld i H x H' → g x (wipe σ vs) H' fun σ2 H2 => wipe σ2 vs = wipe σ vs ∧ tt σ2 H2 fun b H3 =>
        if b = true then te σ2 H3 fun y H4 => ∃ acc, H4 D = some (.lst acc) ∧ acc.length < sizeLine ∧ Nx (upd H4 D (.lst (acc ++ [y]))) else Nx H3) := by
  refine ⟨fun i m H => m = xs.length - i ∧ i ≤ xs.length ∧ Pv i H, ⟨xs.length, by simp, Nat.zero_le _, h0⟩, ?_⟩
  rintro i m H ⟨rfl, hi, p⟩
  have q1 := hl i H p
  by_cases hlt : i < xs.length
  · refine .inr ⟨⟨xs, xs[i], q1, by simp [hlt]⟩, Pv (i + 1), fun H' p' => ⟨xs.length - (i + 1), by omega, rfl, hlt, p'⟩, fun x H' y => ?_⟩
    obtain ⟨T, u, rfl, hT, rfl, hu⟩ := y
    exact hs i u T H (hu xs q1) p hT
  · have e : i = xs.length := by omega
    subst e
    exact .inl ⟨⟨xs, q1, Nat.le_refl _⟩, hd H p⟩
/-! ### list(zip(a, b)): the pairs are kept, so each is a new one -/
/-- a zip that has handed out the pair at T -/
abbrev zipO (T : Addr) (f : Bool) (TI TO : Addr) : Obj := { cls := .type "zip", dict := none, data := .fields #[rawInt T, .bool f, .bool false, .ref TI, .ref TO], slots := #[] }
section
variable {prog : Program} {w : World} {A : Around} {E : Value → Shared → Prop} {s : Shared}
theorem own_busy {z TI TO T : Addr} {f : Bool} {oT : Obj} {Q : Bool → Shared → Prop} (hz : s.heap.get? z = some (zipO T f TI TO)) (hT : s.heap.get? T = some oT)
    (hQ : ∀ h1, h1.get? z = some (zipO T true TI TO) → Heap.SameBut z s.heap h1 → Q false { s with heap := h1 }) : wpAny (model prog w) A (Builtin.SmallTypes.ownedTupleIsFree (.ref z)) Q E s := by
  unfold Builtin.SmallTypes.ownedTupleIsFree
  refine wpAny_bind (wpAny_field hz rfl (x := rawInt T) rfl ?_)
  show wpAny _ _ (loadIfAlive (((T : Nat) : Int).toNat) >>= _) _ _ _
  rw [Int.toNat_natCast]
  refine wpAny_bind (PySem.W.kdx_alive hT ?_)
  simp only [Option.isNone_some, Bool.false_eq_true, if_false]
  refine wpAny_bind (wpAny_field hz rfl (x := .bool f) rfl ?_)
  cases f with
  | true =>
    rw [if_neg (by decide)]
    exact wpAny_pure (hQ s.heap hz (Heap.SameBut.refl _ _))
  | false =>
    rw [if_pos (by decide)]
    exact wpAny_bind (wpAny_setField_rec hz (by simp) fun h1 g1 g2 => wpAny_pure (hQ h1 g1 g2))
theorem zip_busy_item {z TI TO i1 i2 l1 l2 T : Addr} {f : Bool} {oT : Obj} {k1 k2 : Nat} {xs ys : Array Value} {x y : Value} {Q : Option Value → Shared → Prop} (D : ZipApart z TI TO i1 i2 l1 l2) (hz : s.heap.get? z = some (zipO T f TI TO)) (hT : s.heap.get? T = some oT)
    (hTI : IsPair s.heap TI (.ref i1) (.ref i2)) (g1 : s.heap.IsListIter i1 l1 k1) (g2 : s.heap.IsListIter i2 l2 k2) (q1 : s.heap.IsList l1 xs) (q2 : s.heap.IsList l2 ys) (hx : xs[k1]? = some x) (hy : ys[k2]? = some y)
    (hQ : ∀ h', h'.get? z = some (zipO T true TI TO) → h'.IsListIter i1 l1 (k1 + 1) → h'.IsListIter i2 l2 (k2 + 1) → IsPair h' s.heap.objs.size x y → (∀ c o, c ≠ z → c ≠ i1 → c ≠ i2 → s.heap.get? c = some o → h'.get? c = some o) → Q (some (.ref s.heap.objs.size)) { s with heap := h' }) :
    wpAny (model prog w) A (pyNext (.ref z)) Q E s := by
  have ty : s.TypeIs (.ref z) "zip" := ⟨_, hz, rfl⟩
  unfold pyNext
  refine wpAny_bind (wpAny_attempt (wpAny_callSpecial?_slot (name := Str.ofString "__next__") ty PySem.F.slot_zip_next (wpAny_call_entry PySem.F.slot_zip_next ty PySem.F.entry_zip_next ?_ (PySem.F.args_zip_next_1 _))))
  show wpAny _ _ (field (Value.ref z) 2 >>= _) _ _ s
  refine wpAny_bind (wpAny_field hz rfl (x := Value.bool false) rfl ?_)
  show wpAny _ _ (field (Value.ref z) 3 >>= _) _ _ s
  refine wpAny_bind (wpAny_field hz rfl (x := Value.ref TI) rfl ?_)
  refine wpAny_bind (wpAny_seqItems (a := TI) hTI rfl ?_)
  show wpAny _ _ (Builtin.SmallTypes.ownedTupleIsFree (Value.ref z) >>= _) _ _ s
  refine wpAny_bind (own_busy hz hT fun h1 z1 s1 => ?_)
  simp only [Bool.false_eq_true, if_false]
  rw [← Array.forIn_toList]
  simp only [List.forIn_cons, List.forIn_nil]
  refine wpAny_bind ?_
  refine wpAny_bind ?_
  refine wpAny_bind (wpAny_holding ?_)
  show wpAny _ _ (Builtin.SmallTypes.nextOf (Value.ref i1) >>= _) _ _ _
  refine wpAny_bind (wpAny_nextOf_list_item (g1.extBut s1.extBut D.i1z) (q1.extBut s1.extBut D.l1z) hx fun h2 e2 s2 => wpAny_pure ?_)
  refine wpAny_pure ?_
  refine wpAny_bind ?_
  refine wpAny_bind (wpAny_holding ?_)
  show wpAny _ _ (Builtin.SmallTypes.nextOf (Value.ref i2) >>= _) _ _ _
  refine wpAny_bind (wpAny_nextOf_list_item ((g2.extBut s1.extBut D.i2z).extBut s2.extBut D.i12.symm) ((q2.extBut s1.extBut D.l2z).extBut s2.extBut D.l2i1) hy fun h3 e3 s3 => wpAny_pure ?_)
  refine wpAny_pure ?_
  refine wpAny_pure ?_
  have sz : h3.objs.size = s.heap.objs.size := by rw [s3.1, s2.1]; exact s1.1
  refine wpAny_bind (wpAny_newTuple ?_ (by show 2 ≤ sizeLine; rw [sizeLine_eq]; decide))
  have up : ∀ c o, h3.get? c = some o → (h3.push { cls := .type "tuple", data := .seq #[x, y] }).get? c = some o := fun c o => Heap.get?_push_of_some _
  refine wpAny_pure ⟨_, rfl, wpAny_pure ?_⟩
  have fin := hQ (h3.push { cls := .type "tuple", data := .seq #[x, y] }) (up _ _ (s3.extBut _ _ D.i2z.symm (s2.extBut _ _ D.i1z.symm z1))) ((e2.extBut s3.extBut D.i12).at fun o q => up _ o q) (e3.at fun o q => up _ o q) (by rw [← sz]; exact Heap.get?_push_size _ rfl)
    fun c o c1 c2 c3 q => up _ _ (s3.extBut _ _ c3 (s2.extBut _ _ c2 (s1.extBut _ _ c1 q)))
  rw [← sz] at fin
  exact fin
theorem zip_busy_end {z TI TO i1 i2 l1 l2 T : Addr} {f : Bool} {oT : Obj} {k1 k2 : Nat} {xs ys : Array Value} {Q : Option Value → Shared → Prop} (hh : A.handled = none) (D : ZipApart z TI TO i1 i2 l1 l2) (hz : s.heap.get? z = some (zipO T f TI TO)) (hT : s.heap.get? T = some oT)
    (hTI : IsPair s.heap TI (.ref i1) (.ref i2)) (g1 : s.heap.IsListIter i1 l1 k1) (g2 : s.heap.IsListIter i2 l2 k2) (q1 : s.heap.IsList l1 xs) (q2 : s.heap.IsList l2 ys) (hend : xs[k1]? = none ∨ ys[k2]? = none)
    (hQ : ∀ h', (∀ c o, c ≠ z → c ≠ i1 → c ≠ i2 → s.heap.get? c = some o → h'.get? c = some o) → Q none { s with heap := h' }) : wpAny (model prog w) A (pyNext (.ref z)) Q E s := by
  have ty : s.TypeIs (.ref z) "zip" := ⟨_, hz, rfl⟩
  unfold pyNext
  refine wpAny_bind (wpAny_attempt (wpAny_callSpecial?_slot (name := Str.ofString "__next__") ty PySem.F.slot_zip_next (wpAny_call_entry PySem.F.slot_zip_next ty PySem.F.entry_zip_next ?_ (PySem.F.args_zip_next_1 _))))
  show wpAny _ _ (field (Value.ref z) 2 >>= _) _ _ s
  refine wpAny_bind (wpAny_field hz rfl (x := Value.bool false) rfl ?_)
  show wpAny _ _ (field (Value.ref z) 3 >>= _) _ _ s
  refine wpAny_bind (wpAny_field hz rfl (x := Value.ref TI) rfl ?_)
  refine wpAny_bind (wpAny_seqItems (a := TI) hTI rfl ?_)
  show wpAny _ _ (Builtin.SmallTypes.ownedTupleIsFree (Value.ref z) >>= _) _ _ s
  refine wpAny_bind (own_busy hz hT fun h1 z1 s1 => ?_)
  simp only [Bool.false_eq_true, if_false]
  rw [← Array.forIn_toList]
  simp only [List.forIn_cons, List.forIn_nil]
  refine wpAny_bind ?_
  refine wpAny_bind ?_
  refine wpAny_bind (wpAny_holding ?_)
  show wpAny _ _ (Builtin.SmallTypes.nextOf (Value.ref i1) >>= _) _ _ _
  cases hx : xs[k1]? with
  | none =>
    refine wpAny_bind (wpAny_nextOf_list_end hh (g1.extBut s1.extBut D.i1z) (q1.extBut s1.extBut D.l1z) hx fun h2 e s2 he => ?_)
    obtain ⟨oe, k1, k2⟩ := he
    refine wpAny_bind (wpAny_isInstance (T := "StopIteration") (b := true) ⟨oe, k1, k2⟩ isSubtype_stop ?_)
    exact wpAny_pure (hQ _ fun c o c1 c2 _ q => s2 _ _ c2 (s1.extBut _ _ c1 q))
  | some x =>
    have hy : ys[k2]? = none := by
      rcases hend with q | q
      · rw [hx] at q; cases q
      · exact q
    refine wpAny_bind (wpAny_nextOf_list_item (g1.extBut s1.extBut D.i1z) (q1.extBut s1.extBut D.l1z) hx fun h2 e2 s2 => wpAny_pure ?_)
    refine wpAny_pure ?_
    refine wpAny_bind ?_
    refine wpAny_bind (wpAny_holding ?_)
    show wpAny _ _ (Builtin.SmallTypes.nextOf (Value.ref i2) >>= _) _ _ _
    refine wpAny_bind (wpAny_nextOf_list_end hh ((g2.extBut s1.extBut D.i2z).extBut s2.extBut D.i12.symm) ((q2.extBut s1.extBut D.l2z).extBut s2.extBut D.l2i1) hy fun h3 e s3 he => ?_)
    obtain ⟨oe, k1, k2⟩ := he
    refine wpAny_bind (wpAny_isInstance (T := "StopIteration") (b := true) ⟨oe, k1, k2⟩ isSubtype_stop ?_)
    exact wpAny_pure (hQ _ fun c o c1 c2 c3 q => s3 _ _ c3 (s2.extBut _ _ c2 (s1.extBut _ _ c1 q)))
end
/-- where the zip stands: at the i-th pair -/
structure ZSt (H : Hp) (h : Heap) (z TI TO i1 i2 a b : Addr) (i : Nat) : Prop where
  zip : IsZip h z TI TO .none ∨ ∃ (T : Addr) (f : Bool) (xs : List V), h.get? z = some (zipO T f TI TO) ∧ H T = some (.tup xs)
  ti : IsPair h TI (.ref i1) (.ref i2)
  to : ∃ x y, IsPair h TO x y
  it1 : h.IsListIter i1 a i
  it2 : h.IsListIter i2 b i
theorem ZSt.there {H : Hp} {h : Heap} {z TI TO i1 i2 a b : Addr} {i : Nat} (S : ZSt H h z TI TO i1 i2 a b i) : ∀ c ∈ [z, TI, TO, i1, i2], c < h.objs.size := by
  intro c hc
  obtain ⟨x, y, hto⟩ := S.to
  obtain ⟨_, e1, _⟩ := S.it1
  obtain ⟨_, e2, _⟩ := S.it2
  have e' : c = z ∨ c = TI ∨ c = TO ∨ c = i1 ∨ c = i2 := by simpa using hc
  rcases e' with rfl | rfl | rfl | rfl | rfl
  · rcases S.zip with q | ⟨_, _, _, q, _⟩ <;> exact Heap.lt_size q
  · exact Heap.lt_size S.ti
  · exact Heap.lt_size hto
  · exact Heap.lt_size e1
  · exact Heap.lt_size e2
theorem lz_loop {X : Cx} {pins : List (Addr × Obj)} {σ : L2.St} {A : Around} {R : Result → Shared → Prop} {res : Value} {z TI TO i1 i2 a b S : Addr} {xs ys : List V} {H0 : Hp} {n : Nat} (hh : A.handled = none) (D : ZipApart z TI TO i1 i2 a b) (hn : n = min xs.length ys.length) (hsz : n ≤ sizeLine)
    (ha : SqL X.K H0 a xs) (hb : SqL X.K H0 b ys) (hS0 : H0 S = none)
    (hR : ∀ (H' : Hp) (s' : Shared) (ts : List Addr), Inv X pins σ H' s' → Same H0 H' → H' S = some (.lst (ts.map V.ref)) → ts.length = n → (∀ (i : Nat) (t : Addr) (x y : V), ts[i]? = some t → xs[i]? = some x → ys[i]? = some y → H' t = some (.tup [x, y])) → R (.ok (.ret res)) s') :
    ∀ (k i : Nat) (s : Shared) (H : Hp) (ts : List Addr), n - i = k → i ≤ n → Inv X pins σ H s → Same H0 H → (∀ c ∈ [z, TI, TO, i1, i2], FpOk X pins H c) → ZSt H s.heap z TI TO i1 i2 a b i → H S = some (.lst (ts.map V.ref)) → ts.length = i →
      (∀ (j : Nat) (t : Addr) (x y : V), ts[j]? = some t → xs[j]? = some x → ys[j]? = some y → H t = some (.tup [x, y])) → codeAny (model X.prog X.w) A (.builtin "list.extend.loop" ⟨[.ref S, .ref z, res], []⟩) R s := by
  intro k
  induction k with
  | zero =>
    intro i s H ts hk hi I sm fp st hS hlen hts
    obtain ⟨itx, rx, px, _⟩ := I.list (sm.seq ha)
    obtain ⟨ity, ry, py, _⟩ := I.list (sm.seq hb)
    have lx := rx.length
    have ly := ry.length
    have hend : itx.toArray[i]? = none ∨ ity.toArray[i]? = none := by
      by_cases q : xs.length ≤ i
      · exact .inl (by simp; omega)
      · exact .inr (by simp; omega)
    have fin : ∀ h', (∀ c o, c ≠ z → c ≠ TO → c ≠ i1 → c ≠ i2 → s.heap.get? c = some o → h'.get? c = some o) → R (.ok (.ret res)) { s with heap := h' } := fun h' hk' =>
      hR H _ ts (I.turnedL (t' := s.toks) (ch := [z, TI, TO, i1, i2]) (fun c o hc q => hk' c o (fun y => hc (by simp [y])) (fun y => hc (by simp [y])) (fun y => hc (by simp [y])) (fun y => hc (by simp [y])) q) fp) sm hS (by omega) hts
    refine codeAny_builtin PySem.F.entry_extend_loop ?_
    rw [Around.under_plainId PySem.F.plain_extend_loop _]
    show wpAny _ A.in1 (pyNext (Value.ref z) >>= _) _ _ s
    obtain ⟨x0, y0, hTO⟩ := st.to
    rcases st.zip with q | ⟨T, f, us, q, hT⟩
    · exact wpAny_bind (wpAny_pyNext_zip_end (A := A.in1) hh D q st.ti hTO st.it1 st.it2 px.isList py.isList hend fun h' hk' => wpAny_pure (fin h' hk'))
    · obtain ⟨_, _, _, oT, eT, _⟩ := I.hok T _ hT
      exact wpAny_bind (zip_busy_end (A := A.in1) hh D q eT st.ti st.it1 st.it2 px.isList py.isList hend fun h' hk' => wpAny_pure (fin h' fun c o c1 _ c3 c4 e => hk' c o c1 c3 c4 e))
  | succ k ih =>
    intro i s H ts hk hi I sm fp st hS hlen hts
    obtain ⟨itx, rx, px, _⟩ := I.list (sm.seq ha)
    obtain ⟨ity, ry, py, _⟩ := I.list (sm.seq hb)
    have l1 : i < xs.length := by omega
    have l2 : i < ys.length := by omega
    obtain ⟨u, hu, ru⟩ := rx.get (List.getElem?_eq_getElem l1)
    obtain ⟨v, hv, rv⟩ := ry.get (List.getElem?_eq_getElem l2)
    have th := st.there
    have go : ∀ h', (∀ c o, c ≠ z → c ≠ TO → c ≠ i1 → c ≠ i2 → s.heap.get? c = some o → h'.get? c = some o) → IsPair h' s.heap.objs.size u v → ZSt (upd H s.heap.objs.size (.tup [xs[i], ys[i]])) h' z TI TO i1 i2 a b (i + 1) →
        wpAny (model X.prog X.w) A.in1 (updateSeq S (·.push (Value.ref s.heap.objs.size)) >>= fun _ => again (.builtin "list.extend.loop" ⟨[.ref S, .ref z, res], []⟩))
          (fun fin s' => match fin with | .done f => R (.ok f) s' | .again c' => c'.quiet = true ∧ codeAny (model X.prog X.w) A c' R s') (fun e s' => R (.error e) s') { s with heap := h' } := fun h' kp hp zs => by
      have fresh := I.hok.fresh (Nat.le_refl s.heap.objs.size)
      have I1 : Inv X pins σ (upd H s.heap.objs.size (.tup [xs[i], ys[i]])) { s with heap := h' } :=
        I.turnedNew (t' := s.toks) (ch := [z, TI, TO, i1, i2]) (fun c o hc q => kp c o (fun y => hc (by simp [y])) (fun y => hc (by simp [y])) (fun y => hc (by simp [y])) (fun y => hc (by simp [y])) q) fp (Nat.le_refl _)
          (show ObjOk X.prog X.w _ h' _ (.tup [xs[i], ys[i]]) from ⟨by show 2 ≤ sizeLine; decide, [u, v], .cons ru (.cons rv .nil), ⟨_, hp, rfl, _, rfl⟩⟩)
      have nS : S ≠ s.heap.objs.size := ne_of_none hS fresh
      have hS1 : upd H s.heap.objs.size (.tup [xs[i], ys[i]]) S = some (.lst (ts.map V.ref)) := by rw [upd_ne nS]; exact hS
      obtain ⟨_, its, nn, r, hl, e⟩ := I1.lstM hS1
      rw [List.length_map] at hl
      have I2 := I1.lset (its' := its ++ [Value.ref s.heap.objs.size]) (ys := (ts ++ [s.heap.objs.size]).map V.ref) (t' := s.toks) (f := (·.push (Value.ref s.heap.objs.size))) hS1 e (by simp) (by rw [List.map_append]; exact r.append (.cons rfl .nil)) (by rw [List.length_map, List.length_append]; show _ + 1 ≤ _; omega)
      refine wpAny_bind (wpAny_updateSeq e rfl ?_ (by rw [List.size_toArray]; omega) (by rw [Array.size_push, List.size_toArray]; omega))
      refine wpAny_pure ⟨plainId_quiet PySem.F.plain_extend_loop _, ?_⟩
      have upS : ∀ c o, c ≠ S → h'.get? c = some o → (h'.update S (Obj.mapSeq (·.push (Value.ref s.heap.objs.size)))).get? c = some o := fun c o hc q => (Heap.get?_update_other _ _ (Ne.symm hc)).trans q
      have neS : ∀ c ∈ [z, TI, TO, i1, i2], c ≠ S := fun c hc q => by
        have := (fp c hc).1
        rw [q, hS] at this
        cases this
      refine ih (i + 1) _ _ (ts ++ [s.heap.objs.size]) (by omega) (by omega) I2 (same_new (same_new sm (sm.free fresh)) hS0) (fun c hc => ?_) ?_ upd_same (by rw [List.length_append, hlen]; rfl) (fun j t x y hj hx hy => ?_)
      · obtain ⟨f0, f1⟩ := fp c hc
        refine ⟨?_, f1⟩
        rw [upd_ne (neS c hc), upd_ne (Nat.ne_of_lt (th c hc))]
        exact f0
      · obtain ⟨zz, z2, ⟨x0, y0, z3⟩, ⟨o1, z4, z5⟩, ⟨o2, z6, z7⟩⟩ := zs
        refine ⟨?_, upS _ _ (neS _ (by simp)) z2, ⟨x0, y0, upS _ _ (neS _ (by simp)) z3⟩, ⟨o1, upS _ _ (neS _ (by simp)) z4, z5⟩, ⟨o2, upS _ _ (neS _ (by simp)) z6, z7⟩⟩
        rcases zz with q | ⟨T, f, us, q, hT⟩
        · exact .inl (upS _ _ (neS _ (by simp)) q)
        · exact .inr ⟨T, f, us, upS _ _ (neS _ (by simp)) q, by rw [upd_ne (ne_of hT hS1 (by intro z; cases z))]; exact hT⟩
      · have base : (upd H s.heap.objs.size (.tup [xs[i], ys[i]])) t = some (.tup [x, y]) := by
          by_cases hjl : j < ts.length
          · rw [List.getElem?_append_left hjl] at hj
            have q := hts j t x y hj hx hy
            rw [upd_ne (ne_of_none q fresh)]
            exact q
          · have hji : j = ts.length := by
              have := (List.getElem?_eq_some_iff.mp hj).1
              rw [List.length_append] at this
              simp at this
              omega
            rw [hji, List.getElem?_append_right (Nat.le_refl _), Nat.sub_self] at hj
            cases hj
            rw [hji, hlen] at hx hy
            rw [List.getElem?_eq_getElem l1] at hx
            rw [List.getElem?_eq_getElem l2] at hy
            cases hx
            cases hy
            exact upd_same
        rw [upd_ne (ne_of base hS1 (by intro z; cases z))]
        exact base
    refine codeAny_builtin PySem.F.entry_extend_loop ?_
    rw [Around.under_plainId PySem.F.plain_extend_loop _]
    show wpAny _ A.in1 (pyNext (Value.ref z) >>= _) _ _ s
    obtain ⟨x0, y0, hTO⟩ := st.to
    rcases st.zip with q | ⟨T, f, us, q, hT⟩
    · refine wpAny_bind (wpAny_pyNext_zip_item (A := A.in1) D q st.ti hTO st.it1 st.it2 px.isList py.isList (x := u) (y := v) (by simpa using hu) (by simpa using hv) fun h' e1 e2 e3 e4 e5 e6 e7 => ?_)
      exact go h' e7 e5 ⟨.inr ⟨s.heap.objs.size, false, _, e1, upd_same⟩, e7 _ _ D.TIz D.TITO D.TIi1 D.TIi2 st.ti, ⟨_, _, e2⟩, e3, e4⟩
    · obtain ⟨_, _, _, oT, eT, _⟩ := I.hok T _ hT
      refine wpAny_bind (zip_busy_item (A := A.in1) D q eT st.ti st.it1 st.it2 px.isList py.isList (x := u) (y := v) (by simpa using hu) (by simpa using hv) fun h' e1 e3 e4 e5 e7 => ?_)
      have fresh := I.hok.fresh (Nat.le_refl s.heap.objs.size)
      exact go h' (fun c o c1 _ c3 c4 y => e7 c o c1 c3 c4 y) e5 ⟨.inr ⟨T, true, us, e1, by rw [upd_ne (ne_of_none hT fresh)]; exact hT⟩, e7 _ _ D.TIz D.TIi1 D.TIi2 st.ti, ⟨_, _, e7 _ _ D.TOz D.TOi1 D.TOi2 hTO⟩, e3, e4⟩
theorem zip_no_len : typeLookup (.type "zip") "__len__" = pure none := by rw [typeLookup_type, builtinLookup_eq_fast]; kernel_rfl
theorem zip_no_hint : typeLookup (.type "zip") "__length_hint__" = pure none := by rw [typeLookup_type, builtinLookup_eq_fast]; kernel_rfl
theorem boot_list7 : bootBuiltins "list" = some (.type "list") := by decide +kernel
def tLZ (K : PySem.W.Frag) (ta : TA) : TE := fun σ H Q => ta σ H fun vs H1 => ∃ (a b : Addr) (xs ys : List V), vs = [.ref a, .ref b] ∧ SqL K H1 a xs ∧ SqL K H1 b ys ∧
  ∀ (H2 : Hp) (L : Addr) (ts : List Addr), Same H1 H2 → H1 L = none → H2 L = some (.lst (ts.map V.ref)) → ts.length = min xs.length ys.length → (∀ (i : Nat) (t : Addr) (x y : V), ts[i]? = some t → xs[i]? = some x → ys[i]? = some y → H2 t = some (.tup [x, y])) → Q (.ref L) H2
theorem pe_listZip {X : Cx} {e e2 : Expr} {ta : TA} {p p' pos pos' : Pos} (hc : X.calm = true) (hgl : Gl X "list") (hml : X.mg "list" = none) (hg : Gl X "zip") (hm : X.mg "zip" = none) (ha : PA X [e, e2] ta)
    (hs : starEach [e, e2] X.env = (false, eval e X.env) :: starEach [e2] X.env := by rfl) (hpl : (backTo pos (starEach [e2] X.env)).any (·.1) = false := by rfl)
    (hs' : starEach [Expr.Call (.Name "zip" p) [e, e2] [] pos] X.env = (false, eval (Expr.Call (.Name "zip" p) [e, e2] [] pos) X.env) :: starEach [] X.env := by rfl) :
    PE X (.Call (.Name "list" p') [.Call (.Name "zip" p) [e, e2] [] pos] [] pos') (tLZ X.K ta) := by
  intro pins s σ H Q I h
  refine wpAny_Call_Name_kw (ld_blt I hgl hml boot_list7 ?_)
  refine PyProof.Rows.callWith_type1 ?_ hs' rfl
  rw [hs']
  show wpAny _ _ (spliced ((false, eval (Expr.Call (.Name "zip" p) [e, e2] [] pos) X.env) :: [])) _ _ s
  refine Calls.spliced_cons ?_
  refine Call_ (ld_blt I hg hm boot_zip5 (PyProof.Rows.callWith_type1 (thn (ha pos pins s σ H _ I h) fun us s1 ⟨vs, H1, I1, r1, q1⟩ => ?_) hs hpl))
  obtain ⟨a, b, xs, ys, rfl, hqx, hqy, q⟩ := q1
  obtain ⟨u1, ur, rfl, hr1, hr2⟩ : ∃ u1 ur, us = u1 :: ur ∧ RelV (.ref a) u1 ∧ Vals [.ref b] ur := by
    cases r1 with
    | cons c1 c2 => exact ⟨_, _, rfl, c1, c2⟩
  obtain ⟨u2, rfl, hr3⟩ := hr2.one
  cases hr1
  cases hr3
  obtain ⟨itx, rx, px, zx⟩ := I1.list hqx
  obtain ⟨ity, ry, py, _⟩ := I1.list hqy
  have la : a < s1.heap.objs.size := px.lt
  have lb : b < s1.heap.objs.size := py.lt
  refine call_zip_2 px.isList py.isList fun h' hz hTI hTO g1 g2 hsz hk => ?_
  refine Calls.spliced_nil ?_
  generalize hN : s1.heap.objs.size = N at *
  have I2 : Inv X pins σ H1 { s1 with heap := h' } := I1.kept (t' := s1.toks) hk
  have D : ZipApart (N + 4) (N + 2) (N + 3) N (N + 1) a b := PySem.W.ktu_apart N a b la lb
  have nS : h'.objs.size ≠ N + 4 := by omega
  -- list(..)
  refine callType_codes (Q₁ := fun obj s₁ => obj = .ref h'.objs.size ∧ s₁ = { s1 with heap := h'.push { cls := .type "list", data := .seq #[] } }) PySem.F.called_list (PySem.F.typeCall_list_1 _) PySem.F.entry_list_init (code_list_new _ ⟨rfl, rfl⟩) fun obj s₁ h₁ => ?_
  obtain ⟨rfl, rfl⟩ := h₁
  have hS : (h'.push { cls := .type "list", data := .seq #[] }).get? h'.objs.size = some { cls := .type "list", data := .seq #[] } := Heap.get?_push_size _ rfl
  refine ⟨⟨_, hS, rfl⟩, PySem.F.args_list_init_2 _ _, ?_⟩
  show wpAny _ _ (do let old ← Builtin.List.listItems (Value.ref h'.objs.size); Builtin.List.listUpdate (Value.ref h'.objs.size) (fun _ => #[]); letGo old.toList.reverse; Builtin.List.listExtendWith (Value.ref h'.objs.size) (Value.ref (N + 4)) Value.none) _ _ _
  refine wpAny_bind ?_
  unfold Builtin.List.listItems
  refine wpAny_bind (wpAny_seqItems hS rfl (wpAny_pure ?_))
  show wpAny _ _ (updateSeq h'.objs.size (fun _ => #[]) >>= fun _ => letGo (#[] : Array Value).toList.reverse >>= fun _ => Builtin.List.listExtendWith (Value.ref h'.objs.size) (Value.ref (N + 4)) Value.none) _ _ _
  refine wpAny_bind (wpAny_updateSeq hS rfl ?_)
  have hS2 := Heap.get?_update_self (Obj.mapSeq (fun _ => (#[] : Array Value))) hS rfl
  refine wpAny_bind (wpAny_letGo ?_)
  have k1 : ∀ c o, h'.get? c = some o → ((h'.push { cls := .type "list", data := .seq #[] }).update h'.objs.size (Obj.mapSeq fun _ => (#[] : Array Value))).get? c = some o := fun c o y =>
    (Heap.get?_update_other _ _ (Nat.ne_of_gt (Heap.lt_size y))).trans (Heap.get?_push_of_some _ y)
  generalize ((h'.push { cls := .type "list", data := .seq #[] }).update h'.objs.size (Obj.mapSeq fun _ => (#[] : Array Value))) = hB at hS2 k1 ⊢
  unfold Builtin.List.listExtendWith
  refine wpAny_bind (wpAny_typeOf (T := "zip") ⟨_, k1 _ _ hz, rfl⟩ ?_)
  have c1 : Builtin.List.listSameRef (Value.ref h'.objs.size) (Value.ref (N + 4)) = false := by simp [Builtin.List.listSameRef, nS]
  have c2 : (Value.type "zip" == Value.type "list") = false := by decide
  have c3 : (Value.type "zip" == Value.type "tuple") = false := by decide
  simp only [c1, c2, c3, Bool.or_false, Bool.false_eq_true, if_false]
  refine wpAny_bind (wpAny_pyIter_zip (k1 _ _ hz) ?_)
  refine wpAny_bind (wpAny_holding ?_)
  unfold Builtin.List.listLengthHint
  refine wpAny_bind (wpAny_specialOf (T := "zip") ⟨_, k1 _ _ hz, rfl⟩ zip_no_len ?_)
  show wpAny _ _ (specialOf (Value.ref (N + 4)) (Str.ofString "__length_hint__") >>= _) _ _ _
  refine wpAny_bind (wpAny_specialOf (T := "zip") ⟨_, k1 _ _ hz, rfl⟩ zip_no_hint ?_)
  refine wpAny_pure ?_
  show wpAny _ _ (rule "list.extend.makes-room" >>= fun _ => Builtin.List.listTouch (Value.ref h'.objs.size) >>= fun _ => again (.builtin "list.extend.loop" ⟨[Value.ref h'.objs.size, Value.ref (N + 4), Value.none], []⟩)) _ _ _
  refine wpAny_bind (wpAny_rule ?_)
  refine wpAny_bind ?_
  show wpAny _ _ (updateSeq h'.objs.size (·.push Value.none) >>= fun _ => updateSeq h'.objs.size (·.pop)) _ _ _
  refine wpAny_bind (wpAny_updateSeq hS2 rfl ?_)
  have hS3 := Heap.get?_update_self (Obj.mapSeq (·.push Value.none)) hS2 rfl
  refine wpAny_updateSeq (hz := by seq_fits) hS3 rfl ?_
  have hS4 := Heap.get?_update_self (Obj.mapSeq (·.pop)) hS3 rfl
  have k2 : ∀ c o, h'.get? c = some o → ((hB.update h'.objs.size (Obj.mapSeq (·.push Value.none))).update h'.objs.size (Obj.mapSeq (·.pop))).get? c = some o := fun c o y =>
    (Heap.get?_update_other _ _ (Nat.ne_of_gt (Heap.lt_size y))).trans ((Heap.get?_update_other _ _ (Nat.ne_of_gt (Heap.lt_size y))).trans (k1 c o y))
  generalize ((hB.update h'.objs.size (Obj.mapSeq (·.push Value.none))).update h'.objs.size (Obj.mapSeq (·.pop))) = hE at hS4 k2 ⊢
  have I3 : Inv X pins σ (upd H1 h'.objs.size (.lst [])) { s1 with heap := hE } := Inv.laid (s := { s1 with heap := h' }) (t' := s1.toks) I2 k2 (Nat.le_refl _) (show ObjOk X.prog X.w _ hE _ (.lst []) from ⟨Nat.zero_le _, [], _, .nil, hS4⟩)
  have fS : H1 h'.objs.size = none := I2.hok.fresh (Nat.le_refl h'.objs.size)
  have lz := zx
  refine wpAny_pure ⟨plainId_quiet PySem.F.plain_extend_loop _, lz_loop (A := X.A.in1) (n := min xs.length ys.length) (S := h'.objs.size) (H0 := H1) (I1.ok.hd hc) D rfl (Nat.le_trans (Nat.min_le_left _ _) zx) hqx hqy fS (fun H' s' ts J sm hL hlen hts => ⟨rfl, .ref h'.objs.size, H', J, rfl, q H' _ ts sm fS hL hlen hts⟩) _ 0 _ _ [] rfl (Nat.zero_le _) I3 (same_new (Same.refl H1) fS) (fun c hcm => ?_) ?_ upd_same rfl (fun j t x y hj _ _ => by simp at hj)⟩
  · have hle : N ≤ c ∧ c < h'.objs.size := by
      rw [hsz]
      have e' : c = N + 4 ∨ c = N + 2 ∨ c = N + 3 ∨ c = N ∨ c = N + 1 := by simpa using hcm
      rcases e' with y | y | y | y | y
      · rw [y]; exact ⟨Nat.le_add_right _ _, Nat.lt_succ_self _⟩
      · rw [y]; exact ⟨Nat.le_add_right _ _, Nat.add_lt_add_left (by decide) _⟩
      · rw [y]; exact ⟨Nat.le_add_right _ _, Nat.add_lt_add_left (by decide) _⟩
      · rw [y]; exact ⟨Nat.le_refl _, Nat.lt_add_of_pos_right (by decide)⟩
      · rw [y]; exact ⟨Nat.le_add_right _ _, Nat.add_lt_add_left (by decide) _⟩
    refine I1.fpOk (by rw [hN]; exact hle.1) ?_
    rw [upd_ne (Nat.ne_of_lt hle.2)]
    exact I1.hok.fresh (by rw [hN]; exact hle.1)
  · exact ⟨.inl (k2 _ _ hz), k2 _ _ hTI, ⟨_, _, k2 _ _ hTO⟩, g1.at fun o y => k2 _ o y, g2.at fun o y => k2 _ o y⟩
end L3
end
section
set_option Elab.async false
set_option linter.all false
set_option maxRecDepth 100000
/-! The defs of fields.py and coordinates.py: each keeps its promise. -/
namespace Ls
open PySem PySem.Spec PyProof.Rows L2 L3 Ma
open Rc25Neutral (bytesOf)
/-! ### the text by places -/
def top (i : Nat) : Stmt := PySem.Challenge.pw_landshapes_s01_answers.main.body.getD i (.Pass ⟨0, 0, 0, 0⟩)
/-! ### what a def of the module promises, wherever it stands -/
section
variable (P : Program) (w : World) (K : PySem.W.Frag) (mg : Str → Option Value) (base : Heap) (C : Addr)
def Ok (name : Str) (k : Nat) (ps : List Str) (sp : Sp) : Prop :=
  ∃ f fd, mg name = some (.ref f) ∧ PySem.W.keepIn K (.ref f) = true ∧ Binds K fd ps [] ∧ FnOk P w K mg base (CXE P w C) k f fd ps sp
end
/-- a call of it -/
theorem pf {X : Cx} {C : Addr} {name : Str} {k : Nat} {ps : List Str} {sp : Sp} {E : XK} {e : Expr} {es : List Expr} {t : TA} {p pos : Pos} (G : Ok X.prog X.w X.K X.mg X.base C name k ps sp) (hr : Room k X.A) (hg : Gl X name) (hx : Passes (CXE X.prog X.w C) X E) (ha : PA X (e :: es) t)
    (hdb : (name == ("__debug__" : Str)) = false := by decide) (he : starEach (e :: es) X.env = (false, eval e X.env) :: starEach es X.env := by rfl) (hpl : (backTo pos (starEach es X.env)).any (·.1) = false := by rfl) :
    PE X (.Call (.Name name p) (e :: es) [] pos) (tCall sp [] E t) := by
  obtain ⟨f, fd, m, kp, b, F⟩ := G
  exact pe_call F hr hg m kp b .nil hx ha hdb he hpl
/-- a call of one that raises nothing -/
theorem pn {X : Cx} {C : Addr} {name : Str} {k : Nat} {ps : List Str} {sp : Sp} {e : Expr} {es : List Expr} {t : TA} {p pos : Pos} (G : Ok X.prog X.w X.K X.mg X.base C name k ps sp) (hr : Room k X.A) (hg : Gl X name) (ha : PA X (e :: es) t)
    (hdb : (name == ("__debug__" : Str)) = false := by decide) (he : starEach (e :: es) X.env = (false, eval e X.env) :: starEach es X.env := by rfl) (hpl : (backTo pos (starEach es X.env)).any (·.1) = false := by rfl) :
    PE X (.Call (.Name name p) (e :: es) [] pos) (tCall sp [] E0 t) := pf G hr hg pass_no ha hdb he hpl
section
variable {P : Program} {w : World} {K : PySem.W.Frag} {mg : Str → Option Value} {base : Heap} {C : Addr}
/-- THE RULE for a def, exceptions of the class at C let through -/
theorem okE {x qual : Str} {st : Stmt} {f : Addr} {fd : FuncData} {N ps : List Str} {k : Nat} {sp : Sp} (F : Fun K x qual st f fd) (m : mg x = some (.ref f)) (b : Binds K fd ps []) (S : FnScope N ps (defScope st)) (len : ∀ vs H Q E, sp vs H Q E → vs.length = ps.length)
    (hbody : ∀ (cdv : Value) (A : Around) (outer : List Env) (s : Shared) (H : Hp) (vs : List V) (Q : VK) (E : XK), Room k (A.deeper (envOfC qual (defScope st) s.heap.objs.size f cdv)) → sp vs H Q E →
      ∃ t, PSs (cxE P w C K mg base N qual (defScope st) f cdv A outer s H E) (defBody st) t ∧ t { nx := fun _ H' => Q .non H', rt := Q } (start N vs) H) : Ok P w K mg base C x (k + 1) ps sp := by
  obtain ⟨oc, od, kV, doc, pm, an, cdv, ct, osl, e, lk, hcd⟩ := F.ex
  subst e
  exact ⟨f, _, m, F.kp, b, fn_of lk hcd S len fun A outer s H vs Q E hr hsp => hbody cdv A outer s H vs Q E hr hsp⟩
end
/-! ### the module's own names -/
/-- a number that the module holds -/
def Num (mg : Str → Option Value) (x : Str) (i : Int) : Prop := ∃ t, mg x = some (.int i t)
theorem pg {X : Cx} {x : Str} {i : Int} {pos : Pos} (h : Num X.mg x i) (hg : Gl X x) (hd : (x == ("__debug__" : Str)) = false := by decide) : PE X (.Name x pos) (tC (.int i)) := by
  obtain ⟨t, e⟩ := h
  exact pe_glob hg e ⟨t, rfl⟩ hd
structure Names (mg : Str → Option Value) : Prop where
  sign : Num mg "SIGN" 9223372036854775808
  fraction : Num mg "FRACTION" 4503599627370495
  hidden : Num mg "HIDDEN_ONE" 4503599627370496
  exponent : Num mg "EXPONENT" 2047
  farthest : Num mg "FARTHEST" 4787326403894837248
  nothing : Num mg "NOTHING" 0
  point : Num mg "POINT" 1
  lines : Num mg "LINES" 3
  area : Num mg "AREA" 5
  longest : Num mg "LONGEST_FILE" 4194304
  headLen : Num mg "HEAD_LENGTH" 100
  recHead : Num mg "RECORD_HEAD_LENGTH" 8
  nothingLen : Num mg "NOTHING_LENGTH" 4
  pointLen : Num mg "POINT_LENGTH" 20
  places : Num mg "PLACES_START" 44
  mostParts : Num mg "MOST_PARTS" 65536
  mostPoints : Num mg "MOST_POINTS" 65536
  dWidth : Num mg "DOUBLE_WIDTH" 53
  fewest : Num mg "FEWEST_DROPPED" 1075
  cBegin : Num mg "CALL_BEGIN" 0
  cOpen : Num mg "CALL_OPEN" 1
  cCount : Num mg "CALL_COUNT" 2
  cAbout : Num mg "CALL_ABOUT" 3
  cBox : Num mg "CALL_BOX" 4
  cPart : Num mg "CALL_PART" 5
  cAt : Num mg "CALL_AT" 6
  refused : Num mg "REFUSED" (-1)
  refNothing : Num mg "REFUSED_NOTHING" (-2)
  noFile : Num mg "NO_FILE" (-4)
  mostTold : Num mg "MOST_TOLD" 65536
  nLen : mg "len" = none
  nAny : mg "any" = none
  nMin : mg "min" = none
  nMax : mg "max" = none
  nSum : mg "sum" = none
  nZip : mg "zip" = none
  nRange : mg "range" = none
  nList : mg "list" = none
  nAbs : mg "abs" = none
  nEnum : mg "enumerate" = none
section
variable {P : Program} {w : World} {K : PySem.W.Frag} {mg : Str → Option Value} {base : Heap} {C : Addr}
/-! ### exact -/
def spExact : Sp := fun vs H Q _ => ∃ n : Nat, n < 2 ^ 64 ∧ vs = [.int n] ∧ Q (.int (Rc25.worth n)) H
theorem scExact : FnScope ["bits", "exponent", "size"] ["bits"] (defScope (top 7)) := ⟨rfl, rfl, rfl, by decide +kernel, rfl, by decide +kernel, by decide +kernel⟩
theorem and_sign {n : Nat} (h : n < 2 ^ 64) : (Builtin.bitAnd (n : Int) 9223372036854775808 != 0) = decide (n / 2 ^ 63 = 1) := by
  have e : Builtin.bitAnd (n : Int) ((2 ^ 63 : Nat) : Int) = ((n &&& 2 ^ 63 : Nat) : Int) := bitAnd_pp (by omega) (by omega)
  have e2 : ((2 ^ 63 : Nat) : Int) = 9223372036854775808 := by decide
  rw [e2] at e
  rw [e]
  have q : n.testBit 63 = decide (n / 2 ^ 63 = 1) := by
    rw [Nat.testBit_eq_decide_div_mod_eq]
    have : n / 2 ^ 63 < 2 := by omega
    have : n / 2 ^ 63 % 2 = n / 2 ^ 63 := by omega
    rw [this]
  have t : (n &&& 2 ^ 63) = (if n / 2 ^ 63 = 1 then 2 ^ 63 else 0) := by
    apply Nat.eq_of_testBit_eq
    intro i
    rw [Nat.testBit_and, Nat.testBit_two_pow]
    by_cases h63 : 63 = i
    · subst h63
      rw [q]
      by_cases z : n / 2 ^ 63 = 1
      · rw [if_pos z, Nat.testBit_two_pow_self]
        simp [z]
      · rw [if_neg z]
        simp [z]
    · by_cases z : n / 2 ^ 63 = 1
      · rw [if_pos z, Nat.testBit_two_pow]
        simp [h63]
      · rw [if_neg z]
        simp [h63]
  rw [t]
  by_cases z : n / 2 ^ 63 = 1
  · simp [z]
  · simp [z]
theorem and_low (n k : Nat) : Builtin.bitAnd (n : Int) (2 ^ k - 1) = ((n % 2 ^ k : Nat) : Int) := by
  rw [Bits.bitAnd_mask k (Int.natCast_nonneg n)]
  rw [two_pow_cast]
  exact (Int.natCast_emod _ _).symm
theorem or_hidden {f : Nat} (h : f < 2 ^ 52) : Builtin.bitOr (f : Int) 4503599627370496 = ((2 ^ 52 + f : Nat) : Int) := by
  have := Bits.bitOr_join (a := (f : Int)) (b := 1) (k := 52) (by omega) (by rw [two_pow_cast]; omega) (by decide)
  rw [show (1 : Int) * 2 ^ 52 = 4503599627370496 from by decide] at this
  rw [this]
  omega
theorem ok_exact {f : Addr} {fd : FuncData} (F : Fun K "exact" "exact" (top 7) f fd) (m : mg "exact" = some (.ref f)) (b : Binds K fd ["bits"] []) (T : Names mg) : Ok P w K mg base C "exact" 1 ["bits"] spExact := by
  refine okE F m b scExact (fun vs H Q E h => ?_) (fun cdv A outer s H vs Q E hr h => ?_)
  · obtain ⟨n, _, rfl, _⟩ := h
    rfl
  · obtain ⟨n, hn, rfl, k⟩ := h
    refine ⟨_, pss_cons (ps_set (i := 1) scExact.nd rfl (Or.inl rfl) (pe_op op_and (pe_op op_shr (pv 0) pe_int) (pg T.exponent rfl)))
      (pss_cons (ps_set (i := 2) scExact.nd rfl (Or.inl rfl) (pe_op op_and (pv 0) (pg T.fraction rfl)))
      (pss_cons (ps_if (pt_cmpR op_gt (pv 1) pe_int (nomark _)) (pss_one (ps_set (i := 2) scExact.nd rfl (Or.inl rfl) (pe_op op_shl (pe_op op_or (pv 2) (pg T.hidden rfl)) (pe_op op_sub (pv 1) pe_int)))) pss_nil)
      (pss_cons (ps_if (pt_truth (pe_op op_and (pv 0) (pg T.sign rfl)) (fun _ => rfl)) (pss_one (ps_ret (pe_un un_neg (pv 2)))) pss_nil)
      (pss_one (ps_ret (pv 2)))))), ?_⟩
    refine ⟨_, rfl, _, _, rfl, rfl, (by show (0 : Int) ≤ 52; decide), _, _, rfl, rfl, ?_⟩
    refine ⟨_, rfl, _, _, rfl, rfl, ?_⟩
    refine ⟨_, rfl, _, _, rfl, rfl, _, rfl, ?_⟩
    have e1 : Builtin.bitAnd ((n : Int) / 2 ^ Int.toNat 52) 2047 = ((n / 2 ^ 52 % 2 ^ 11 : Nat) : Int) := by
      have := and_low (n / 2 ^ 52) 11
      rw [Int.natCast_ediv] at this
      exact this
    have e2 : Builtin.bitAnd (n : Int) 4503599627370495 = ((n % 2 ^ 52 : Nat) : Int) := and_low n 52
    dsimp only
    rw [e1, e2]
    have hs : ∀ z : Nat, z = size n → ∀ Q0 : V → Prop, Q0 (.int (Rc25.worth n)) → if (Builtin.bitAnd (n : Int) 9223372036854775808 != 0) = true then Q0 (.int (-(z : Int))) else Q0 (.int (z : Int)) := fun z hz Q0 q => by
      rw [and_sign hn]
      rw [worth_eq, ← hz] at q
      by_cases c : n / 2 ^ 63 = 1
      · rw [if_pos c] at q
        rw [decide_eq_true c]
        exact iteT q
      · rw [if_neg c] at q
        rw [decide_eq_false c]
        exact iteF q
    refine ite2 (fun h => ?_) (fun h => ?_)
    · have h0 : 0 < n / 2 ^ 52 % 2 ^ 11 := by
        have := of_decide_eq_true h
        omega
      have hf : n % 2 ^ 52 < 2 ^ 52 := Nat.mod_lt _ (by decide)
      refine ⟨_, rfl, _, _, rfl, rfl, _, rfl, _, _, rfl, rfl, _, _, rfl, rfl, ⟨by omega, by omega, by rw [or_hidden hf]; omega⟩, ?_⟩
      refine ⟨_, rfl, _, _, rfl, rfl, _, rfl, ?_⟩
      have e3 : Builtin.bitOr ((n % 2 ^ 52 : Nat) : Int) 4503599627370496 * 2 ^ (((n / 2 ^ 52 % 2 ^ 11 : Nat) : Int) - 1).toNat = ((size n : Nat) : Int) := by
        rw [or_hidden hf]
        unfold size
        rw [if_neg (by omega), Int.natCast_mul, Int.natCast_pow, show (((n / 2 ^ 52 % 2 ^ 11 : Nat) : Int) - 1).toNat = n / 2 ^ 52 % 2 ^ 11 - 1 by omega]
        rfl
      dsimp only
      rw [e3]
      have := hs (size n) rfl (fun v => Q v H) k
      split at this
      · rename_i c
        rw [if_pos c]
        exact ⟨_, rfl, _, rfl, this⟩
      · rename_i c
        rw [if_neg c]
        exact ⟨_, rfl, this⟩
    · have h0 : n / 2 ^ 52 % 2 ^ 11 = 0 := by
        have : ¬ (0 : Int) < ((n / 2 ^ 52 % 2 ^ 11 : Nat) : Int) := fun z => h (decide_eq_true z)
        omega
      refine ⟨_, rfl, _, _, rfl, rfl, _, rfl, ?_⟩
      dsimp only
      have := hs (n % 2 ^ 52) (by unfold size; rw [if_pos h0]) (fun v => Q v H) k
      split at this
      · rename_i c
        rw [if_pos c]
        exact ⟨_, rfl, _, rfl, this⟩
      · rename_i c
        rw [if_neg c]
        exact ⟨_, rfl, this⟩
end
end Ls
end
section
set_option Elab.async false
set_option linter.all false
set_option maxRecDepth 100000
/-! Bytes read as numbers. -/
namespace Ls
open PySem PySem.Spec PyProof.Rows L2 L3 Ma
open Rc25Neutral (bytesOf)
section
variable {P : Program} {w : World} {K : PySem.W.Frag} {mg : Str → Option Value} {base : Heap} {C : Addr}
/-! ### lists of numbers, of points -/
theorem at_ns {ns : List Int} {j : Nat} {z : Int} (e : z = (j : Int)) (h : j < ns.length) : atI (ns.map V.int) z = some (.int (ns.getD j 0)) :=
  at_of e (by rw [List.getElem?_map, List.getElem?_eq_getElem h]; simp [h])
theorem bt_at {ns : List Int} (h : Bt ns) (j : Nat) : 0 ≤ ns.getD j 0 ∧ ns.getD j 0 < 256 := by
  by_cases hj : j < ns.length
  · have e : ns.getD j 0 = ns[j] := by simp [hj]
    rw [e]
    exact h _ (List.getElem_mem hj)
  · have e : ns.getD j 0 = 0 := by simp [hj]
    rw [e]
    decide
theorem pow_byte {d k : Int} (h : 0 ≤ d ∧ d < 256) (hk : 0 ≤ k ∧ k ≤ 1000000) : CPow d k := ⟨hk.1, hk.2, by omega⟩
theorem or_low {d0 d1 d2 d3 : Int} (h0 : 0 ≤ d0 ∧ d0 < 256) (h1 : 0 ≤ d1 ∧ d1 < 256) (h2 : 0 ≤ d2 ∧ d2 < 256) (h3 : 0 ≤ d3 ∧ d3 < 256) :
    Builtin.bitOr (Builtin.bitOr (Builtin.bitOr d0 (d1 * 2 ^ 8)) (d2 * 2 ^ 16)) (d3 * 2 ^ 24) = d0 + d1 * 2 ^ 8 + d2 * 2 ^ 16 + d3 * 2 ^ 24 := by
  rw [Bits.bitOr_join h0.1 (by omega) h1.1, Bits.bitOr_join (by omega) (by omega) h2.1, Bits.bitOr_join (by omega) (by omega) h3.1]
theorem or_high {d0 d1 d2 d3 : Int} (h0 : 0 ≤ d0 ∧ d0 < 256) (h1 : 0 ≤ d1 ∧ d1 < 256) (h2 : 0 ≤ d2 ∧ d2 < 256) (h3 : 0 ≤ d3 ∧ d3 < 256) :
    Builtin.bitOr (Builtin.bitOr (Builtin.bitOr (d0 * 2 ^ 24) (d1 * 2 ^ 16)) (d2 * 2 ^ 8)) d3 = d0 * 2 ^ 24 + d1 * 2 ^ 16 + d2 * 2 ^ 8 + d3 := by
  have e1 : Builtin.bitOr (d0 * 2 ^ 24) (d1 * 2 ^ 16) = (d0 * 256 + d1) * 2 ^ 16 := by rw [Bits.bitOr_join' (by omega) (by omega) h0.1]; omega
  have e2 : Builtin.bitOr ((d0 * 256 + d1) * 2 ^ 16) (d2 * 2 ^ 8) = (d0 * 65536 + d1 * 256 + d2) * 2 ^ 8 := by rw [Bits.bitOr_join' (by omega) (by omega) (by omega)]; omega
  rw [e1, e2, Bits.bitOr_join' h3.1 (by omega) (by omega)]
  omega
/-! ### whole_low, whole_high, double_bits -/
def spLow (K : PySem.W.Frag) : Sp := fun vs H Q _ => ∃ (a : Addr) (ns : List Int) (p : Nat), vs = [.ref a, .int p] ∧ SqL K H a (ns.map V.int) ∧ Bt ns ∧ p + 4 ≤ ns.length ∧ Q (.int (Rc25.low (bytesOf ns) p 4)) H
def spHigh (K : PySem.W.Frag) : Sp := fun vs H Q _ => ∃ (a : Addr) (ns : List Int) (p : Nat), vs = [.ref a, .int p] ∧ SqL K H a (ns.map V.int) ∧ Bt ns ∧ p + 4 ≤ ns.length ∧ Q (.int (Rc25.high (bytesOf ns) p 4)) H
def spDouble (K : PySem.W.Frag) : Sp := fun vs H Q _ => ∃ (a : Addr) (ns : List Int) (p : Nat), vs = [.ref a, .int p] ∧ SqL K H a (ns.map V.int) ∧ Bt ns ∧ p + 8 ≤ ns.length ∧ Q (.int (Rc25.low (bytesOf ns) p 8)) H
theorem scLow : FnScope ["data", "place"] ["data", "place"] (defScope (top 13)) := ⟨rfl, rfl, rfl, by decide +kernel, rfl, by decide +kernel, by decide +kernel⟩
theorem scHigh : FnScope ["data", "place"] ["data", "place"] (defScope (top 14)) := ⟨rfl, rfl, rfl, by decide +kernel, rfl, by decide +kernel, by decide +kernel⟩
theorem scDouble : FnScope ["data", "place"] ["data", "place"] (defScope (top 15)) := ⟨rfl, rfl, rfl, by decide +kernel, rfl, by decide +kernel, by decide +kernel⟩
theorem ok_low {f : Addr} {fd : FuncData} (F : Fun K "whole_low" "whole_low" (top 13) f fd) (m : mg "whole_low" = some (.ref f)) (b : Binds K fd ["data", "place"] []) : Ok P w K mg base C "whole_low" 1 ["data", "place"] (spLow K) := by
  refine okE F m b scLow (fun vs H Q E h => ?_) (fun cdv A outer s H vs Q E hr h => ?_)
  · obtain ⟨a, ns, p, rfl, _⟩ := h
    rfl
  · obtain ⟨a, ns, p, rfl, hS, hB, hp, k⟩ := h
    refine ⟨_, pss_one (ps_ret (pe_op op_or (pe_op op_or (pe_op op_or (pe_ix ix_list (pv 0) (pv 1) (fun _ _ => rfl)) (pe_op op_shl (pe_ix ix_list (pv 0) (pe_op op_add (pv 1) pe_int) (fun _ _ => rfl)) pe_int))
      (pe_op op_shl (pe_ix ix_list (pv 0) (pe_op op_add (pv 1) pe_int) (fun _ _ => rfl)) pe_int)) (pe_op op_shl (pe_ix ix_list (pv 0) (pe_op op_add (pv 1) pe_int) (fun _ _ => rfl)) pe_int))), ?_⟩
    refine ⟨_, rfl, _, rfl, a, _, _, _, rfl, rfl, hS, at_ns (j := p) rfl (by omega), ?_⟩
    refine ⟨_, rfl, _, rfl, _, _, rfl, rfl, a, _, _, _, rfl, rfl, hS, at_ns (j := p + 1) (by omega) (by omega), _, _, rfl, rfl, pow_byte (bt_at hB _) (by decide), _, _, rfl, rfl, ?_⟩
    refine ⟨_, rfl, _, rfl, _, _, rfl, rfl, a, _, _, _, rfl, rfl, hS, at_ns (j := p + 2) (by omega) (by omega), _, _, rfl, rfl, pow_byte (bt_at hB _) (by decide), _, _, rfl, rfl, ?_⟩
    refine ⟨_, rfl, _, rfl, _, _, rfl, rfl, a, _, _, _, rfl, rfl, hS, at_ns (j := p + 3) (by omega) (by omega), _, _, rfl, rfl, pow_byte (bt_at hB _) (by decide), _, _, rfl, rfl, ?_⟩
    rw [low4 hB hp] at k
    rw [← or_low (bt_at hB p) (bt_at hB (p + 1)) (bt_at hB (p + 2)) (bt_at hB (p + 3))] at k
    exact k
theorem ok_high {f : Addr} {fd : FuncData} (F : Fun K "whole_high" "whole_high" (top 14) f fd) (m : mg "whole_high" = some (.ref f)) (b : Binds K fd ["data", "place"] []) : Ok P w K mg base C "whole_high" 1 ["data", "place"] (spHigh K) := by
  refine okE F m b scHigh (fun vs H Q E h => ?_) (fun cdv A outer s H vs Q E hr h => ?_)
  · obtain ⟨a, ns, p, rfl, _⟩ := h
    rfl
  · obtain ⟨a, ns, p, rfl, hS, hB, hp, k⟩ := h
    refine ⟨_, pss_one (ps_ret (pe_op op_or (pe_op op_or (pe_op op_or (pe_op op_shl (pe_ix ix_list (pv 0) (pv 1) (fun _ _ => rfl)) pe_int) (pe_op op_shl (pe_ix ix_list (pv 0) (pe_op op_add (pv 1) pe_int) (fun _ _ => rfl)) pe_int))
      (pe_op op_shl (pe_ix ix_list (pv 0) (pe_op op_add (pv 1) pe_int) (fun _ _ => rfl)) pe_int)) (pe_ix ix_list (pv 0) (pe_op op_add (pv 1) pe_int) (fun _ _ => rfl)))), ?_⟩
    refine ⟨_, rfl, _, rfl, a, _, _, _, rfl, rfl, hS, at_ns (j := p) rfl (by omega), _, _, rfl, rfl, pow_byte (bt_at hB _) (by decide), ?_⟩
    refine ⟨_, rfl, _, rfl, _, _, rfl, rfl, a, _, _, _, rfl, rfl, hS, at_ns (j := p + 1) (by omega) (by omega), _, _, rfl, rfl, pow_byte (bt_at hB _) (by decide), _, _, rfl, rfl, ?_⟩
    refine ⟨_, rfl, _, rfl, _, _, rfl, rfl, a, _, _, _, rfl, rfl, hS, at_ns (j := p + 2) (by omega) (by omega), _, _, rfl, rfl, pow_byte (bt_at hB _) (by decide), _, _, rfl, rfl, ?_⟩
    refine ⟨_, rfl, _, rfl, _, _, rfl, rfl, a, _, _, _, rfl, rfl, hS, at_ns (j := p + 3) (by omega) (by omega), _, _, rfl, rfl, ?_⟩
    rw [high4 hB hp] at k
    rw [← or_high (bt_at hB p) (bt_at hB (p + 1)) (bt_at hB (p + 2)) (bt_at hB (p + 3))] at k
    exact k
theorem ok_double {f : Addr} {fd : FuncData} (F : Fun K "double_bits" "double_bits" (top 15) f fd) (m : mg "double_bits" = some (.ref f)) (b : Binds K fd ["data", "place"] []) (GL : Ok P w K mg base C "whole_low" 1 ["data", "place"] (spLow K)) :
    Ok P w K mg base C "double_bits" 2 ["data", "place"] (spDouble K) := by
  refine okE F m b scDouble (fun vs H Q E h => ?_) (fun cdv A outer s H vs Q E hr h => ?_)
  · obtain ⟨a, ns, p, rfl, _⟩ := h
    rfl
  · obtain ⟨a, ns, p, rfl, hS, hB, hp, k⟩ := h
    refine ⟨_, pss_one (ps_ret (pe_op op_or (pn GL hr rfl (pa_cons (pv 0) (pa_cons (pv 1) pa_nil))) (pe_op op_shl (pn GL hr rfl (pa_cons (pv 0) (pa_cons (pe_op op_add (pv 1) pe_int) pa_nil))) pe_int))), ?_⟩
    refine ⟨_, rfl, _, rfl, a, ns, p, rfl, hS, hB, by omega, ?_⟩
    have l1 := low_lt (bytesOf ns) 4 p
    have l2 := low_lt (bytesOf ns) 4 (p + 4)
    refine ⟨_, rfl, _, rfl, _, _, rfl, rfl, a, ns, p + 4, (by rw [Int.natCast_add]; rfl), hS, hB, by omega, _, _, rfl, rfl, ⟨by decide, by decide, by omega⟩, _, _, rfl, rfl, ?_⟩
    rw [low8 (by rw [len_bytes]; exact hp)] at k
    have e := Bits.bitOr_join (a := ((Rc25.low (bytesOf ns) p 4 : Nat) : Int)) (b := ((Rc25.low (bytesOf ns) (p + 4) 4 : Nat) : Int)) (k := 32) (by omega) (by omega) (by omega)
    have e2 : ((Rc25.low (bytesOf ns) p 4 + 2 ^ 32 * Rc25.low (bytesOf ns) (p + 4) 4 : Nat) : Int) = ((Rc25.low (bytesOf ns) p 4 : Nat) : Int) + ((Rc25.low (bytesOf ns) (p + 4) 4 : Nat) : Int) * 2 ^ 32 := by omega
    rw [e2, ← e] at k
    exact k
/-! ### doubles, all_zero -/
/-- a list of bytes stands at a -/
structure Dat (K : PySem.W.Frag) (H : Hp) (a : Addr) (ns : List Int) : Prop where
  sq : SqL K H a (ns.map V.int)
  bt : Bt ns
  le : ns.length ≤ 16000
theorem Dat.same {H H' : Hp} {a : Addr} {ns : List Int} (d : Dat K H a ns) (e : Same H H') : Dat K H' a ns := ⟨e.seq d.sq, d.bt, d.le⟩
theorem fits {n : Nat} (h : n ≤ 100000) : n < sizeLine := Nat.lt_of_le_of_lt h (by decide)
theorem same_upd {H H' : Hp} {q : Addr} {o : HO} (e : Same H H') (h : H q = none) : Same H (upd H' q o) := fun b u z => by
  rw [upd_ne (ne_of_none z h)]
  exact e b u z
def intL (l : List Nat) : List V := l.map fun (n : Nat) => V.int (n : Int)
theorem intL_len (l : List Nat) : (intL l).length = l.length := List.length_map _
theorem intL_eq (l : List Nat) : intL l = (l.map fun (n : Nat) => (n : Int)).map V.int := by unfold intL; rw [List.map_map]; rfl
def spDoubles (K : PySem.W.Frag) : Sp := fun vs H Q _ => ∃ (a : Addr) (ns : List Int) (p m : Nat), vs = [.ref a, .int p, .int m] ∧ Dat K H a ns ∧ p + 8 * m ≤ ns.length ∧
  ∀ (H' : Hp) (d : Addr), Same H H' → H' d = some (.lst (intL (Rc25.doubles (bytesOf ns) p m))) → Q (.ref d) H'
theorem scDoubles : FnScope ["data", "place", "many", "k"] ["data", "place", "many"] (defScope (top 16)) := ⟨rfl, rfl, rfl, by decide +kernel, rfl, by decide +kernel, by decide +kernel⟩
theorem doubles_succ (b : Rc25.Bytes) (p i : Nat) : intL (Rc25.doubles b p (i + 1)) = intL (Rc25.doubles b p i) ++ [.int (Rc25.low b (p + 8 * i) 8)] := by
  unfold intL Rc25.doubles
  rw [List.range_succ, List.map_append, List.map_append]
  rfl
theorem ok_doubles {f : Addr} {fd : FuncData} (F : Fun K "doubles" "doubles" (top 16) f fd) (m : mg "doubles" = some (.ref f)) (b : Binds K fd ["data", "place", "many"] []) (T : Names mg) (GD : Ok P w K mg base C "double_bits" 2 ["data", "place"] (spDouble K)) :
    Ok P w K mg base C "doubles" 3 ["data", "place", "many"] (spDoubles K) := by
  refine okE F m b scDoubles (fun vs H Q E h => ?_) (fun cdv A outer s H vs Q E hr h => ?_)
  · obtain ⟨a, ns, p, m, rfl, _⟩ := h
    rfl
  · obtain ⟨a, ns, p, m, rfl, hD, hp, k⟩ := h
    have hle := hD.le
    refine ⟨_, pss_one (ps_ret (pe_lc rfl scDoubles.nd (pi_range1 rfl T.nRange (pa_cons (pv 2) pa_nil)) (blkOk_by (N := ["data", "place", "many", "k"]) (sc := defScope (top 16)) (own := [("k", 3)]) (by decide +kernel)) (fun _ _ _ _ _ => pg_name (i := 3) scDoubles.nd rfl (Or.inl rfl)) (fun _ _ _ _ _ => pts_nil)
      (fun _ _ _ _ _ => pn GD hr rfl (pa_cons (pv 0) (pa_cons (pe_op op_add (pv 1) (pe_op op_mul pe_int (pv 3))) pa_nil))))), ?_⟩
    refine ⟨_, rfl, m, rfl, by omega, by omega, fun D hD0 => ?_⟩
    refine lc_range (lo := 0) (n := m) (fun i H' => Same H H' ∧ H' D = some (.lst (intL (Rc25.doubles (bytesOf ns) p i)))) ⟨same_upd (Same.refl H) hD0, upd_same⟩ ?_ ?_
    · rintro i H' hi ⟨e, hd⟩
      refine ⟨rfl, ?_⟩
      refine ⟨_, rfl, _, rfl, _, rfl, _, _, rfl, rfl, .inl ⟨by decide, by decide⟩, _, _, rfl, rfl, a, ns, p + 8 * i, ?_, e.seq hD.sq, hD.bt, by omega, _, hd, fits (by rw [intL_len]; unfold Rc25.doubles; rw [List.length_map, List.length_range]; omega), same_upd e hD0, ?_⟩
      · rw [show ((p + 8 * i : Nat) : Int) = (p : Int) + 8 * (0 + (i : Int)) from by omega]
        rfl
      · rw [upd_same, doubles_succ]
    · rintro H' ⟨e, hd⟩
      exact k H' D e hd
theorem cut_ns {ns : List Int} {s e : Nat} (hs : s ≤ e) (he : e ≤ ns.length) : cutV (ns.map V.int) (some (s : Int)) (some (e : Int)) = ((ns.drop s).take (e - s)).map V.int := by
  unfold cutV
  rw [HT.sIx_nat, HT.sIx_nat, List.length_map, Nat.min_eq_left (a := s) (by omega), Nat.min_eq_left he, List.map_take, List.map_drop]
def spZero (K : PySem.W.Frag) : Sp := fun vs H Q _ => ∃ (a : Addr) (ns : List Int) (s e : Nat), vs = [.ref a, .int s, .int e] ∧ SqL K H a (ns.map V.int) ∧ s ≤ e ∧ e ≤ ns.length ∧
  ∀ H', Same H H' → Q (.bl (!(((ns.drop s).take (e - s)).any (· != 0)))) H'
theorem scZero : FnScope ["data", "start", "end"] ["data", "start", "end"] (defScope (top 17)) := ⟨rfl, rfl, rfl, by decide +kernel, rfl, by decide +kernel, by decide +kernel⟩
theorem ok_zero {f : Addr} {fd : FuncData} (F : Fun K "all_zero" "all_zero" (top 17) f fd) (m : mg "all_zero" = some (.ref f)) (b : Binds K fd ["data", "start", "end"] []) (T : Names mg) : Ok P w K mg base C "all_zero" 1 ["data", "start", "end"] (spZero K) := by
  refine okE F m b scZero (fun vs H Q E h => ?_) (fun cdv A outer s H vs Q E hr h => ?_)
  · obtain ⟨a, ns, s, e, rfl, _⟩ := h
    rfl
  · obtain ⟨a, ns, s, e, rfl, hS, h1, h2, k⟩ := h
    refine ⟨_, pss_one (ps_ret (pe_not (pe_callB (cr_anyI rfl) rfl T.nAny boot_any (pa_cons (pe_slice sl_list (pv 0) (po_some (pv 1)) (po_some (pv 2))) pa_nil)))), ?_⟩
    refine ⟨_, rfl, _, rfl, _, rfl, _, rfl, _, rfl, a, _, rfl, hS, fun q hq => ?_⟩
    refine ⟨q, _, rfl, SqL.of (by rw [upd_same, cut_ns h1 h2]), _, rfl, ?_⟩
    exact k _ (same_upd (Same.refl H) hq)
/-! ### is_coordinate -/
def spCoord : Sp := fun vs H Q _ => ∃ n : Nat, n < 2 ^ 64 ∧ vs = [.int n] ∧ Q (.bl (Rc25.coordinate n)) H
theorem scCoord : FnScope ["bits"] ["bits"] (defScope (top 6)) := ⟨rfl, rfl, rfl, by decide +kernel, rfl, by decide +kernel, by decide +kernel⟩
theorem ok_coord {f : Addr} {fd : FuncData} (F : Fun K "is_coordinate" "is_coordinate" (top 6) f fd) (m : mg "is_coordinate" = some (.ref f)) (b : Binds K fd ["bits"] []) (T : Names mg) : Ok P w K mg base C "is_coordinate" 1 ["bits"] spCoord := by
  refine okE F m b scCoord (fun vs H Q E h => ?_) (fun cdv A outer s H vs Q E hr h => ?_)
  · obtain ⟨n, _, rfl, _⟩ := h
    rfl
  · obtain ⟨n, hn, rfl, k⟩ := h
    refine ⟨_, pss_one (ps_ret (pe_and (pe_cmpR op_le (pe_op op_and (pv 0) (pe_op op_sub (pg T.sign rfl) pe_int)) (pg T.farthest rfl) (nomark _)) (pe_one (pe_cmpR op_ne (pv 0) (pg T.sign rfl) (nomark _))))), ?_⟩
    have e1 : Builtin.bitAnd (n : Int) (9223372036854775808 - 1) = ((n % 2 ^ 63 : Nat) : Int) := and_low n 63
    refine ⟨_, rfl, _, _, rfl, rfl, _, _, rfl, rfl, _, _, rfl, rfl, _, rfl, ?_⟩
    rw [coord_iff hn] at k
    refine ite2 (fun h => ?_) (fun h => ?_)
    · refine ⟨_, rfl, rfl, ?_⟩
      simp only [decide_eq_true_eq] at h
      rw [e1] at h
      have e2 : decide (n % 2 ^ 63 ≤ 4787326403894837248) = true := by simp; omega
      rw [e2, Bool.true_and] at k
      have e3 : (!decide (V.int (n : Int) = V.int 9223372036854775808)) = decide (n ≠ 2 ^ 63) := by
        rw [dec_int]
        by_cases z : n = 2 ^ 63
        · subst z; rfl
        · have : ((n : Int) == 9223372036854775808) = false := by simp; omega
          rw [this]
          simp [z]
      rw [e3]
      exact k
    · simp only [decide_eq_true_eq] at h
      rw [e1] at h
      have e2 : decide (n % 2 ^ 63 ≤ 4787326403894837248) = false := by simp; omega
      rw [e2, Bool.false_and] at k
      exact k
end
end Ls
end
section
set_option Elab.async false
set_option linter.all false
set_option maxRecDepth 100000
/-! Points, boxes, rings. -/
namespace Ls
open PySem PySem.Spec PyProof.Rows L2 L3 Ma
open Rc25Neutral (bytesOf)
section
variable {P : Program} {w : World} {K : PySem.W.Frag} {mg : Str → Option Value} {base : Heap} {C : Addr}
theorem take_one {α : Type} {l : List α} {i : Nat} {x : α} (h : l[i]? = some x) : l.take (i + 1) = l.take i ++ [x] := by
  obtain ⟨hi, e⟩ := List.getElem?_eq_some_iff.mp h
  rw [List.take_succ_eq_append_getElem hi, e]
/-! ### points -/
/-- a list's values are the points l, each a pair -/
structure Pts (H : Hp) (vs : List V) (l : List Rc25.Point) : Prop where
  len : vs.length = l.length
  pt : ∀ (i : Nat) (p : Rc25.Point), l[i]? = some p → ∃ t, vs[i]? = some (V.ref t) ∧ H t = some (.tup [.int (p.1 : Nat), .int (p.2 : Nat)])
def PtsAt (H : Hp) (a : Addr) (l : List Rc25.Point) : Prop := ∃ vs, H a = some (.lst vs) ∧ Pts H vs l
theorem Pts.same {H H' : Hp} {vs : List V} {l : List Rc25.Point} (h : Pts H vs l) (e : Same H H') : Pts H' vs l := ⟨h.len, fun i p q => let ⟨t, h1, h2⟩ := h.pt i p q; ⟨t, h1, e _ _ h2⟩⟩
theorem PtsAt.same {H H' : Hp} {a : Addr} {l : List Rc25.Point} (h : PtsAt H a l) (e : Same H H') : PtsAt H' a l := let ⟨vs, h1, h2⟩ := h; ⟨vs, e _ _ h1, h2.same e⟩
/-- bits of numbers -/
def Bits64 (l : List Rc25.Point) : Prop := ∀ p ∈ l, p.1 < 2 ^ 64 ∧ p.2 < 2 ^ 64
/-! ### box_of -/
def spBox : Sp := fun vs H Q _ => ∃ (a : Addr) (l : List Rc25.Point), vs = [.ref a] ∧ PtsAt H a l ∧ Bits64 l ∧ l.length ≤ 16000 ∧ ∀ (H' : Hp) (d : Addr), Same H H' → H' d = some (.lst (intL (Rc25.boxOf l))) → Q (.ref d) H'
theorem scBox : FnScope ["points", "xs", "ys", "point"] ["points"] (defScope (top 8)) := ⟨rfl, rfl, rfl, by decide +kernel, rfl, by decide +kernel, by decide +kernel⟩
theorem intL_at {l : List Nat} {i : Nat} {v : V} (h : (intL l)[i]? = some v) : ∃ n, l[i]? = some n ∧ v = .int (n : Int) := by
  unfold intL at h
  rw [List.getElem?_map] at h
  cases e : l[i]? with
  | none => rw [e] at h; cases h
  | some n => rw [e] at h; exact ⟨n, rfl, (Option.some.inj h).symm⟩
theorem keys_ok {l : List Nat} (hl : ∀ n ∈ l, n < 2 ^ 64) {H : Hp} : ∀ i x, (intL l)[i]? = some x → ∀ R : VK, R (.int (Rc25.worth (l.getD i 0))) H → spExact [x] H R E0 := fun i x h R r => by
  obtain ⟨n, e, rfl⟩ := intL_at h
  have e2 : l.getD i 0 = n := by simp [e]
  rw [e2] at r
  exact ⟨n, hl n (List.mem_of_getElem? e), rfl, r⟩
theorem least_is {l : List Nat} {i : Nat} {x : V} (h : (intL l)[i]? = some x) (hb : ∀ j, j < (intL l).length → Rc25.worth (l.getD i 0) ≤ Rc25.worth (l.getD j 0) ∧ (j < i → Rc25.worth (l.getD i 0) < Rc25.worth (l.getD j 0))) : x = .int (Rc25.leastOf l : Nat) := by
  obtain ⟨n, e, rfl⟩ := intL_at h
  rw [least_eq e fun j w hw => ?_]
  have := hb j (by rw [intL_len]; exact (List.getElem?_eq_some_iff.mp hw).1)
  have e2 : l.getD i 0 = n := by simp [e]
  have e3 : l.getD j 0 = w := by simp [hw]
  rw [e2, e3] at this
  exact this
theorem most_is {l : List Nat} {i : Nat} {x : V} (h : (intL l)[i]? = some x) (hb : ∀ j, j < (intL l).length → Rc25.worth (l.getD j 0) ≤ Rc25.worth (l.getD i 0) ∧ (j < i → Rc25.worth (l.getD j 0) < Rc25.worth (l.getD i 0))) : x = .int (Rc25.mostOf l : Nat) := by
  obtain ⟨n, e, rfl⟩ := intL_at h
  rw [most_eq e fun j w hw => ?_]
  have := hb j (by rw [intL_len]; exact (List.getElem?_eq_some_iff.mp hw).1)
  have e2 : l.getD i 0 = n := by simp [e]
  have e3 : l.getD j 0 = w := by simp [hw]
  rw [e2, e3] at this
  exact this
theorem ok_box {f : Addr} {fd : FuncData} (F : Fun K "box_of" "box_of" (top 8) f fd) (m : mg "box_of" = some (.ref f)) (b : Binds K fd ["points"] []) (T : Names mg) (GE : Ok P w K mg base C "exact" 1 ["bits"] spExact) : Ok P w K mg base C "box_of" 3 ["points"] spBox := by
  obtain ⟨fe, fde, mE, kE, bE, FE⟩ := GE
  refine okE F m b scBox (fun vs H Q E h => ?_) (fun cdv A outer s H vs Q E hr h => ?_)
  · obtain ⟨a, l, rfl, _⟩ := h
    rfl
  · obtain ⟨a, l, rfl, ⟨vs, ha, hP⟩, h64, hle, k⟩ := h
    have hr2 : Room (1 + 1) _ := hr
    have comp : ∀ (j : Nat), True := fun _ => trivial
    refine ⟨_, pss_cons (ps_if (pt_cmpR op_eq (pe_callB call_len_seq rfl T.nLen PySem.boot_len (pa_cons (pv 0) pa_nil)) pe_int (nomark _)) (pss_one (ps_ret (pe_lst (pa_cons pe_int (pa_cons pe_int (pa_cons pe_int (pa_cons pe_int pa_nil))))))) pss_nil)
      (pss_cons (ps_setLc rfl scBox.nd rfl rfl (sw_true rfl rfl rfl rfl) (pi_list (pv 0)) (blkOk_by (N := ["points", "xs", "ys", "point"]) (sc := defScope (top 8)) (own := [("point", 3)]) (by decide +kernel)) (fun _ _ _ _ _ => pg_name (i := 3) scBox.nd rfl (Or.inl rfl)) (fun _ _ _ _ _ => pts_nil) (fun _ _ _ _ _ => pe_ix (r := rIxT K) ix_tup (pv 3) pe_int (fun _ _ => rfl)) (i := 1))
      (pss_cons (ps_setLc rfl scBox.nd rfl rfl (sw_true rfl rfl rfl rfl) (pi_list (pv 0)) (blkOk_by (N := ["points", "xs", "ys", "point"]) (sc := defScope (top 8)) (own := [("point", 3)]) (by decide +kernel)) (fun _ _ _ _ _ => pg_name (i := 3) scBox.nd rfl (Or.inl rfl)) (fun _ _ _ _ _ => pts_nil) (fun _ _ _ _ _ => pe_ix (r := rIxT K) ix_tup (pv 3) pe_int (fun _ _ => rfl)) (i := 2))
      (pss_one (ps_ret (pe_lst (pa_cons (pe_min rfl FE hr2 bE (fun _ => pass_no) rfl T.nMin rfl mE (pa_cons (pv 1) pa_nil)) (pa_cons (pe_min rfl FE hr2 bE (fun _ => pass_no) rfl T.nMin rfl mE (pa_cons (pv 2) pa_nil))
        (pa_cons (pe_max rfl FE hr2 bE (fun _ => pass_no) rfl T.nMax rfl mE (pa_cons (pv 1) pa_nil)) (pa_cons (pe_max rfl FE hr2 bE (fun _ => pass_no) rfl T.nMax rfl mE (pa_cons (pv 2) pa_nil)) pa_nil))))))))), ?_⟩
    refine ⟨_, rfl, a, vs, rfl, .inl (SqL.of ha), rfl, _, rfl, ite2 (fun h0 => ?_) (fun h0 => ?_)⟩
    · -- no points
      refine ⟨by show 4 ≤ sizeLine; decide, fun q hq => ?_⟩
      have e0 : l = [] := by
        rw [dec_int] at h0
        have : ((vs.length : Nat) : Int) = 0 := eq_of_beq h0
        exact List.eq_nil_of_length_eq_zero (by have := hP.len; omega)
      subst e0
      exact k _ q (same_upd (Same.refl H) hq) upd_same
    · have hne : 0 < l.length := by
        have := hP.len
        rw [dec_int] at h0
        have h1 : ¬ ((vs.length : Nat) : Int) = 0 := fun z => h0 (by rw [z]; rfl)
        omega
      -- xs
      refine ⟨_, rfl, a, rfl, ⟨_, SqL.of ha⟩, fun D1 hD1 => ?_⟩
      refine lc_list (K := K) (a := a) (xs := vs) (fun i H' => Same H H' ∧ H' D1 = some (.lst (intL ((l.take i).map fun p => p.1)))) ⟨same_upd (Same.refl H) hD1, upd_same⟩ (fun i H' _ p => SqL.of (p.1 _ _ ha)) ?_ ?_
      · rintro i x H' hx ⟨e, hd⟩
        have hi : i < l.length := by have := (List.getElem?_eq_some_iff.mp hx).1; have := hP.len; omega
        obtain ⟨t, h1, h2⟩ := hP.pt i l[i] (List.getElem?_eq_getElem hi)
        rw [hx] at h1
        cases h1
        refine ⟨rfl, ?_⟩
        refine ⟨_, rfl, t, _, _, _, rfl, rfl, SqT.of (e _ _ h2), atI_nat (j := 0) rfl, _, hd, fits (by rw [intL_len, List.length_map, List.length_take]; omega), same_upd e hD1, ?_⟩
        rw [upd_same, take_one (List.getElem?_eq_getElem hi), List.map_append]
        unfold intL
        rw [List.map_append]
        rfl
      · rintro H1 ⟨e1, hd1⟩
        rw [hP.len, List.take_length] at hd1
        -- ys
        refine ⟨_, rfl, a, rfl, ⟨_, SqL.of (e1 _ _ ha)⟩, fun D2 hD2 => ?_⟩
        refine lc_list (K := K) (a := a) (xs := vs) (fun i H' => Same H1 H' ∧ H' D2 = some (.lst (intL ((l.take i).map fun p => p.2)))) ⟨same_upd (Same.refl H1) hD2, upd_same⟩ (fun i H' _ p => SqL.of (p.1 _ _ (e1 _ _ ha))) ?_ ?_
        · rintro i x H' hx ⟨e, hd⟩
          have hi : i < l.length := by have := (List.getElem?_eq_some_iff.mp hx).1; have := hP.len; omega
          obtain ⟨t, h1, h2⟩ := hP.pt i l[i] (List.getElem?_eq_getElem hi)
          rw [hx] at h1
          cases h1
          refine ⟨rfl, ?_⟩
          refine ⟨_, rfl, t, _, _, _, rfl, rfl, SqT.of (e _ _ (e1 _ _ h2)), atI_nat (j := 1) rfl, _, hd, fits (by rw [intL_len, List.length_map, List.length_take]; omega), same_upd e hD2, ?_⟩
          rw [upd_same, take_one (List.getElem?_eq_getElem hi), List.map_append]
          unfold intL
          rw [List.map_append]
          rfl
        · rintro H2 ⟨e2, hd2⟩
          rw [hP.len, List.take_length] at hd2
          have hd1' := e2 _ _ hd1
          have k1 : ∀ n ∈ (l.map fun (p : Rc25.Point) => p.1), n < 2 ^ 64 := fun n hn => by
            obtain ⟨p, hp, rfl⟩ := List.mem_map.mp hn
            exact (h64 p hp).1
          have k2 : ∀ n ∈ (l.map fun (p : Rc25.Point) => p.2), n < 2 ^ 64 := fun n hn => by
            obtain ⟨p, hp, rfl⟩ := List.mem_map.mp hn
            exact (h64 p hp).2
          refine ⟨_, rfl, D1, _, fun i => Rc25.worth ((l.map fun (p : Rc25.Point) => p.1).getD i 0), rfl, hd1', by rw [intL_len, List.length_map]; exact hne, keys_ok k1, fun i1 x1 hx1 hb1 => ?_⟩
          refine ⟨_, rfl, D2, _, fun i => Rc25.worth ((l.map fun (p : Rc25.Point) => p.2).getD i 0), rfl, hd2, by rw [intL_len, List.length_map]; exact hne, keys_ok k2, fun i2 x2 hx2 hb2 => ?_⟩
          refine ⟨_, rfl, D1, _, fun i => Rc25.worth ((l.map fun (p : Rc25.Point) => p.1).getD i 0), rfl, hd1', by rw [intL_len, List.length_map]; exact hne, keys_ok k1, fun i3 x3 hx3 hb3 => ?_⟩
          refine ⟨_, rfl, D2, _, fun i => Rc25.worth ((l.map fun (p : Rc25.Point) => p.2).getD i 0), rfl, hd2, by rw [intL_len, List.length_map]; exact hne, keys_ok k2, fun i4 x4 hx4 hb4 => ?_⟩
          refine ⟨by show 4 ≤ sizeLine; decide, fun q hq => ?_⟩
          refine k _ q (same_upd (Same.trans e1 e2) ((Same.trans e1 e2).free hq)) ?_
          rw [upd_same, least_is hx1 hb1, least_is hx2 hb2, most_is hx3 hb3, most_is hx4 hb4]
          rfl
/-! ### exact_point -/
/-- the point p, exact, as a pair -/
def XY (H : Hp) (a : Addr) (p : Rc25.Point) : Prop := H a = some (.tup [.int (Rc25.x p), .int (Rc25.y p)])
def spPt (K : PySem.W.Frag) : Sp := fun vs H Q _ => ∃ (a : Addr) (p : Rc25.Point), vs = [.ref a] ∧ SqT K H a [.int (p.1 : Nat), .int (p.2 : Nat)] ∧ p.1 < 2 ^ 64 ∧ p.2 < 2 ^ 64 ∧ ∀ (H' : Hp) (t : Addr), Same H H' → XY H' t p → Q (.ref t) H'
theorem scPt : FnScope ["point"] ["point"] (defScope (top 9)) := ⟨rfl, rfl, rfl, by decide +kernel, rfl, by decide +kernel, by decide +kernel⟩
theorem ok_pt {f : Addr} {fd : FuncData} (F : Fun K "exact_point" "exact_point" (top 9) f fd) (m : mg "exact_point" = some (.ref f)) (b : Binds K fd ["point"] []) (GE : Ok P w K mg base C "exact" 1 ["bits"] spExact) : Ok P w K mg base C "exact_point" 2 ["point"] (spPt K) := by
  refine okE F m b scPt (fun vs H Q E h => ?_) (fun cdv A outer s H vs Q E hr h => ?_)
  · obtain ⟨a, p, rfl, _⟩ := h
    rfl
  · obtain ⟨a, p, rfl, hT, h1, h2, k⟩ := h
    refine ⟨_, pss_one (ps_ret (pe_tup (pa_cons (pn GE hr rfl (pa_cons (pe_ix (r := rIxT K) ix_tup (pv 0) pe_int (fun _ _ => rfl)) pa_nil)) (pa_cons (pn GE hr rfl (pa_cons (pe_ix (r := rIxT K) ix_tup (pv 0) pe_int (fun _ _ => rfl)) pa_nil)) pa_nil)))), ?_⟩
    refine ⟨_, rfl, a, _, _, _, rfl, rfl, hT, atI_nat (j := 0) rfl, p.1, h1, rfl, ?_⟩
    refine ⟨_, rfl, a, _, _, _, rfl, rfl, hT, atI_nat (j := 1) rfl, p.2, h2, rfl, ?_⟩
    exact ⟨by show 2 ≤ sizeLine; decide, fun q hq => k _ q (same_upd (Same.refl H) hq) upd_same⟩
/-! ### ways -/
/-- corners: pairs of exact values -/
structure Cor (H : Hp) (vs : List V) (l : List Rc25.Point) : Prop where
  len : vs.length = l.length
  pt : ∀ (i : Nat) (p : Rc25.Point), l[i]? = some p → ∃ t, vs[i]? = some (V.ref t) ∧ XY H t p
theorem Cor.same {H H' : Hp} {vs : List V} {l : List Rc25.Point} (h : Cor H vs l) (e : Same H H') : Cor H' vs l := ⟨h.len, fun i p q => let ⟨t, h1, h2⟩ := h.pt i p q; ⟨t, h1, e _ _ h2⟩⟩
theorem Cor.snoc {H : Hp} {vs : List V} {l : List Rc25.Point} {p : Rc25.Point} {t : Addr} (h : Cor H vs l) (ht : XY H t p) : Cor H (vs ++ [.ref t]) (l ++ [p]) := by
  refine ⟨by rw [List.length_append, List.length_append, h.len]; rfl, fun i q hq => ?_⟩
  by_cases hi : i < l.length
  · rw [List.getElem?_append_left hi] at hq
    obtain ⟨u, h1, h2⟩ := h.pt i q hq
    exact ⟨u, by rw [List.getElem?_append_left (by rw [h.len]; exact hi)]; exact h1, h2⟩
  · rw [List.getElem?_append_right (by omega)] at hq
    have e : i = l.length := by
      have := (List.getElem?_eq_some_iff.mp hq).1
      simp at this
      omega
    subst e
    rw [Nat.sub_self] at hq
    cases hq
    exact ⟨t, by rw [List.getElem?_append_right (by rw [h.len]; exact Nat.le_refl _), h.len, Nat.sub_self]; rfl, ht⟩
/-- a list's values are ways: pairs of points, exact -/
structure Ways (H : Hp) (vs : List V) (w : List (Rc25.Point × Rc25.Point)) : Prop where
  len : vs.length = w.length
  at_ : ∀ (i : Nat) (s : Rc25.Point × Rc25.Point), w[i]? = some s → ∃ t a b, vs[i]? = some (V.ref t) ∧ H t = some (.tup [.ref a, .ref b]) ∧ XY H a s.1 ∧ XY H b s.2
theorem Ways.same {H H' : Hp} {vs : List V} {w : List (Rc25.Point × Rc25.Point)} (h : Ways H vs w) (e : Same H H') : Ways H' vs w := ⟨h.len, fun i s q => let ⟨t, a, b, h1, h2, h3, h4⟩ := h.at_ i s q; ⟨t, a, b, h1, e _ _ h2, e _ _ h3, e _ _ h4⟩⟩
theorem worth_abs {n : Nat} (h : Rc25.coordinate n = true) : (Rc25.worth n).natAbs < 2 ^ 1115 := by
  have := size_lt h
  have e : (Rc25.worth n).natAbs = size n := by
    rw [worth_eq]
    split <;> omega
  rw [e]
  exact Nat.lt_of_le_of_lt this (Nat.pow_lt_pow_right (by decide) (by omega))
theorem good_at {l : List Rc25.Point} (h : Rc25.good l = true) {i : Nat} {p : Rc25.Point} (hp : l[i]? = some p) : Rc25.coordinate p.1 = true ∧ Rc25.coordinate p.2 = true := by
  have := List.all_eq_true.mp h p (List.mem_of_getElem? hp)
  rwa [Bool.and_eq_true] at this
theorem way_at {l : List Rc25.Point} {i : Nat} {s : Rc25.Point × Rc25.Point} (h : (Ma.ways l)[i]? = some s) : l[i]? = some s.1 ∧ l[i + 1]? = some s.2 := by
  unfold Ma.ways at h
  rw [List.getElem?_zip_eq_some] at h
  refine ⟨h.1, ?_⟩
  have := h.2
  rw [List.getElem?_drop, Nat.add_comm] at this
  exact this
theorem cut_from {xs : List V} (s : Nat) : cutV xs (some (s : Int)) none = xs.drop s := by
  unfold cutV
  rw [HT.sIx_nat, HT.sIx_none]
  by_cases h : s ≤ xs.length
  · rw [Nat.min_eq_left h, List.take_of_length_le (by rw [List.length_drop]; omega)]
  · rw [Nat.min_eq_right (by omega), List.drop_eq_nil_of_le (by omega), List.drop_eq_nil_of_le (by omega)]
    simp
def spWays : Sp := fun vs H Q _ => ∃ (a : Addr) (l : List Rc25.Point), vs = [.ref a] ∧ PtsAt H a l ∧ Bits64 l ∧ l.length ≤ 16000 ∧ ∀ (H' : Hp) (d : Addr) (ws : List V), Same H H' → H' d = some (.lst ws) → Ways H' ws (Ma.ways l) → Q (.ref d) H'
theorem scWays : FnScope ["points", "ends", "point"] ["points"] (defScope (top 10)) := ⟨rfl, rfl, rfl, by decide +kernel, rfl, by decide +kernel, by decide +kernel⟩
theorem ok_ways {f : Addr} {fd : FuncData} (F : Fun K "ways" "ways" (top 10) f fd) (m : mg "ways" = some (.ref f)) (b : Binds K fd ["points"] []) (T : Names mg) (GP : Ok P w K mg base C "exact_point" 2 ["point"] (spPt K)) : Ok P w K mg base C "ways" 3 ["points"] spWays := by
  refine okE F m b scWays (fun vs H Q E h => ?_) (fun cdv A outer s H vs Q E hr h => ?_)
  · obtain ⟨a, l, rfl, _⟩ := h
    rfl
  · obtain ⟨a, l, rfl, ⟨vs, ha, hP⟩, h64, hle, k⟩ := h
    refine ⟨_, pss_cons (ps_setLc rfl scWays.nd rfl rfl (sw_true rfl rfl rfl rfl) (pi_list (pv 0)) (blkOk_by (N := ["points", "ends", "point"]) (sc := defScope (top 10)) (own := [("point", 2)]) (by decide +kernel)) (fun _ _ _ _ _ => pg_name (i := 2) scWays.nd rfl (Or.inl rfl)) (fun _ _ _ _ _ => pts_nil)
        (fun _ _ _ _ _ => pn GP hr rfl (pa_cons (pv 2) pa_nil)) (i := 1))
      (pss_one (ps_ret (pe_listZip rfl rfl T.nList rfl T.nZip (pa_cons (pv 1) (pa_cons (pe_slice sl_list (pv 1) (po_some pe_int) po_none) pa_nil))))), ?_⟩
    refine ⟨_, rfl, a, rfl, ⟨_, SqL.of ha⟩, fun D1 hD1 => ?_⟩
    refine lc_list (K := K) (a := a) (xs := vs) (fun i H' => Same H H' ∧ ∃ cs, H' D1 = some (.lst cs) ∧ Cor H' cs (l.take i)) ⟨same_upd (Same.refl H) hD1, [], upd_same, ⟨rfl, fun i p q => by simp at q⟩⟩ (fun i H' _ p => SqL.of (p.1 _ _ ha)) ?_ ?_
    · rintro i x H' hx ⟨e, cs, hd, hC⟩
      have hi : i < l.length := by have := (List.getElem?_eq_some_iff.mp hx).1; have := hP.len; omega
      obtain ⟨t, h1, h2⟩ := hP.pt i l[i] (List.getElem?_eq_getElem hi)
      rw [hx] at h1
      cases h1
      have h64i := h64 l[i] (List.getElem_mem hi)
      refine ⟨rfl, ?_⟩
      refine ⟨_, rfl, t, l[i], rfl, SqT.of (e _ _ h2), h64i.1, h64i.2, fun H2 u e2 hu => ?_⟩
      refine ⟨cs, e2 _ _ hd, fits (by rw [hC.len, List.length_take]; omega), same_upd (e.trans e2) hD1, _, upd_same, ?_⟩
      rw [take_one (List.getElem?_eq_getElem hi)]
      have hd2 := e2 _ _ hd
      have hC2 : Cor (upd H2 D1 (.lst (cs ++ [.ref u]))) cs (l.take i) := ⟨hC.len, fun j p hp => by
        obtain ⟨v, g1, g2⟩ := hC.pt j p hp
        refine ⟨v, g1, ?_⟩
        unfold XY
        rw [upd_ne (ne_of (e2 _ _ g2) hd2 (by intro z; cases z))]
        exact e2 _ _ g2⟩
      refine hC2.snoc ?_
      unfold XY
      rw [upd_ne (ne_of hu hd2 (by intro z; cases z))]
      exact hu
    · rintro H1 ⟨e1, cs, hd1, hC⟩
      rw [hP.len, List.take_length] at hC
      refine ⟨_, rfl, _, rfl, _, rfl, D1, _, rfl, SqL.of hd1, fun D2 hD2 => ?_⟩
      have ec : cutV cs (some (1 : Int)) none = cs.drop 1 := cut_from 1
      rw [ec]
      have e2 : Same H1 (upd H1 D2 (.lst (cs.drop 1))) := same_upd (Same.refl H1) hD2
      refine ⟨D1, D2, cs, cs.drop 1, rfl, SqL.of (e2 _ _ hd1), SqL.of upd_same, fun H3 L ts e3 nL hL hlen hts => ?_⟩
      refine k H3 L (ts.map V.ref) (e1.trans (e2.trans e3)) hL ⟨?_, fun i s hs => ?_⟩
      · rw [List.length_map, hlen, List.length_drop, hC.len, Ma.ways_len]
        omega
      · obtain ⟨q1, q2⟩ := way_at hs
        obtain ⟨u, g1, g2⟩ := hC.pt i s.1 q1
        obtain ⟨v, g3, g4⟩ := hC.pt (i + 1) s.2 q2
        have hi : i < ts.length := by
          have := (List.getElem?_eq_some_iff.mp q2).1
          rw [hlen, List.length_drop, hC.len]
          omega
        have e4 := e2.trans e3
        exact ⟨ts[i], u, v, by rw [List.getElem?_map, List.getElem?_eq_getElem hi]; rfl, hts i ts[i] _ _ (List.getElem?_eq_getElem hi) g1 (by rw [List.getElem?_drop, Nat.add_comm]; exact g3), e4 _ _ g2, e4 _ _ g4⟩
/-! ### goes_round -/
def spRound (K : PySem.W.Frag) : Sp := fun vs H Q _ => ∃ (a : Addr) (l : List Rc25.Point), vs = [.ref a] ∧ PtsAt H a l ∧ Bits64 l ∧ Rc25.good l = true ∧ l.length ≤ 16000 ∧ ∀ H', Same H H' → Q (.int (Rc25.around l)) H'
theorem scRound : FnScope ["ring", "start", "end"] ["ring"] (defScope (top 11)) := ⟨rfl, rfl, rfl, by decide +kernel, rfl, by decide +kernel, by decide +kernel⟩
theorem ok_round {f : Addr} {fd : FuncData} (F : Fun K "goes_round" "goes_round" (top 11) f fd) (m : mg "goes_round" = some (.ref f)) (b : Binds K fd ["ring"] []) (T : Names mg) (GW : Ok P w K mg base C "ways" 3 ["points"] spWays) : Ok P w K mg base C "goes_round" 4 ["ring"] (spRound K) := by
  refine okE F m b scRound (fun vs H Q E h => ?_) (fun cdv A outer s H vs Q E hr h => ?_)
  · obtain ⟨a, l, rfl, _⟩ := h
    rfl
  · obtain ⟨a, l, rfl, hPts, h64, hg, hle, k⟩ := h
    refine ⟨_, pss_one (ps_ret (pe_callB (cr_sum rfl) rfl T.nSum boot_sum (pa_cons (pe_lc (g := gTup K 2 (gCons (gName 1) (gCons (gName 2) gNil))) rfl scRound.nd (pi_list (pn GW hr rfl (pa_cons (pv 0) pa_nil))) (blkOk_by (N := ["ring", "start", "end"]) (sc := defScope (top 11)) (own := [("start", 1), ("end", 2)]) (by decide +kernel))
        (fun _ _ _ _ _ => pg_tup rfl (pgs_cons (pg_name (i := 1) scRound.nd rfl (Or.inl rfl)) (pgs_cons (pg_name (i := 2) scRound.nd rfl (Or.inl rfl)) pgs_nil))) (fun _ _ _ _ _ => pts_nil)
        (fun _ _ _ _ _ => pe_op op_sub (pe_op op_mulB (pe_ix (r := rIxT K) ix_tup (pv 1) pe_int (fun _ _ => rfl)) (pe_ix (r := rIxT K) ix_tup (pv 2) pe_int (fun _ _ => rfl))) (pe_op op_mulB (pe_ix (r := rIxT K) ix_tup (pv 2) pe_int (fun _ _ => rfl)) (pe_ix (r := rIxT K) ix_tup (pv 1) pe_int (fun _ _ => rfl))))) pa_nil))), ?_⟩
    refine ⟨_, rfl, a, l, rfl, hPts, h64, hle, fun H1 d ws e1 hd hW => ?_⟩
    refine ⟨d, rfl, ⟨_, SqL.of hd⟩, fun D hD => ?_⟩
    refine lc_list (K := K) (a := d) (xs := ws) (fun i H' => Same H1 H' ∧ H' D = some (.lst ((((Ma.ways l).take i).map fun s => Rc25.x s.1 * Rc25.y s.2 - Rc25.x s.2 * Rc25.y s.1).map V.int))) ⟨same_upd (Same.refl _) hD, upd_same⟩ (fun i H' _ p => SqL.of (p.1 _ _ hd)) ?_ ?_
    · rintro i x H' hx ⟨e, hd'⟩
      have hi : i < (Ma.ways l).length := by have := (List.getElem?_eq_some_iff.mp hx).1; have := hW.len; omega
      have hs := List.getElem?_eq_getElem hi
      generalize (Ma.ways l)[i] = s at hs
      obtain ⟨t, u, v, g1, g2, g3, g4⟩ := (hW.same e).at_ i s hs
      rw [hx] at g1
      cases g1
      obtain ⟨q1, q2⟩ := way_at hs
      have k1 := good_at hg q1
      have k2 := good_at hg q2
      refine ⟨t, _, rfl, SqT.of g2, rfl, _, _, rfl, _, _, rfl, rfl, rfl, ?_⟩
      refine ⟨_, rfl, u, _, _, _, rfl, rfl, SqT.of g3, atI_nat (j := 0) rfl, _, rfl, v, _, _, _, rfl, rfl, SqT.of g4, atI_nat (j := 1) rfl, _, _, rfl, rfl, mul_ok (worth_abs k1.1) (worth_abs k2.2) (by decide), ?_⟩
      refine ⟨_, rfl, v, _, _, _, rfl, rfl, SqT.of g4, atI_nat (j := 0) rfl, _, rfl, u, _, _, _, rfl, rfl, SqT.of g3, atI_nat (j := 1) rfl, _, _, rfl, rfl, mul_ok (worth_abs k2.1) (worth_abs k1.2) (by decide), _, _, rfl, rfl, ?_⟩
      refine ⟨_, hd', fits (by rw [List.length_map, List.length_map, List.length_take, Ma.ways_len]; omega), same_upd e hD, ?_⟩
      rw [upd_same, take_one hs, List.map_append, List.map_append]
      rfl
    · rintro H' ⟨e, hd'⟩
      rw [hW.len, List.take_length] at hd'
      refine ⟨D, _, rfl, SqL.of hd', ?_⟩
      exact k H' (e1.trans e)
end
end Ls
end
section
set_option Elab.async false
set_option linter.all false
set_option maxRecDepth 100000
/-! Reading: points, parts. -/
namespace Ls
open PySem PySem.Spec PyProof.Rows L2 L3 Ma
open Rc25Neutral (bytesOf)
section
variable {P : Program} {w : World} {K : PySem.W.Frag} {mg : Str → Option Value} {base : Heap} {C : Addr}
/-! ### require -/
def spReq (C : Addr) : Sp := fun vs H Q E => ∃ c : Bool, vs = [.bl c] ∧ (if c = true then Q .non H else E (.ref C) none H)
theorem scReq : FnScope ["holds"] ["holds"] (defScope (top 33)) := ⟨rfl, rfl, rfl, by decide +kernel, rfl, by decide +kernel, by decide +kernel⟩
abbrev excMro : List Value := [.type "Exception", .type "BaseException", .type "object"]
theorem ok_req {f : Addr} {fd : FuncData} (F : Fun K "require" "require" (top 33) f fd) (m : mg "require" = some (.ref f)) (b : Binds K fd ["holds"] []) (O : OwnCls "NotAFile" C excMro "Exception.__new__" mg base) : Ok P w K mg base C "require" 1 ["holds"] (spReq C) := by
  refine okE F m b scReq (fun vs H Q E h => ?_) (fun cdv A outer s H vs Q E hr h => ?_)
  · obtain ⟨c, rfl, _⟩ := h
    rfl
  · obtain ⟨c, rfl, k⟩ := h
    refine ⟨_, pss_one (ps_if (pt_not (pt_truth (pv 0) (fun _ => rfl))) (pss_one (ps_raise rfl O PySem.F.excBase_Exception rfl raises_cx)) pss_nil), ?_⟩
    refine ⟨_, rfl, c, rfl, ?_⟩
    cases c with
    | true => exact iteF k
    | false => exact iteT k
/-! ### read_points -/
theorem dbl_at {b : Rc25.Bytes} {p n j : Nat} (h : j < n) : (Rc25.doubles b p n)[j]? = some (Rc25.low b (p + 8 * j) 8) := by
  unfold Rc25.doubles
  rw [List.getElem?_map, List.getElem?_range h]
  rfl
theorem pts_at {b : Rc25.Bytes} {p n j : Nat} (h : j < n) : (Rc25.points b p n)[j]? = some (Rc25.low b (p + 16 * j) 8, Rc25.low b (p + 16 * j + 8) 8) := by
  unfold Rc25.points
  rw [List.getElem?_map, List.getElem?_range h]
  rfl
theorem dbl_len (b : Rc25.Bytes) (p n : Nat) : (Rc25.doubles b p n).length = n := by unfold Rc25.doubles; rw [List.length_map, List.length_range]
theorem good_all {b : Rc25.Bytes} {p m : Nat} (h : ∀ (j n : Nat), (Rc25.doubles b p (2 * m))[j]? = some n → Rc25.coordinate n = true) : Rc25.good (Rc25.points b p m) = true := by
  unfold Rc25.good
  rw [List.all_eq_true]
  intro q hq
  obtain ⟨j, hj⟩ := List.mem_iff_getElem?.mp hq
  have hlt : j < m := by have := (List.getElem?_eq_some_iff.mp hj).1; rw [points_len] at this; exact this
  rw [pts_at hlt] at hj
  cases hj
  rw [Bool.and_eq_true]
  have h1 := h (2 * j) _ (dbl_at (by omega))
  have h2 := h (2 * j + 1) _ (dbl_at (by omega))
  rw [show p + 8 * (2 * j) = p + 16 * j by omega] at h1
  rw [show p + 8 * (2 * j + 1) = p + 16 * j + 8 by omega] at h2
  exact ⟨h1, h2⟩
theorem bad_one {b : Rc25.Bytes} {p m j n : Nat} (hj : (Rc25.doubles b p (2 * m))[j]? = some n) (h : Rc25.coordinate n = false) : Rc25.good (Rc25.points b p m) = false := by
  cases e : Rc25.good (Rc25.points b p m) with
  | false => rfl
  | true =>
    exfalso
    have hlt : j < 2 * m := by have := (List.getElem?_eq_some_iff.mp hj).1; rw [dbl_len] at this; exact this
    rw [dbl_at hlt] at hj
    cases hj
    obtain ⟨g1, g2⟩ := good_at e (pts_at (b := b) (p := p) (n := m) (j := j / 2) (by omega))
    by_cases z : j % 2 = 0
    · rw [show p + 16 * (j / 2) = p + 8 * j by omega, h] at g1
      cases g1
    · rw [show p + 16 * (j / 2) + 8 = p + 8 * j by omega, h] at g2
      cases g2
theorem Pts.snoc {H : Hp} {vs : List V} {l : List Rc25.Point} {p : Rc25.Point} {t : Addr} (h : Pts H vs l) (ht : H t = some (.tup [.int (p.1 : Nat), .int (p.2 : Nat)])) : Pts H (vs ++ [.ref t]) (l ++ [p]) := by
  refine ⟨by rw [List.length_append, List.length_append, h.len]; rfl, fun i q hq => ?_⟩
  by_cases hi : i < l.length
  · rw [List.getElem?_append_left hi] at hq
    obtain ⟨u, h1, h2⟩ := h.pt i q hq
    exact ⟨u, by rw [List.getElem?_append_left (by rw [h.len]; exact hi)]; exact h1, h2⟩
  · rw [List.getElem?_append_right (by omega)] at hq
    have e : i = l.length := by
      have := (List.getElem?_eq_some_iff.mp hq).1
      simp at this
      omega
    subst e
    rw [Nat.sub_self] at hq
    cases hq
    exact ⟨t, by rw [List.getElem?_append_right (by rw [h.len]; exact Nat.le_refl _), h.len, Nat.sub_self]; rfl, ht⟩
theorem intL_get {l : List Nat} {j n : Nat} (h : l[j]? = some n) : (intL l)[j]? = some (.int (n : Int)) := by unfold intL; rw [List.getElem?_map, h]; rfl
def spRdPts (K : PySem.W.Frag) (C : Addr) : Sp := fun vs H Q E => ∃ (a : Addr) (ns : List Int) (p m : Nat), vs = [.ref a, .int p, .int m] ∧ Dat K H a ns ∧ p + 16 * m ≤ ns.length ∧
  (Rc25.good (Rc25.points (bytesOf ns) p m) = false → ∀ H', Same H H' → E (.ref C) none H') ∧
  (Rc25.good (Rc25.points (bytesOf ns) p m) = true → ∀ (H' : Hp) (d : Addr), Same H H' → PtsAt H' d (Rc25.points (bytesOf ns) p m) → Q (.ref d) H')
theorem scRdPts : FnScope ["content", "place", "many", "numbers", "bits", "k"] ["content", "place", "many"] (defScope (top 41)) := ⟨rfl, rfl, rfl, by decide +kernel, rfl, by decide +kernel, by decide +kernel⟩
theorem ok_rdPts {f : Addr} {fd : FuncData} (F : Fun K "read_points" "read_points" (top 41) f fd) (m : mg "read_points" = some (.ref f)) (b : Binds K fd ["content", "place", "many"] []) (T : Names mg) (GD : Ok P w K mg base C "doubles" 3 ["data", "place", "many"] (spDoubles K))
    (GC : Ok P w K mg base C "is_coordinate" 1 ["bits"] spCoord) (GR : Ok P w K mg base C "require" 1 ["holds"] (spReq C)) : Ok P w K mg base C "read_points" 4 ["content", "place", "many"] (spRdPts K C) := by
  refine okE F m b scRdPts (fun vs H Q E h => ?_) (fun cdv A outer s H vs Q E hr h => ?_)
  · obtain ⟨a, ns, p, m, rfl, _⟩ := h
    rfl
  · obtain ⟨a, ns, p, m, rfl, hD, hp, kE, kQ⟩ := h
    have hle := hD.le
    have hr1 : Room 1 _ := hr.mono (by decide)
    refine ⟨_, pss_cons (ps_set (i := 3) scRdPts.nd rfl (Or.inr rfl) (pn GD hr rfl (pa_cons (pv 0) (pa_cons (pv 1) (pa_cons (pe_op op_mul pe_int (pv 2)) pa_nil)))))
      (pss_cons (ps_for own_cx rfl (pi_list (pv 3)) (pg_name (i := 4) scRdPts.nd rfl (Or.inl rfl)) (pss_one (ps_expr (pf GR hr1 rfl pass_cx (pa_cons (pn GC hr1 rfl (pa_cons (pv 4) pa_nil)) pa_nil)))))
      (pss_one (ps_ret (pe_lc rfl scRdPts.nd (pi_range1 rfl T.nRange (pa_cons (pv 2) pa_nil)) (blkOk_by (N := ["content", "place", "many", "numbers", "bits", "k"]) (sc := defScope (top 41)) (own := [("k", 5)]) (by decide +kernel)) (fun _ _ _ _ _ => pg_name (i := 5) scRdPts.nd rfl (Or.inl rfl)) (fun _ _ _ _ _ => pts_nil)
        (fun _ _ _ _ _ => pe_tup (pa_cons (pe_ix (r := rIxL K) ix_list (pv 3) (pe_op op_mul pe_int (pv 5)) (fun _ _ => rfl)) (pa_cons (pe_ix (r := rIxL K) ix_list (pv 3) (pe_op op_add (pe_op op_mul pe_int (pv 5)) pe_int) (fun _ _ => rfl)) pa_nil))))))), ?_⟩
    refine ⟨_, rfl, _, rfl, _, rfl, _, _, rfl, rfl, .inl ⟨by decide, by decide⟩, a, ns, p, 2 * m, (by rw [show ((2 * m : Nat) : Int) = 2 * (m : Int) from by omega]; rfl), hD, by omega, fun H1 d e1 hd => ?_⟩
    refine ⟨_, rfl, d, rfl, ⟨_, SqL.of hd⟩, for_list (K := K) (a := d) (xs := intL (Rc25.doubles (bytesOf ns) p (2 * m)))
      (fun i σ H' => ∃ v, σ = [some (.ref a), some (.int p), some (.int m), some (.ref d), v, none] ∧ H' = H1 ∧ ∀ j n, j < i → (Rc25.doubles (bytesOf ns) p (2 * m))[j]? = some n → Rc25.coordinate n = true)
      ⟨none, rfl, rfl, fun j n z => absurd z (Nat.not_lt_zero _)⟩ (fun i σ H' _ q => by obtain ⟨_, _, rfl, _⟩ := q; exact SqL.of hd) ?_ ?_⟩
    · rintro i y σ H' hy ⟨v, rfl, rfl, hall⟩
      obtain ⟨n, hn, rfl⟩ := intL_at hy
      have hlt : i < 2 * m := by have := (List.getElem?_eq_some_iff.mp hn).1; rw [dbl_len] at this; exact this
      have h64 : n < 2 ^ 64 := by
        rw [dbl_at hlt] at hn
        cases hn
        have := low_lt (bytesOf ns) 8 (p + 8 * i)
        omega
      refine ⟨_, rfl, n, h64, rfl, _, rfl, ?_⟩
      cases hc : Rc25.coordinate n with
      | false => exact iteF (kE (bad_one hn hc) _ e1)
      | true =>
        refine iteT ⟨_, rfl, rfl, fun j n' hj hn' => ?_⟩
        by_cases z : j = i
        · subst z
          rw [hn] at hn'
          cases hn'
          exact hc
        · exact hall j n' (by omega) hn'
    · rintro σ Hx ⟨v, rfl, rfl, hall⟩
      have hgood : Rc25.good (Rc25.points (bytesOf ns) p m) = true := good_all fun j n hn => hall j n (by have := (List.getElem?_eq_some_iff.mp hn).1; rw [intL_len]; exact this) hn
      refine ⟨_, rfl, m, rfl, by omega, by omega, fun D hD0 => ?_⟩
      refine lc_range (lo := 0) (n := m) (fun i H' => Same Hx H' ∧ ∃ vs, H' D = some (.lst vs) ∧ Pts H' vs ((Rc25.points (bytesOf ns) p m).take i)) ⟨same_upd (Same.refl Hx) hD0, [], upd_same, ⟨rfl, fun i p q => by simp at q⟩⟩ ?_ ?_
      · rintro i H' hi ⟨e, vs, hvs, hP⟩
        refine ⟨rfl, ?_⟩
        refine ⟨_, rfl, _, rfl, _, _, rfl, rfl, .inl ⟨by decide, by decide⟩, d, _, _, _, rfl, rfl, SqL.of (e _ _ hd), at_of (j := 2 * i) (by omega) (intL_get (dbl_at (n := 2 * m) (by omega))), ?_⟩
        refine ⟨_, rfl, _, rfl, _, _, rfl, rfl, .inl ⟨by decide, by decide⟩, _, _, rfl, rfl, d, _, _, _, rfl, rfl, SqL.of (e _ _ hd), at_of (j := 2 * i + 1) (by omega) (intL_get (dbl_at (n := 2 * m) (by omega))), ?_⟩
        refine ⟨by show 2 ≤ sizeLine; decide, fun q hq => ?_⟩
        have nq : D ≠ q := ne_of_none hvs hq
        refine ⟨vs, by rw [upd_ne nq]; exact hvs, fits (by rw [hP.len, List.length_take, points_len]; omega), same_upd (same_upd e (e.free hq)) hD0, _, upd_same, ?_⟩
        rw [take_one (pts_at hi)]
        have hP2 : Pts (upd (upd H' q (.tup [.int (Rc25.low (bytesOf ns) (p + 8 * (2 * i)) 8 : Nat), .int (Rc25.low (bytesOf ns) (p + 8 * (2 * i + 1)) 8 : Nat)])) D (.lst (vs ++ [.ref q]))) vs ((Rc25.points (bytesOf ns) p m).take i) := ⟨hP.len, fun j p hp => by
          obtain ⟨u, g1, g2⟩ := hP.pt j p hp
          refine ⟨u, g1, ?_⟩
          rw [upd_ne (ne_of g2 hvs (by intro z; cases z)), upd_ne (ne_of_none g2 hq)]
          exact g2⟩
        refine hP2.snoc ?_
        rw [upd_ne (Ne.symm nq), upd_same, show p + 8 * (2 * i) = p + 16 * i by omega, show p + 8 * (2 * i + 1) = p + 16 * i + 8 by omega]
      · rintro H2 ⟨e, vs, hvs, hP⟩
        rw [List.take_of_length_le (by rw [points_len]; exact Nat.le_refl _)] at hP
        exact kQ hgood H2 D (e1.trans e) ⟨vs, hvs, hP⟩
/-! ### cut -/
/-- a list's values are the parts ps, each a list of points -/
structure PartsL (H : Hp) (vs : List V) (ps : List (List Rc25.Point)) : Prop where
  len : vs.length = ps.length
  at_ : ∀ (i : Nat) (l : List Rc25.Point), ps[i]? = some l → ∃ a, vs[i]? = some (V.ref a) ∧ PtsAt H a l
def PartsAt (H : Hp) (a : Addr) (ps : List (List Rc25.Point)) : Prop := ∃ vs, H a = some (.lst vs) ∧ PartsL H vs ps
theorem PartsL.same {H H' : Hp} {vs : List V} {ps : List (List Rc25.Point)} (h : PartsL H vs ps) (e : Same H H') : PartsL H' vs ps := ⟨h.len, fun i p q => let ⟨t, h1, h2⟩ := h.at_ i p q; ⟨t, h1, h2.same e⟩⟩
theorem PartsAt.same {H H' : Hp} {a : Addr} {l : List (List Rc25.Point)} (h : PartsAt H a l) (e : Same H H') : PartsAt H' a l := let ⟨vs, h1, h2⟩ := h; ⟨vs, e _ _ h1, h2.same e⟩
theorem PartsL.snoc {H : Hp} {vs : List V} {ps : List (List Rc25.Point)} {l : List Rc25.Point} {a : Addr} (h : PartsL H vs ps) (ha : PtsAt H a l) : PartsL H (vs ++ [.ref a]) (ps ++ [l]) := by
  refine ⟨by rw [List.length_append, List.length_append, h.len]; rfl, fun i q hq => ?_⟩
  by_cases hi : i < ps.length
  · rw [List.getElem?_append_left hi] at hq
    obtain ⟨u, h1, h2⟩ := h.at_ i q hq
    exact ⟨u, by rw [List.getElem?_append_left (by rw [h.len]; exact hi)]; exact h1, h2⟩
  · rw [List.getElem?_append_right (by omega)] at hq
    have e : i = ps.length := by
      have := (List.getElem?_eq_some_iff.mp hq).1
      simp at this
      omega
    subst e
    rw [Nat.sub_self] at hq
    cases hq
    exact ⟨a, by rw [List.getElem?_append_right (by rw [h.len]; exact Nat.le_refl _), h.len, Nat.sub_self]; rfl, ha⟩
/-- all that was tracked but the list at d is as it was; what leans on it stays -/
def Keep (d : Addr) (H H' : Hp) : Prop := ∀ b o, H b = some o → b ≠ d → H' b = some o
theorem Keep.refl (d : Addr) (H : Hp) : Keep d H H := fun _ _ h _ => h
theorem Keep.trans {d : Addr} {H H1 H2 : Hp} (a : Keep d H H1) (b : Keep d H1 H2) : Keep d H H2 := fun c o h n => b c o (a c o h n) n
theorem Keep.new {d q : Addr} {H H' : Hp} {o : HO} (e : Keep d H H') (h : H' q = none) : Keep d H (upd H' q o) := fun b u z n => by
  have := e b u z n
  rw [upd_ne (ne_of_none this h)]
  exact this
theorem Keep.put {d : Addr} {H H' : Hp} {o : HO} (e : Keep d H H') : Keep d H (upd H' d o) := fun b u z n => by
  rw [upd_ne n]
  exact e b u z n
theorem Keep.same {d : Addr} {H0 H H' : Hp} (e : Keep d H H') (s : Same H0 H) (h : H0 d = none) : Same H0 H' := fun b o z => e b o (s b o z) (ne_of_none z h)
theorem PtsAt.keep {H H' : Hp} {d a : Addr} {l : List Rc25.Point} (h : PtsAt H a l) (e : Keep d H H') (n : a ≠ d) (hd : ∃ vs, H d = some (.lst vs)) : PtsAt H' a l := by
  obtain ⟨vs, h1, h2⟩ := h
  obtain ⟨ws, hd⟩ := hd
  exact ⟨vs, e _ _ h1 n, h2.len, fun i p q => let ⟨t, g1, g2⟩ := h2.pt i p q; ⟨t, g1, e _ _ g2 (ne_of g2 hd (by intro z; cases z))⟩⟩
theorem Pts.slice {H : Hp} {vs : List V} {l : List Rc25.Point} (h : Pts H vs l) (i n : Nat) : Pts H ((vs.drop i).take n) ((l.drop i).take n) := by
  refine ⟨by rw [List.length_take, List.length_take, List.length_drop, List.length_drop, h.len], fun j p hp => ?_⟩
  rw [List.getElem?_take] at hp
  split at hp
  · rename_i hj
    rw [List.getElem?_drop] at hp
    obtain ⟨t, h1, h2⟩ := h.pt (i + j) p hp
    exact ⟨t, by rw [List.getElem?_take, if_pos hj, List.getElem?_drop]; exact h1, h2⟩
  · cases hp
theorem cut_vs {vs : List V} {s e : Nat} (hs : s ≤ e) : cutV vs (some (s : Int)) (some (e : Int)) = (vs.drop s).take (e - s) := by
  unfold cutV
  rw [HT.sIx_nat, HT.sIx_nat]
  by_cases h : s ≤ vs.length
  · rw [Nat.min_eq_left h]
    by_cases h2 : e ≤ vs.length
    · rw [Nat.min_eq_left h2]
    · rw [Nat.min_eq_right (by omega), List.take_of_length_le (by rw [List.length_drop]; exact Nat.le_refl _), List.take_of_length_le (by rw [List.length_drop]; omega)]
  · rw [Nat.min_eq_right (a := s) (by omega), List.drop_eq_nil_of_le (Nat.le_refl _), List.drop_eq_nil_of_le (by omega)]
    simp
def rise (st : List Nat) (n : Nat) : Bool := (st.zip (st.drop 1 ++ [n])).all fun s => decide (s.1 < s.2)
def spCut (K : PySem.W.Frag) (C : Addr) : Sp := fun vs H Q E => ∃ (a q : Addr) (ps : List Rc25.Point) (st : List Nat), vs = [.ref a, .ref q] ∧ PtsAt H a ps ∧ H q = some (.lst (intL st)) ∧ 0 < st.length ∧ st.length ≤ 16000 ∧ ps.length ≤ 16000 ∧
  (¬ (st.head? = some 0 ∧ rise st ps.length = true) → ∀ H', Same H H' → E (.ref C) none H') ∧
  (st.head? = some 0 ∧ rise st ps.length = true → ∀ (H' : Hp) (d : Addr), Same H H' → PartsAt H' d (Rc25.cut ps st) → Q (.ref d) H')
theorem scCut : FnScope ["points", "places", "parts", "start", "end"] ["points", "places"] (defScope (top 42)) := ⟨rfl, rfl, rfl, by decide +kernel, rfl, by decide +kernel, by decide +kernel⟩
theorem zip_ends {st : List Nat} {n i : Nat} {x y : V} (hx : (intL st)[i]? = some x) (hy : ((intL st).drop 1 ++ [.int (n : Int)])[i]? = some y) : ∃ s, (st.zip (st.drop 1 ++ [n]))[i]? = some s ∧ x = .int (s.1 : Nat) ∧ y = .int (s.2 : Nat) := by
  have e : (intL st).drop 1 ++ [.int (n : Int)] = intL (st.drop 1 ++ [n]) := by unfold intL; rw [List.map_append, List.map_drop]; rfl
  rw [e] at hy
  obtain ⟨s1, h1, rfl⟩ := intL_at hx
  obtain ⟨s2, h2, rfl⟩ := intL_at hy
  exact ⟨(s1, s2), List.getElem?_zip_eq_some.mpr ⟨h1, h2⟩, rfl, rfl⟩
theorem rise_le {st : List Nat} {n : Nat} (h : rise st n = true) : ∀ s ∈ st.zip (st.drop 1 ++ [n]), s.1 < s.2 := fun s hs => of_decide_eq_true (List.all_eq_true.mp h s hs)
theorem ok_cut {f : Addr} {fd : FuncData} (F : Fun K "cut" "cut" (top 42) f fd) (m : mg "cut" = some (.ref f)) (b : Binds K fd ["points", "places"] []) (T : Names mg) (GR : Ok P w K mg base C "require" 1 ["holds"] (spReq C)) : Ok P w K mg base C "cut" 2 ["points", "places"] (spCut K C) := by
  refine okE F m b scCut (fun vs H Q E h => ?_) (fun cdv A outer s H vs Q E hr h => ?_)
  · obtain ⟨a, q, ps, st, rfl, _⟩ := h
    rfl
  · obtain ⟨a, q, ps, st, rfl, ⟨vs, ha, hP⟩, hq, hne, hl1, hl2, kE, kQ⟩ := h
    refine ⟨_, pss_cons (ps_expr (pf GR hr rfl pass_cx (pa_cons (pe_cmpR op_eq (pe_ix ix_list (pv 1) pe_int (fun _ _ => rfl)) pe_int (nomark _)) pa_nil)))
      (pss_cons (ps_set (i := 2) scCut.nd rfl (Or.inl rfl) (pe_lst pa_nil))
      (pss_cons (ps_for own_cx rfl (pi_zip rfl T.nZip (pa_cons (pv 1) (pa_cons (pe_op op_cat (pe_slice sl_list (pv 1) (po_some pe_int) po_none) (pe_lst (pa_cons (pe_callB call_len_seq rfl T.nLen PySem.boot_len (pa_cons (pv 0) pa_nil)) pa_nil))) pa_nil)))
          (pg_tup rfl (pgs_cons (pg_name (i := 3) scCut.nd rfl (Or.inl rfl)) (pgs_cons (pg_name (i := 4) scCut.nd rfl (Or.inl rfl)) pgs_nil)))
          (pss_cons (ps_expr (pf GR hr rfl pass_cx (pa_cons (pe_cmpR op_lt (pv 3) (pv 4) (nomark _)) pa_nil)))
            (pss_one (ps_expr (pe_bm PySem.F.plainAttrs_list PySem.F.slot_list_append PySem.F.type_list_append mt_append (pv 2) (pa_cons (pe_slice sl_list (pv 0) (po_some (pv 3)) (po_some (pv 4))) pa_nil))))))
      (pss_one (ps_ret (pv 2))))), ?_⟩
    obtain ⟨s0, hs0⟩ : ∃ s0, st[0]? = some s0 := ⟨_, List.getElem?_eq_getElem hne⟩
    refine ⟨_, rfl, q, _, _, _, rfl, rfl, SqL.of hq, atI_nat (j := 0) (intL_get hs0), rfl, _, rfl, ite2 (fun h0 => ?_) (fun h0 => ?_)⟩
    · have e0 : s0 = 0 := by
        rw [dec_int] at h0
        have := eq_of_beq h0
        omega
      have hhead : st.head? = some 0 := by rw [List.head?_eq_getElem?, hs0, e0]
      refine ⟨Nat.zero_le _, fun d hd => ?_⟩
      refine ⟨_, rfl, _, rfl, _, rfl, q, _, rfl, SqL.of (xs := intL st) (by rw [upd_ne (ne_of_none hq hd)]; exact hq), fun s1 hs1 => ?_⟩
      have k1 : Same H (upd (upd H d (.lst [])) s1 (.lst (cutV (intL st) (some 1) none))) := by
        refine same_upd (same_upd (Same.refl H) hd) ?_
        by_cases z : s1 = d
        · subst z; rw [upd_same] at hs1; cases hs1
        · rwa [upd_ne z] at hs1
      have nd1 : d ≠ s1 := fun z => by subst z; rw [upd_same] at hs1; cases hs1
      refine ⟨_, rfl, a, _, rfl, .inl (SqL.of (k1 _ _ ha)), by show 1 ≤ sizeLine; decide, fun s2 hs2 => ?_⟩
      have n12 : s1 ≠ s2 := fun z => by subst z; rw [upd_same] at hs2; cases hs2
      refine ⟨s1, s2, _, _, rfl, rfl, by rw [upd_ne n12, upd_same], upd_same, ?_, fun s3 hs3 => ?_⟩
      · rw [show cutV (intL st) (some (1 : Int)) none = (intL st).drop 1 from cut_from 1, List.length_drop, intL_len]
        exact Nat.le_of_lt (fits (by show _ + 1 ≤ _; omega))
      have k2 := same_upd k1 (o := .lst [.int (vs.length : Nat)]) (k1.free hs2)
      have k3 := same_upd k2 (o := .lst (cutV (intL st) (some 1) none ++ [.int (vs.length : Nat)])) (k2.free hs3)
      have nd2 : d ≠ s2 := fun z => by subst z; rw [upd_ne nd1, upd_same] at hs2; cases hs2
      have nd3 : d ≠ s3 := fun z => by subst z; rw [upd_ne nd2, upd_ne nd1, upd_same] at hs3; cases hs3
      refine ⟨q, s3, _, _, rfl, SqL.of (k3 _ _ hq), SqL.of upd_same, ?_⟩
      rw [show cutV (intL st) (some (1 : Int)) none = (intL st).drop 1 from cut_from 1, hP.len] at *
      refine for_zip (K := K) (a := q) (b := s3) (xs := intL st) (ys := (intL st).drop 1 ++ [.int (ps.length : Nat)]) (st.zip (st.drop 1 ++ [ps.length])).length (by rw [zip_len, intL_len, List.length_append, List.length_drop, intL_len]; simp; omega)
        (fun i σ H' => (∃ v3 v4, σ = [some (.ref a), some (.ref q), some (.ref d), v3, v4]) ∧ Same H H' ∧ H' s3 = some (.lst ((intL st).drop 1 ++ [.int (ps.length : Nat)])) ∧ (∀ s, s ∈ (st.zip (st.drop 1 ++ [ps.length])).take i → s.1 < s.2) ∧
          ∃ ws, H' d = some (.lst ws) ∧ (∀ v ∈ ws, v ≠ V.ref d) ∧ PartsL H' ws (((st.zip (st.drop 1 ++ [ps.length])).take i).map fun (s : Nat × Nat) => (ps.drop s.1).take (s.2 - s.1)))
        ⟨⟨none, none, rfl⟩, k3, upd_same, fun s hs => by simp at hs, [], by rw [upd_ne nd3, upd_ne nd2, upd_ne nd1, upd_same], (fun v hv => (List.not_mem_nil hv).elim), ⟨rfl, fun i l q => by simp at q⟩⟩ (fun i σ H' p => ⟨SqL.of (p.2.1 _ _ hq), SqL.of p.2.2.1⟩) ?_ ?_
      · rintro i x y t σ H' hx hy ⟨⟨v3, v4, rfl⟩, e, hs3', hlt, ws, hd', hnw, hL⟩ ht
        obtain ⟨⟨z1, z2⟩, hz, rfl, rfl⟩ := zip_ends hx hy
        have e4 : Same H' (upd H' t (.tup [.int (z1 : Nat), .int (z2 : Nat)])) := same_upd (Same.refl H') ht
        refine ⟨t, _, rfl, SqT.of upd_same, rfl, _, _, rfl, _, _, rfl, rfl, ?_⟩
        refine ⟨_, rfl, _, rfl, _, _, rfl, rfl, _, rfl, ite2 (fun h1 => ?_) (fun h1 => ?_)⟩
        · have z12 : z1 < z2 := by
            simp only [decide_eq_true_eq] at h1
            omega
          have a1 := e4 _ _ (e _ _ ha)
          refine ⟨_, rfl, .inl ⟨rfl, _, SqL.of (e4 _ _ hd')⟩, _, rfl, _, rfl, _, rfl, _, rfl, _, rfl, a, _, rfl, SqL.of a1, fun r hr0 => ?_⟩
          rw [cut_vs (Nat.le_of_lt z12)]
          have e5 := same_upd (Same.refl _) (o := .lst ((vs.drop z1).take (z2 - z1))) hr0
          refine ⟨d, ws, _, rfl, rfl, e5 _ _ (e4 _ _ hd'), fits (by rw [hL.len, List.length_map, List.length_take, zip_len]; omega), ?_⟩
          have ndr : d ≠ r := ne_of_none (e4 _ _ hd') hr0
          have hnd : H d = none := hd
          refine ⟨⟨_, _, rfl⟩, same_upd (e.trans (e4.trans e5)) hnd, ?_, fun s hs => ?_, _, upd_same, fun v hv => ?_, ?_⟩
          · rw [upd_ne (Ne.symm nd3)]
            exact e5 _ _ (e4 _ _ hs3')
          · rw [take_one hz] at hs
            rcases List.mem_append.mp hs with hs | hs
            · exact hlt s hs
            · rw [List.mem_singleton.mp hs]
              exact z12
          · rcases List.mem_append.mp hv with hv | hv
            · exact hnw v hv
            · rw [List.mem_singleton.mp hv]
              intro z
              cases z
              exact ndr rfl
          · rw [take_one hz, List.map_append]
            have K1 : Keep d H' (upd (upd (upd H' t (.tup [.int (z1 : Nat), .int (z2 : Nat)])) r (.lst ((vs.drop z1).take (z2 - z1)))) d (.lst (ws ++ [.ref r]))) := (((Keep.refl d H').new ht).new hr0).put
            have hL2 : PartsL (upd (upd (upd H' t (.tup [.int (z1 : Nat), .int (z2 : Nat)])) r (.lst ((vs.drop z1).take (z2 - z1)))) d (.lst (ws ++ [.ref r]))) ws (((st.zip (st.drop 1 ++ [ps.length])).take i).map fun (s : Nat × Nat) => (ps.drop s.1).take (s.2 - s.1)) := ⟨hL.len, fun j l hj => by
              obtain ⟨u, g1, g2⟩ := hL.at_ j l hj
              exact ⟨u, g1, g2.keep K1 (fun z => hnw _ (List.mem_of_getElem? g1) (by rw [z])) ⟨_, hd'⟩⟩⟩
            refine hL2.snoc ⟨_, by rw [upd_ne (Ne.symm ndr), upd_same], ?_⟩
            have hP2 : Pts (upd (upd (upd H' t (.tup [.int (z1 : Nat), .int (z2 : Nat)])) r (.lst ((vs.drop z1).take (z2 - z1)))) d (.lst (ws ++ [.ref r]))) vs ps := ⟨hP.len, fun j p hp => by
              obtain ⟨u, g1, g2⟩ := hP.pt j p hp
              have g3 := e _ _ g2
              exact ⟨u, g1, K1 _ _ g3 (ne_of g3 hd' (by intro z; cases z))⟩⟩
            exact hP2.slice z1 (z2 - z1)
        · refine kE ?_ _ (e.trans e4)
          rintro ⟨_, hrise⟩
          have := rise_le hrise _ (List.mem_of_getElem? hz)
          simp only [decide_eq_true_eq] at h1
          omega
      · rintro σ H' ⟨⟨v3, v4, rfl⟩, e, hs3', hlt, ws, hd', hnw, hL⟩
        rw [List.take_length] at hL hlt
        refine ⟨_, rfl, kQ ⟨hhead, List.all_eq_true.mpr fun s hs => decide_eq_true (hlt s hs)⟩ H' d e ⟨ws, hd', ?_⟩⟩
        rw [cut_eq rfl]
        exact hL
    · refine kE ?_ _ (Same.refl H)
      rintro ⟨hh, _⟩
      rw [List.head?_eq_getElem?, hs0] at hh
      cases hh
      exact h0 rfl
/-! ### is_part -/
def spIsPart (K : PySem.W.Frag) : Sp := fun vs H Q _ => ∃ (a : Addr) (l : List Rc25.Point) (kind : Nat), vs = [.ref a, .int kind] ∧ PtsAt H a l ∧ Bits64 l ∧ Rc25.good l = true ∧ l.length ≤ 16000 ∧ ∀ H', Same H H' → Q (.bl (isPart kind l)) H'
theorem scIsPart : FnScope ["part", "kind"] ["part", "kind"] (defScope (top 43)) := ⟨rfl, rfl, rfl, by decide +kernel, rfl, by decide +kernel, by decide +kernel⟩
theorem dec_nat {a b : Nat} : decide (V.int (a : Int) = V.int (b : Int)) = decide (a = b) := by
  rw [dec_int]
  by_cases h : a = b
  · subst h; simp
  · have : ((a : Int) == (b : Int)) = false := by simp; omega
    rw [this]
    simp [h]
theorem eqv_pair (a b c d : Nat) : PyData.eqv (.tuple [.int (a : Int), .int (b : Int)]) (.tuple [.int (c : Int), .int (d : Int)]) = ((a, b) == (c, d)) := by
  have e1 : ((a : Int) == (c : Int)) = (a == c) := by
    by_cases h : a = c
    · subst h; simp
    · have : ((a : Int) == (c : Int)) = false := by simp; omega
      rw [this]; simp [h]
  have e2 : ((b : Int) == (d : Int)) = (b == d) := by
    by_cases h : b = d
    · subst h; simp
    · have : ((b : Int) == (d : Int)) = false := by simp; omega
      rw [this]; simp [h]
  simp only [PyData.eqv, PyData.eqvAll, e1, e2, Bool.and_true]
  rfl
theorem shaped_pair (a b : Int) : SeqAt.shaped (.tuple [.int a, .int b]) = true := by
  simp [SeqAt.shaped, PyData.canLay0, PyData.canLayAll0, PyData.depth, PyData.depthAll]
theorem ok_isPart {f : Addr} {fd : FuncData} (F : Fun K "is_part" "is_part" (top 43) f fd) (m : mg "is_part" = some (.ref f)) (b : Binds K fd ["part", "kind"] []) (T : Names mg) (GR : Ok P w K mg base C "goes_round" 4 ["ring"] (spRound K)) : Ok P w K mg base C "is_part" 5 ["part", "kind"] (spIsPart K) := by
  refine okE F m b scIsPart (fun vs H Q E h => ?_) (fun cdv A outer s H vs Q E hr h => ?_)
  · obtain ⟨a, l, kind, rfl, _⟩ := h
    rfl
  · obtain ⟨a, l, kind, rfl, ⟨vs, ha, hP⟩, h64, hg, hle, k⟩ := h
    refine ⟨_, pss_cons (ps_if (pt_cmpR op_eq (pv 1) (pg T.lines rfl) (nomark _)) (pss_one (ps_ret (pe_cmpR op_ge (pe_callB call_len_seq rfl T.nLen PySem.boot_len (pa_cons (pv 0) pa_nil)) pe_int (nomark _)))) pss_nil)
      (pss_one (ps_ret (pe_and (pe_cmpR op_ge (pe_callB call_len_seq rfl T.nLen PySem.boot_len (pa_cons (pv 0) pa_nil)) pe_int (nomark _))
        (pe_and (pe_cmpR (op_eqD hr.units) (pe_ix ix_list (pv 0) pe_int (fun _ _ => rfl)) (pe_ix ix_list (pv 0) (pe_un un_neg pe_int) (fun _ _ => rfl)) (nomark _))
          (pe_one (pe_cmpR op_ne (pn GR hr rfl (pa_cons (pv 0) pa_nil)) pe_int (nomark _))))))), ?_⟩
    refine ⟨_, rfl, rfl, _, rfl, ?_⟩
    rw [show (3 : Int) = ((3 : Nat) : Int) from rfl, dec_nat]
    have hlen : ((vs.length : Nat) : Int) = (l.length : Int) := by rw [hP.len]
    refine ite2 (fun h3 => ?_) (fun h3 => ?_)
    · simp only [decide_eq_true_eq] at h3
      subst h3
      refine ⟨_, rfl, a, vs, rfl, .inl (SqL.of ha), _, _, rfl, rfl, ?_⟩
      have := k H (Same.refl H)
      unfold isPart at this
      rw [if_pos rfl] at this
      rw [hlen]
      have e : decide ((2 : Int) ≤ (l.length : Int)) = decide (2 ≤ l.length) := by
        by_cases z : 2 ≤ l.length
        · simp [z]; omega
        · simp [z]; omega
      dsimp only
      rw [e]
      exact this
    · simp only [decide_eq_true_eq] at h3
      refine ⟨_, rfl, a, vs, rfl, .inl (SqL.of ha), _, _, rfl, rfl, _, rfl, ?_⟩
      rw [hlen]
      refine ite2 (fun h4 => ?_) (fun h4 => ?_)
      · simp only [decide_eq_true_eq] at h4
        have hl4 : 4 ≤ l.length := by omega
        obtain ⟨t0, g1, g2⟩ := hP.pt 0 l[0] (List.getElem?_eq_getElem (by omega))
        obtain ⟨t1, g3, g4⟩ := hP.pt (l.length - 1) l[l.length - 1] (List.getElem?_eq_getElem (by omega))
        have hlast : atI vs (-1) = some (.ref t1) := by
          unfold atI ixN
          rw [if_neg (by decide), if_pos (by have := hP.len; omega)]
          show vs[((-1 : Int) + (vs.length : Int)).toNat]? = _
          rw [hP.len, show ((-1 : Int) + (l.length : Int)).toNat = l.length - 1 by omega]
          exact g3
        refine ⟨_, rfl, a, _, _, _, rfl, rfl, SqL.of ha, atI_nat (j := 0) g1, _, rfl, _, rfl, a, _, _, _, rfl, rfl, SqL.of ha, hlast, ?_⟩
        refine ⟨.tuple [.int ((l[0]).1 : Nat), .int ((l[0]).2 : Nat)], .tuple [.int ((l[l.length - 1]).1 : Nat), .int ((l[l.length - 1]).2 : Nat)], .tup (SqT.of g2) (.cons (.int _) (.cons (.int _) .nil)), .tup (SqT.of g4) (.cons (.int _) (.cons (.int _) .nil)), shaped_pair _ _, shaped_pair _ _, _, rfl, ?_⟩
        rw [eqv_pair]
        have hh : (l.head? == l.getLast?) = (((l[0]).1, (l[0]).2) == ((l[l.length - 1]).1, (l[l.length - 1]).2)) := by
          rw [List.head?_eq_getElem?, List.getLast?_eq_getElem?, List.getElem?_eq_getElem (show 0 < l.length by omega), List.getElem?_eq_getElem (show l.length - 1 < l.length by omega)]
          rfl
        have base0 : isPart kind l = ((l.head? == l.getLast?) && (Rc25.around l != 0)) := by
          unfold isPart Rc25.isRing
          rw [if_neg h3]
          have : decide (4 ≤ l.length) = true := by simp [hl4]
          rw [this, Bool.true_and]
        rw [← hh]
        refine ite2 (fun h5 => ?_) (fun h5 => ?_)
        · refine ⟨_, rfl, a, l, rfl, ⟨vs, ha, hP⟩, h64, hg, hle, fun H' e => ⟨rfl, ?_⟩⟩
          have := k H' e
          rw [base0, h5, Bool.true_and] at this
          have e2 : (!decide (V.int (Rc25.around l) = V.int 0)) = (Rc25.around l != 0) := by rw [dec_int]; rfl
          rw [e2]
          exact this
        · have := k H (Same.refl H)
          rw [base0, Bool.eq_false_iff.mpr h5, Bool.false_and] at this
          exact this
      · simp only [decide_eq_true_eq] at h4
        have := k H (Same.refl H)
        unfold isPart Rc25.isRing at this
        rw [if_neg h3] at this
        have e : decide (4 ≤ l.length) = false := by simp; omega
        rw [e, Bool.false_and] at this
        exact this
end
end Ls
end
section
set_option Elab.async false
set_option linter.all false
set_option maxRecDepth 100000
/-! Reading: a shape of parts. -/
namespace Ls
open PySem PySem.Spec PyProof.Rows L2 L3 Ma
open Rc25Neutral (bytesOf)
section
variable {P : Program} {w : World} {K : PySem.W.Frag} {mg : Str → Option Value} {base : Heap} {C : Addr}
/-! ### lists of numbers compared -/
abbrev dInts (l : List Nat) : PyData := .list (l.map fun (n : Nat) => .int (n : Int))
theorem shaped_ints (l : List Nat) : SeqAt.shaped (dInts l) = true := by
  have h1 : ∀ l : List Nat, PyData.canLayAll0 (l.map fun (n : Nat) => PyData.int (n : Int)) = true := by
    intro l
    induction l with
    | nil => rfl
    | cons a r ih => simp only [List.map_cons, PyData.canLayAll0, PyData.canLay0, ih, Bool.true_and]
  have h2 : ∀ l : List Nat, PyData.depthAll (l.map fun (n : Nat) => PyData.int (n : Int)) = 0 := by
    intro l
    induction l with
    | nil => rfl
    | cons a r ih => simp only [List.map_cons, PyData.depthAll, PyData.depth, ih, Nat.max_self]
  simp only [SeqAt.shaped, PyData.canLay0, PyData.depth, h1, h2]
  rfl
theorem eqv_ints (l m : List Nat) : PyData.eqv (dInts l) (dInts m) = decide (l = m) := by
  simp only [PyData.eqv]
  induction l generalizing m with
  | nil =>
    cases m with
    | nil => rfl
    | cons b r => simp [PyData.eqvAll]
  | cons a l ih =>
    cases m with
    | nil => simp [PyData.eqvAll]
    | cons b r =>
      simp only [List.map_cons, PyData.eqvAll, PyData.eqv, ih r]
      by_cases h : a = b
      · subst h
        simp
      · have : ((a : Int) == (b : Int)) = false := by simp; omega
        rw [this]
        simp [h]
theorem dp_ints {H : Hp} {a : Addr} {l : List Nat} (h : SqL K H a (intL l)) : Dp K H (.ref a) (dInts l) := by
  refine .lst h ?_
  unfold intL
  clear h
  induction l with
  | nil => exact .nil
  | cons n r ih => exact .cons (.int _) ih
/-! ### read_parts -/
def spRdParts (K : PySem.W.Frag) (C : Addr) : Sp := fun vs H Q E => ∃ (a : Addr) (ns : List Int) (kind : Nat), vs = [.ref a, .int kind] ∧ Dat K H a ns ∧
  (partsM kind (bytesOf ns) = none → ∀ H', Same H H' → E (.ref C) none H') ∧ (∀ l, partsM kind (bytesOf ns) = some l → ∀ (H' : Hp) (d : Addr), Same H H' → PartsAt H' d l → Q (.ref d) H')
theorem scRdParts : FnScope ["content", "kind", "part_count", "point_count", "points_start", "points", "parts", "part", "k"] ["content", "kind"] (defScope (top 40)) := ⟨rfl, rfl, rfl, by decide +kernel, rfl, by decide +kernel, by decide +kernel⟩
theorem starts_succ (b : Rc25.Bytes) (i : Nat) : intL ((List.range (i + 1)).map fun j => Rc25.low b (44 + 4 * j) 4) = intL ((List.range i).map fun j => Rc25.low b (44 + 4 * j) 4) ++ [.int (Rc25.low b (44 + 4 * i) 4)] := by
  unfold intL
  rw [List.range_succ, List.map_append, List.map_append]
  rfl
theorem part_fine {kind : Nat} {ps : List Rc25.Point} {st : List Nat} {n : Nat} (hn : ps.length = n) (h : Rc25.good ps = true) (h64 : Bits64 ps) {l : List Rc25.Point} (hl : l ∈ Rc25.cut ps st) : Rc25.good l = true ∧ Bits64 l ∧ l.length ≤ n := by
  rw [cut_eq hn] at hl
  obtain ⟨s, _, rfl⟩ := List.mem_map.mp hl
  have sub : ∀ p ∈ (ps.drop s.1).take (s.2 - s.1), p ∈ ps := fun p hp => List.mem_of_mem_drop (List.mem_of_mem_take hp)
  refine ⟨List.all_eq_true.mpr fun p hp => List.all_eq_true.mp h p (sub p hp), fun p hp => h64 p (sub p hp), ?_⟩
  rw [List.length_take, List.length_drop]
  omega
theorem iteE {c A B : Prop} [Decidable c] (h2 : ¬ c → B) (h1 : c → A) : if c then A else B := ite2 h1 h2
/-- what a shape's parts must keep to -/
def PC (kind : Nat) (b : Rc25.Bytes) : Prop :=
  44 ≤ b.length ∧ (1 ≤ Rc25.low b 36 4 ∧ Rc25.low b 36 4 ≤ 65536) ∧ (1 ≤ Rc25.low b 40 4 ∧ Rc25.low b 40 4 ≤ 65536) ∧ b.length = 44 + 4 * Rc25.low b 36 4 + 16 * Rc25.low b 40 4 ∧ Rc25.good (pointsOf b) = true ∧ Rc25.doubles b 4 4 = Rc25.boxOf (pointsOf b) ∧
    (starts b).head? = some 0 ∧ rising b = true ∧ ((Rc25.cut (pointsOf b) (starts b)).all (isPart kind)) = true
theorem parts_no {kind : Nat} {b : Rc25.Bytes} (h : ¬ PC kind b) : partsM kind b = none := if_neg h
theorem parts_yes {kind : Nat} {b : Rc25.Bytes} (h : PC kind b) : partsM kind b = some (Rc25.cut (pointsOf b) (starts b)) := if_pos h
theorem ok_rdParts {f : Addr} {fd : FuncData} (F : Fun K "read_parts" "read_parts" (top 40) f fd) (m : mg "read_parts" = some (.ref f)) (b : Binds K fd ["content", "kind"] []) (T : Names mg) (GL : Ok P w K mg base C "whole_low" 1 ["data", "place"] (spLow K)) (GR : Ok P w K mg base C "require" 1 ["holds"] (spReq C))
    (GP : Ok P w K mg base C "read_points" 4 ["content", "place", "many"] (spRdPts K C)) (GD : Ok P w K mg base C "doubles" 3 ["data", "place", "many"] (spDoubles K)) (GB : Ok P w K mg base C "box_of" 3 ["points"] spBox) (GC : Ok P w K mg base C "cut" 2 ["points", "places"] (spCut K C))
    (GI : Ok P w K mg base C "is_part" 5 ["part", "kind"] (spIsPart K)) : Ok P w K mg base C "read_parts" 6 ["content", "kind"] (spRdParts K C) := by
  refine okE F m b scRdParts (fun vs H Q E h => ?_) (fun cdv A outer s H vs Q E hr h => ?_)
  · obtain ⟨a, ns, kind, rfl, _⟩ := h
    rfl
  · obtain ⟨a, ns, kind, rfl, hD, kE, kQ⟩ := h
    have hle := hD.le
    have hr1 : Room 1 _ := hr.mono (by decide)
    have hr2 : Room 2 _ := hr.mono (by decide)
    have hr3 : Room 3 _ := hr.mono (by decide)
    have hr4 : Room 4 _ := hr.mono (by decide)
    have eL := len_bytes ns
    refine ⟨_, pss_cons (ps_expr (pf GR hr1 rfl pass_cx (pa_cons (pe_cmpR op_ge (pe_callB call_len_seq rfl T.nLen PySem.boot_len (pa_cons (pv 0) pa_nil)) (pg T.places rfl) (nomark _)) pa_nil)))
      (pss_cons (ps_set (i := 2) scRdParts.nd rfl (Or.inl rfl) (pn GL hr1 rfl (pa_cons (pv 0) (pa_cons pe_int pa_nil))))
      (pss_cons (ps_set (i := 3) scRdParts.nd rfl (Or.inl rfl) (pn GL hr1 rfl (pa_cons (pv 0) (pa_cons pe_int pa_nil))))
      (pss_cons (ps_expr (pf GR hr1 rfl pass_cx (pa_cons (pe_chain op_le op_le pe_int (pv 2) (pg T.mostParts rfl)) pa_nil)))
      (pss_cons (ps_expr (pf GR hr1 rfl pass_cx (pa_cons (pe_chain op_le op_le pe_int (pv 3) (pg T.mostPoints rfl)) pa_nil)))
      (pss_cons (ps_set (i := 4) scRdParts.nd rfl (Or.inl rfl) (pe_op op_add (pg T.places rfl) (pe_op op_mul pe_int (pv 2))))
      (pss_cons (ps_expr (pf GR hr1 rfl pass_cx (pa_cons (pe_cmpR op_eq (pe_callB call_len_seq rfl T.nLen PySem.boot_len (pa_cons (pv 0) pa_nil)) (pe_op op_add (pv 4) (pe_op op_mul pe_int (pv 3))) (nomark _)) pa_nil)))
      (pss_cons (ps_set (i := 5) scRdParts.nd rfl (Or.inl rfl) (pf GP hr4 rfl pass_cx (pa_cons (pv 0) (pa_cons (pv 4) (pa_cons (pv 3) pa_nil)))))
      (pss_cons (ps_expr (pf GR hr1 rfl pass_cx (pa_cons (pe_cmpR (op_eqD hr.units) (pn GD hr3 rfl (pa_cons (pv 0) (pa_cons pe_int (pa_cons pe_int pa_nil)))) (pn GB hr3 rfl (pa_cons (pv 5) pa_nil)) (nomark _)) pa_nil)))
      (pss_cons (ps_set (i := 6) scRdParts.nd rfl (Or.inl rfl) (pf GC hr2 rfl pass_cx (pa_cons (pv 5) (pa_cons (pe_lc rfl scRdParts.nd (pi_range1 rfl T.nRange (pa_cons (pv 2) pa_nil)) (blkOk_by (N := ["content", "kind", "part_count", "point_count", "points_start", "points", "parts", "part", "k"]) (sc := defScope (top 40)) (own := [("k", 8)]) (by decide +kernel)) (fun _ _ _ _ _ => pg_name (i := 8) scRdParts.nd rfl (Or.inl rfl)) (fun _ _ _ _ _ => pts_nil)
          (fun _ _ _ _ _ => pn GL hr1 rfl (pa_cons (pv 0) (pa_cons (pe_op op_add (pg T.places rfl) (pe_op op_mul pe_int (pv 8))) pa_nil)))) pa_nil))))
      (pss_cons (ps_for own_cx rfl (pi_list (pv 6)) (pg_name (i := 7) scRdParts.nd rfl (Or.inl rfl)) (pss_one (ps_expr (pf GR hr1 rfl pass_cx (pa_cons (pn GI hr rfl (pa_cons (pv 7) (pa_cons (pv 1) pa_nil))) pa_nil)))))
      (pss_one (ps_ret (pv 6))))))))))))), ?_⟩
    have eV : (ns.map V.int).length = (bytesOf ns).length := by rw [List.length_map, len_bytes]
    generalize hb : bytesOf ns = bs at *
    have b36 := low_lt bs 4 36
    have b40 := low_lt bs 4 40
    -- the length
    refine ⟨_, rfl, a, _, rfl, .inl hD.sq, _, _, rfl, rfl, _, rfl, iteE (fun h1 => kE (parts_no fun c => h1 (decide_eq_true (by rw [eV]; have := c.1; omega))) H (Same.refl H)) (fun h1 => ?_)⟩
    have l44 : 44 ≤ bs.length := by have := of_decide_eq_true h1; rw [eV] at this; omega
    -- how many parts, how many points
    refine ⟨_, rfl, a, ns, 36, rfl, hD.sq, hD.bt, by omega, ?_⟩
    rw [hb]
    refine ⟨_, rfl, a, ns, 40, rfl, hD.sq, hD.bt, by omega, ?_⟩
    rw [hb]
    refine ⟨_, rfl, _, _, rfl, rfl, _, rfl, iteE (fun h2 => ⟨_, rfl, iteF (kE (parts_no fun c => h2 (decide_eq_true (by have := c.2.1; omega))) H (Same.refl H))⟩) (fun h2 => ?_)⟩
    refine ⟨_, _, rfl, rfl, _, rfl, iteE (fun h3 => kE (parts_no fun c => h3 (decide_eq_true (by have := c.2.1; omega))) H (Same.refl H)) (fun h3 => ?_)⟩
    refine ⟨_, rfl, _, _, rfl, rfl, _, rfl, iteE (fun h4 => ⟨_, rfl, iteF (kE (parts_no fun c => h4 (decide_eq_true (by have := c.2.2.1; omega))) H (Same.refl H))⟩) (fun h4 => ?_)⟩
    refine ⟨_, _, rfl, rfl, _, rfl, iteE (fun h5 => kE (parts_no fun c => h5 (decide_eq_true (by have := c.2.2.1; omega))) H (Same.refl H)) (fun h5 => ?_)⟩
    have m1 := of_decide_eq_true h2
    have m2 := of_decide_eq_true h3
    have n1 := of_decide_eq_true h4
    have n2 := of_decide_eq_true h5
    -- the content's length
    refine ⟨_, rfl, _, _, rfl, rfl, .inl ⟨by decide, by decide⟩, _, _, rfl, rfl, ?_⟩
    refine ⟨_, rfl, a, _, rfl, .inl hD.sq, _, rfl, _, rfl, _, _, rfl, rfl, .inl ⟨by decide, by decide⟩, _, _, rfl, rfl, rfl, _, rfl, iteE (fun h6 => kE (parts_no fun c => h6 (decide_eq_true (congrArg V.int (by rw [eV]; have := c.2.2.2.1; omega)))) H (Same.refl H)) (fun h6 => ?_)⟩
    have l6 : bs.length = 44 + 4 * Rc25.low bs 36 4 + 16 * Rc25.low bs 40 4 := by
      have := V.int.inj (of_decide_eq_true h6)
      rw [eV] at this
      omega
    -- the points
    refine ⟨_, rfl, _, rfl, _, rfl, a, ns, 44 + 4 * Rc25.low bs 36 4, Rc25.low bs 40 4, (by rw [show ((44 + 4 * Rc25.low bs 36 4 : Nat) : Int) = 44 + 4 * ((Rc25.low bs 36 4 : Nat) : Int) from by omega]; rfl), hD, by omega, fun bad H' e => ?_, fun hgood H1 d1 e1 hp1 => ?_⟩
    · rw [hb] at bad
      exact kE (parts_no fun c => by have := c.2.2.2.2.1; unfold pointsOf at this; rw [bad] at this; cases this) H' e
    rw [hb] at hgood hp1
    have hg : Rc25.good (pointsOf bs) = true := hgood
    have hp1 : PtsAt H1 d1 (pointsOf bs) := hp1
    have plen : (pointsOf bs).length = Rc25.low bs 40 4 := points_len _ _ _
    have h64 : Bits64 (pointsOf bs) := points_bits _ _ _
    -- the box
    refine ⟨_, rfl, a, ns, 4, 4, rfl, hD.same e1, by omega, fun H2 d2 e2 hd2 => ?_⟩
    refine ⟨_, rfl, d1, _, rfl, hp1.same e2, h64, by omega, fun H3 d3 e3 hd3 => ?_⟩
    rw [hb] at hd2
    have e13 := e1.trans (e2.trans e3)
    refine ⟨_, _, dp_ints (SqL.of (e3 _ _ hd2)), dp_ints (SqL.of hd3), shaped_ints _, shaped_ints _, _, rfl, ?_⟩
    rw [eqv_ints]
    refine iteE (fun h7 => kE (parts_no fun c => h7 (decide_eq_true c.2.2.2.2.2.1)) H3 e13) (fun h7 => ?_)
    have hbox := of_decide_eq_true h7
    -- where parts begin
    refine ⟨_, rfl, _, rfl, ((Rc25.low bs 36 4 : Nat) : Int), rfl, by omega, by omega, fun D hD0 => ?_⟩
    refine lc_range (lo := 0) (n := Rc25.low bs 36 4) (fun i H' => Same H3 H' ∧ H' D = some (.lst (intL ((List.range i).map fun j => Rc25.low bs (44 + 4 * j) 4)))) ⟨same_upd (Same.refl H3) hD0, upd_same⟩ ?_ ?_
    · rintro i H' hi ⟨e, hd⟩
      refine ⟨rfl, ?_⟩
      refine ⟨_, rfl, _, rfl, _, _, rfl, rfl, .inl ⟨by decide, by decide⟩, _, _, rfl, rfl, a, ns, 44 + 4 * i, ?_, (hD.same (e13.trans e)).sq, hD.bt, by omega, _, hd, fits (by rw [intL_len, List.length_map, List.length_range]; omega), same_upd e hD0, ?_⟩
      · rw [show ((44 + 4 * i : Nat) : Int) = 44 + 4 * (0 + (i : Int)) from by omega]
        rfl
      · rw [upd_same, starts_succ, hb]
    · rintro H4 ⟨e4, hd4⟩
      have hst : H4 D = some (.lst (intL (starts bs))) := hd4
      have slen : (starts bs).length = Rc25.low bs 36 4 := by unfold starts; rw [List.length_map, List.length_range]
      have er : rise (starts bs) (pointsOf bs).length = rising bs := by unfold rise rising; rw [plen]
      refine ⟨d1, D, pointsOf bs, starts bs, rfl, (hp1.same (e2.trans e3)).same e4, hst, by omega, by omega, by omega, fun bad H' e => ?_, fun hok H5 d5 e5 hp5 => ?_⟩
      · rw [er] at bad
        exact kE (parts_no fun c => bad ⟨c.2.2.2.2.2.2.1, c.2.2.2.2.2.2.2.1⟩) H' (e13.trans (e4.trans e))
      rw [er] at hok
      have e15 := e13.trans (e4.trans e5)
      obtain ⟨vs, hv, hL⟩ := hp5
      -- each part
      refine ⟨_, rfl, d5, rfl, ⟨_, SqL.of hv⟩, for_list (K := K) (a := d5) (xs := vs)
        (fun i σ H' => (∃ v, σ = [some (.ref a), some (.int kind), some (.int (Rc25.low bs 36 4 : Nat)), some (.int (Rc25.low bs 40 4 : Nat)), some (.int (44 + 4 * ((Rc25.low bs 36 4 : Nat) : Int))), some (.ref d1), some (.ref d5), v, none]) ∧ Same H5 H' ∧ ∀ l ∈ (Rc25.cut (pointsOf bs) (starts bs)).take i, isPart kind l = true)
        ⟨⟨none, rfl⟩, Same.refl H5, fun l hl => by simp at hl⟩ (fun i σ H' _ q => SqL.of (q.2.1 _ _ hv)) ?_ ?_⟩
      · rintro i y σ H' hy ⟨⟨v, rfl⟩, e, hall⟩
        have hi : i < (Rc25.cut (pointsOf bs) (starts bs)).length := by
          have := (List.getElem?_eq_some_iff.mp hy).1
          rw [← hL.len]
          exact this
        obtain ⟨t, g1, g2⟩ := hL.at_ i _ (List.getElem?_eq_getElem hi)
        rw [hy] at g1
        cases g1
        obtain ⟨f1, f2, f3⟩ := part_fine (kind := kind) plen hg h64 (List.getElem_mem hi)
        refine ⟨_, rfl, _, rfl, t, _, kind, rfl, g2.same e, f2, f1, by omega, fun H6 e6 => ⟨_, rfl, ?_⟩⟩
        cases hc : isPart kind (Rc25.cut (pointsOf bs) (starts bs))[i] with
        | false =>
          refine iteF (kE (parts_no fun c => ?_) H6 (e15.trans (e.trans e6)))
          have := List.all_eq_true.mp c.2.2.2.2.2.2.2.2 _ (List.getElem_mem hi)
          rw [hc] at this
          cases this
        | true =>
          refine iteT ⟨⟨_, rfl⟩, e.trans e6, fun l hl => ?_⟩
          rw [take_one (List.getElem?_eq_getElem hi)] at hl
          rcases List.mem_append.mp hl with hl | hl
          · exact hall l hl
          · rw [List.mem_singleton.mp hl]
            exact hc
      · rintro σ H' ⟨⟨v, rfl⟩, e, hall⟩
        rw [hL.len, List.take_length] at hall
        refine ⟨_, rfl, kQ _ (parts_yes ⟨l44, by omega, by omega, l6, hg, hbox, hok.1, hok.2, List.all_eq_true.mpr hall⟩) H' d5 (e15.trans e) ⟨vs, e _ _ hv, hL.same e⟩⟩
end
end Ls
end
section
set_option Elab.async false
set_option linter.all false
set_option maxRecDepth 100000
/-! Reading: shapes, contents. -/
namespace Ls
open PySem PySem.Spec PyProof.Rows L2 L3 Ma
open Rc25Neutral (bytesOf)
section
variable {P : Program} {w : World} {K : PySem.W.Frag} {mg : Str → Option Value} {base : Heap} {C : Addr}
/-! ### methods -/
theorem okM {x qual : Str} {st : Stmt} {f : Addr} {fd : FuncData} {N ps : List Str} {k : Nat} {sp : Sp} (F : Fun K x qual st f fd) (S : FnScope N ps (defScope st)) (len : ∀ vs H Q E, sp vs H Q E → vs.length = ps.length)
    (hbody : ∀ (cdv : Value) (A : Around) (outer : List Env) (s : Shared) (H : Hp) (vs : List V) (Q : VK) (E : XK), Room k (A.deeper (envOfC qual (defScope st) s.heap.objs.size f cdv)) → sp vs H Q E →
      ∃ t, PSs (cxE P w C K mg base N qual (defScope st) f cdv A outer s H E) (defBody st) t ∧ t { nx := fun _ H' => Q .non H', rt := Q } (start N vs) H) : FnOk P w K mg base (CXE P w C) (k + 1) f fd ps sp := by
  obtain ⟨oc, od, kV, doc, pm, an, cdv, ct, osl, e, lk, hcd⟩ := F.ex
  subst e
  exact fn_of lk hcd S len fun A outer s H vs Q E hr hsp => hbody cdv A outer s H vs Q E hr hsp
/-! ### the class Shape -/
/-- its attributes -/
def sf (x y : V) : List (Str × V) := putF "parts" y (putF "kind" x [])
theorem sf_kind (x y : V) : (sf x y).lookup ("kind" : Str) = some x := by unfold sf; rw [lookup_putF, if_neg (by decide +kernel), lookup_putF, if_pos rfl]
theorem sf_parts (x y : V) : (sf x y).lookup ("parts" : Str) = some y := by unfold sf; rw [lookup_putF, if_pos rfl]
theorem sf_no (x y : V) {m : Str} (h1 : ¬ m = "parts") (h2 : ¬ m = "kind") : (sf x y).lookup m = none := by
  unfold sf
  rw [lookup_putF, if_neg h1, lookup_putF, if_neg h2]
  rfl
structure ShapeCls (K : PySem.W.Frag) (mg : Str → Option Value) (S fI fA : Addr) : Prop where
  cl : Cls K S
  nK : NoAttr K S "kind"
  nP : NoAttr K S "parts"
  mgS : mg "Shape" = some (.ref S)
  made : Mk K S fI
  all : Meth K S "all_points" fA
/-- the shape s stands at a -/
def ShapeAt (S : Addr) (H : Hp) (a : Addr) (s : Rc25.Shape) : Prop := ∃ dx q, H a = some (.ins S dx (sf (.int (s.kind : Nat)) (.ref q))) ∧ PartsAt H q s.parts
theorem ShapeAt.same {S : Addr} {H H' : Hp} {a : Addr} {s : Rc25.Shape} (h : ShapeAt S H a s) (e : Same H H') : ShapeAt S H' a s := let ⟨dx, q, h1, h2⟩ := h; ⟨dx, q, e _ _ h1, h2.same e⟩
def spShInit (S : Addr) : Sp := fun vs H Q _ => ∃ (p dx : Addr) (x y : V), vs = [.ref p, x, y] ∧ H p = some (.ins S dx []) ∧ ∀ H' : Hp, H' p = some (.ins S dx (sf x y)) → (∀ b o, H b = some o → b ≠ p → H' b = some o) → Q .non H'
theorem scShInit : FnScope ["self", "kind", "parts"] ["self", "kind", "parts"] (defScope (inClass (top 32) 0)) := ⟨rfl, rfl, rfl, by decide +kernel, rfl, by decide +kernel, by decide +kernel⟩
theorem ok_shInit {S fI fA f : Addr} {fd : FuncData} (F : Fun K "__init__" "Shape.__init__" (inClass (top 32) 0) f fd) (T : ShapeCls K mg S fI fA) : FnOk P w K mg base (CXE P w C) 1 f fd ["self", "kind", "parts"] (spShInit S) := by
  refine okM F scShInit (fun vs H Q E h => ?_) (fun cdv A outer s H vs Q E hr h => ?_)
  · obtain ⟨p, dx, x, y, rfl, _⟩ := h
    rfl
  · obtain ⟨p, dx, x, y, rfl, hp, k⟩ := h
    refine ⟨_, pss_cons (ps_fld (pv 0) (pv 1) rfl) (pss_one (ps_fld (pv 0) (pv 2) rfl)), ?_⟩
    refine ⟨_, rfl, _, rfl, p, S, dx, [], rfl, hp, T.cl, T.nK, (by show 0 < 1000; decide), ?_⟩
    refine ⟨_, rfl, _, rfl, p, S, dx, _, rfl, upd_same, T.cl, T.nP, (by show 1 < 1000; decide), ?_⟩
    exact k _ upd_same fun b o e hb => by rw [upd_ne hb, upd_ne hb]; exact e
theorem Pts.append {H : Hp} {vs ws : List V} {l m : List Rc25.Point} (h : Pts H vs l) (k : Pts H ws m) : Pts H (vs ++ ws) (l ++ m) := by
  refine ⟨by rw [List.length_append, List.length_append, h.len, k.len], fun i p hp => ?_⟩
  by_cases hi : i < l.length
  · rw [List.getElem?_append_left hi] at hp
    obtain ⟨t, h1, h2⟩ := h.pt i p hp
    exact ⟨t, by rw [List.getElem?_append_left (by rw [h.len]; exact hi)]; exact h1, h2⟩
  · rw [List.getElem?_append_right (by omega)] at hp
    obtain ⟨t, h1, h2⟩ := k.pt _ p hp
    exact ⟨t, by rw [List.getElem?_append_right (by rw [h.len]; omega), h.len]; exact h1, h2⟩
theorem Pts.upd {H : Hp} {vs ws : List V} {l : List Rc25.Point} {d : Addr} {o : HO} (h : Pts H vs l) (hd : H d = some (.lst ws)) : Pts (upd H d o) vs l :=
  ⟨h.len, fun i p hp => let ⟨t, h1, h2⟩ := h.pt i p hp; ⟨t, h1, by rw [upd_ne (ne_of h2 hd (by intro z; cases z))]; exact h2⟩⟩
def spAll (S : Addr) : Sp := fun vs H Q _ => ∃ (a : Addr) (s : Rc25.Shape), vs = [.ref a] ∧ ShapeAt S H a s ∧ s.parts.flatten.length ≤ 16000 ∧ ∀ (H' : Hp) (d : Addr), Same H H' → PtsAt H' d s.parts.flatten → Q (.ref d) H'
theorem scAll : FnScope ["self", "together", "part"] ["self"] (defScope (inClass (top 32) 1)) := ⟨rfl, rfl, rfl, by decide +kernel, rfl, by decide +kernel, by decide +kernel⟩
theorem flat_one {ps : List (List Rc25.Point)} {i : Nat} {l : List Rc25.Point} (h : ps[i]? = some l) : (ps.take (i + 1)).flatten = (ps.take i).flatten ++ l := by
  rw [take_one h, List.flatten_append]
  simp
theorem flat_le {ps : List (List Rc25.Point)} (i : Nat) : (ps.take i).flatten.length ≤ ps.flatten.length := by
  conv => rhs; rw [← List.take_append_drop i ps, List.flatten_append, List.length_append]
  exact Nat.le_add_right _ _
theorem ok_all {S fI fA f : Addr} {fd : FuncData} (F : Fun K "all_points" "Shape.all_points" (inClass (top 32) 1) f fd) (T : ShapeCls K mg S fI fA) : FnOk P w K mg base (CXE P w C) 1 f fd ["self"] (spAll S) := by
  refine okM F scAll (fun vs H Q E h => ?_) (fun cdv A outer s H vs Q E hr h => ?_)
  · obtain ⟨a, s, rfl, _⟩ := h
    rfl
  · obtain ⟨a, sh, rfl, ⟨dx, q, ha, vs, hq, hL⟩, hle, k⟩ := h
    refine ⟨_, pss_cons (ps_set (i := 1) scAll.nd rfl (Or.inl rfl) (pe_lst pa_nil))
      (pss_cons (ps_for own_cx rfl (pi_list (pe_fld (pv 0) rfl)) (pg_name (i := 2) scAll.nd rfl (Or.inl rfl)) (pss_one (ps_expr (pe_bm PySem.F.plainAttrs_list PySem.F.slot_list_extend PySem.F.type_list_extend mt_extend (pv 1) (pa_cons (pv 2) pa_nil)))))
      (pss_one (ps_ret (pv 1)))), ?_⟩
    refine ⟨Nat.zero_le _, fun d hd => ?_⟩
    have e0 : Same H (upd H d (.lst [])) := same_upd (Same.refl H) hd
    refine ⟨_, rfl, a, S, dx, _, _, rfl, e0 _ _ ha, T.cl, T.nP, sf_parts _ _, q, rfl, ⟨_, SqL.of (e0 _ _ hq)⟩, for_list (K := K) (a := q) (xs := vs)
      (fun i σ H' => (∃ v, σ = [some (.ref a), some (.ref d), v]) ∧ Same H H' ∧ ∃ acc, H' d = some (.lst acc) ∧ Pts H' acc (sh.parts.take i).flatten)
      ⟨⟨none, rfl⟩, e0, [], upd_same, ⟨rfl, fun i p hp => by simp at hp⟩⟩ (fun i σ H' _ z => SqL.of (z.2.1 _ _ hq)) ?_ ?_⟩
    · rintro i y σ H' hy ⟨⟨v, rfl⟩, e, acc, hacc, hP⟩
      have hi : i < sh.parts.length := by have := (List.getElem?_eq_some_iff.mp hy).1; have := hL.len; omega
      obtain ⟨t, g1, ws, g2, g3⟩ := hL.at_ i _ (List.getElem?_eq_getElem hi)
      rw [hy] at g1
      cases g1
      have hf := flat_one (List.getElem?_eq_getElem hi)
      have hl1 : acc.length + ws.length ≤ 16000 := by
        have := flat_le (ps := sh.parts) (i + 1)
        rw [hf, List.length_append, ← hP.len, ← g3.len] at this
        omega
      refine ⟨_, rfl, .inl ⟨rfl, _, SqL.of hacc⟩, _, rfl, d, t, acc, ws, rfl, rfl, hacc, e _ _ g2, Nat.le_of_lt (fits (by omega)), ⟨_, rfl⟩, same_upd e hd, _, upd_same, ?_⟩
      rw [hf]
      exact (hP.append (g3.same e)).upd hacc
    · rintro σ H' ⟨⟨v, rfl⟩, e, acc, hacc, hP⟩
      rw [hL.len, List.take_length] at hP
      exact ⟨_, rfl, k H' d e ⟨acc, hacc, hP⟩⟩
/-! ### read_content -/
def RC (b : Rc25.Bytes) (p num : Nat) : Prop := p + 8 ≤ b.length ∧ Rc25.high b p 4 = num ∧ p + 8 + 2 * Rc25.high b (p + 4) 4 ≤ b.length
def spContent (K : PySem.W.Frag) (C : Addr) : Sp := fun vs H Q E => ∃ (a : Addr) (ns : List Int) (p num : Nat), vs = [.ref a, .int p, .int num] ∧ Dat K H a ns ∧
  (¬ RC (bytesOf ns) p num → ∀ H', Same H H' → E (.ref C) none H') ∧
  (RC (bytesOf ns) p num → ∀ (H' : Hp) (d : Addr), Same H H' → H d = none → H' d = some (.lst (((ns.drop (p + 8)).take (2 * Rc25.high (bytesOf ns) (p + 4) 4)).map V.int)) → Q (.ref d) H')
theorem scContent : FnScope ["data", "place", "number", "start", "end"] ["data", "place", "number"] (defScope (top 38)) := ⟨rfl, rfl, rfl, by decide +kernel, rfl, by decide +kernel, by decide +kernel⟩
theorem ok_content {f : Addr} {fd : FuncData} (F : Fun K "read_content" "read_content" (top 38) f fd) (m : mg "read_content" = some (.ref f)) (b : Binds K fd ["data", "place", "number"] []) (T : Names mg) (GH : Ok P w K mg base C "whole_high" 1 ["data", "place"] (spHigh K)) (GR : Ok P w K mg base C "require" 1 ["holds"] (spReq C)) :
    Ok P w K mg base C "read_content" 2 ["data", "place", "number"] (spContent K C) := by
  refine okE F m b scContent (fun vs H Q E h => ?_) (fun cdv A outer s H vs Q E hr h => ?_)
  · obtain ⟨a, ns, p, num, rfl, _⟩ := h
    rfl
  · obtain ⟨a, ns, p, num, rfl, hD, kE, kQ⟩ := h
    have hle := hD.le
    have eV : (ns.map V.int).length = (bytesOf ns).length := by rw [List.length_map, len_bytes]
    have eL := len_bytes ns
    refine ⟨_, pss_cons (ps_set (i := 3) scContent.nd rfl (Or.inl rfl) (pe_op op_add (pv 1) (pg T.recHead rfl)))
      (pss_cons (ps_expr (pf GR hr rfl pass_cx (pa_cons (pe_cmpR op_le (pv 3) (pe_callB call_len_seq rfl T.nLen PySem.boot_len (pa_cons (pv 0) pa_nil)) (nomark _)) pa_nil)))
      (pss_cons (ps_expr (pf GR hr rfl pass_cx (pa_cons (pe_cmpR op_eq (pn GH hr rfl (pa_cons (pv 0) (pa_cons (pv 1) pa_nil))) (pv 2) (nomark _)) pa_nil)))
      (pss_cons (ps_set (i := 4) scContent.nd rfl (Or.inl rfl) (pe_op op_add (pv 3) (pe_op op_mul pe_int (pn GH hr rfl (pa_cons (pv 0) (pa_cons (pe_op op_add (pv 1) pe_int) pa_nil))))))
      (pss_cons (ps_expr (pf GR hr rfl pass_cx (pa_cons (pe_cmpR op_le (pv 4) (pe_callB call_len_seq rfl T.nLen PySem.boot_len (pa_cons (pv 0) pa_nil)) (nomark _)) pa_nil)))
      (pss_one (ps_ret (pe_slice sl_list (pv 0) (po_some (pv 3)) (po_some (pv 4))))))))), ?_⟩
    generalize hb : bytesOf ns = bs at *
    refine ⟨_, rfl, _, _, rfl, rfl, ?_⟩
    refine ⟨_, rfl, _, rfl, a, _, rfl, .inl hD.sq, _, _, rfl, rfl, _, rfl, iteE (fun h1 => kE (fun c => h1 (decide_eq_true (by rw [eV]; have := c.1; omega))) H (Same.refl H)) (fun h1 => ?_)⟩
    have l1 : p + 8 ≤ bs.length := by have := of_decide_eq_true h1; rw [eV] at this; omega
    refine ⟨_, rfl, _, rfl, a, ns, p, rfl, hD.sq, hD.bt, by omega, ?_⟩
    rw [hb]
    refine ⟨_, rfl, rfl, _, rfl, iteE (fun h2 => kE (fun c => h2 (decide_eq_true (congrArg V.int (by rw [c.2.1])))) H (Same.refl H)) (fun h2 => ?_)⟩
    have e2 : Rc25.high bs p 4 = num := by have := V.int.inj (of_decide_eq_true h2); omega
    refine ⟨_, rfl, _, rfl, _, rfl, _, _, rfl, rfl, a, ns, p + 4, (by rw [show ((p + 4 : Nat) : Int) = (p : Int) + 4 from by omega]; rfl), hD.sq, hD.bt, by omega, ?_⟩
    rw [hb]
    refine ⟨_, _, rfl, rfl, .inl ⟨by decide, by decide⟩, _, _, rfl, rfl, ?_⟩
    refine ⟨_, rfl, _, rfl, a, _, rfl, .inl hD.sq, _, _, rfl, rfl, _, rfl, iteE (fun h3 => kE (fun c => h3 (decide_eq_true (by rw [eV]; have := c.2.2; omega))) H (Same.refl H)) (fun h3 => ?_)⟩
    have l3 : p + 8 + 2 * Rc25.high bs (p + 4) 4 ≤ bs.length := by have := of_decide_eq_true h3; rw [eV] at this; omega
    refine ⟨_, rfl, _, rfl, _, rfl, _, rfl, _, rfl, a, _, rfl, hD.sq, fun q hq => ?_⟩
    refine kQ ⟨l1, e2, l3⟩ _ q (same_upd (Same.refl H) hq) hq ?_
    rw [upd_same]
    have ec : cutV (ns.map V.int) (some ((p : Int) + 8)) (some ((p : Int) + 8 + 2 * ((Rc25.high bs (p + 4) 4 : Nat) : Int))) = ((ns.drop (p + 8)).take (2 * Rc25.high bs (p + 4) 4)).map V.int := by
      have := cut_ns (ns := ns) (s := p + 8) (e := p + 8 + 2 * Rc25.high bs (p + 4) 4) (by omega) (by omega)
      rw [show ((p + 8 : Nat) : Int) = (p : Int) + 8 by omega, show ((p + 8 + 2 * Rc25.high bs (p + 4) 4 : Nat) : Int) = (p : Int) + 8 + 2 * ((Rc25.high bs (p + 4) 4 : Nat) : Int) by omega, show p + 8 + 2 * Rc25.high bs (p + 4) 4 - (p + 8) = 2 * Rc25.high bs (p + 4) 4 by omega] at this
      exact this
    rw [ec]
end
end Ls
end
section
set_option Elab.async false
set_option linter.all false
set_option maxRecDepth 100000
/-! Reading: a record. -/
namespace Ls
open PySem PySem.Spec PyProof.Rows L2 L3 Ma
open Rc25Neutral (bytesOf)
section
variable {P : Program} {w : World} {K : PySem.W.Frag} {mg : Str → Option Value} {base : Heap} {C : Addr}
/-! ### read_shape -/
def spRdShape (K : PySem.W.Frag) (C S : Addr) : Sp := fun vs H Q E => ∃ (a : Addr) (ns : List Int) (kind : Nat), vs = [.ref a, .int kind] ∧ (kind = 1 ∨ kind = 3 ∨ kind = 5) ∧ Dat K H a ns ∧
  (Rc25.shape kind (bytesOf ns) = none → ∀ H', Same H H' → E (.ref C) none H') ∧ (∀ s, Rc25.shape kind (bytesOf ns) = some s → ∀ (H' : Hp) (d : Addr), Same H H' → ShapeAt S H' d s → Q (.ref d) H')
theorem scRdShape : FnScope ["content", "kind", "told"] ["content", "kind"] (defScope (top 39)) := ⟨rfl, rfl, rfl, by decide +kernel, rfl, by decide +kernel, by decide +kernel⟩
/-- a new Shape -/
theorem made_shape {S : Addr} {H1 : Hp} {x dx q : Addr} {s : Rc25.Shape} {kind : Int} {R : VK} (nx : H1 x = none) (nd : H1 dx = none) (hk : kind = ((s.kind : Nat) : Int)) (hq : PartsAt H1 q s.parts) (k : ∀ H2, Same H1 H2 → ShapeAt S H2 x s → R (.ref x) H2) {E : XK} :
    spShInit S [.ref x, .int kind, .ref q] (upd (upd H1 dx (.own x)) x (.ins S dx [])) (fun v H2 => v = .non ∧ R (.ref x) H2) E := by
  refine ⟨x, dx, _, _, rfl, upd_same, fun H2 hx kp => ⟨rfl, ?_⟩⟩
  have e := Same.made nx nd kp
  exact k H2 e ⟨dx, q, by rw [hx, hk], hq.same e⟩
theorem ok_rdShape {S fI fA f : Addr} {fd fdI : FuncData} (F : Fun K "read_shape" "read_shape" (top 39) f fd) (m : mg "read_shape" = some (.ref f)) (b : Binds K fd ["content", "kind"] []) (T : Names mg) (TS : ShapeCls K mg S fI fA)
    (FI : FnOk P w K mg base (CXE P w C) 1 fI fdI ["self", "kind", "parts"] (spShInit S)) (bI : Binds K fdI ["self", "kind", "parts"] []) (GL : Ok P w K mg base C "whole_low" 1 ["data", "place"] (spLow K)) (GR : Ok P w K mg base C "require" 1 ["holds"] (spReq C))
    (GP : Ok P w K mg base C "read_points" 4 ["content", "place", "many"] (spRdPts K C)) (GA : Ok P w K mg base C "read_parts" 6 ["content", "kind"] (spRdParts K C)) : Ok P w K mg base C "read_shape" 7 ["content", "kind"] (spRdShape K C S) := by
  refine okE F m b scRdShape (fun vs H Q E h => ?_) (fun cdv A outer s H vs Q E hr h => ?_)
  · obtain ⟨a, ns, kind, rfl, _⟩ := h
    rfl
  · obtain ⟨a, ns, kind, rfl, hk, hD, kE, kQ⟩ := h
    have hle := hD.le
    have hr1 : Room 1 _ := hr.mono (by decide)
    have hr2 : Room 2 _ := hr.mono (by decide)
    have hr4 : Room 4 _ := hr.mono (by decide)
    have eL := len_bytes ns
    have eV : (ns.map V.int).length = (bytesOf ns).length := by rw [List.length_map, len_bytes]
    have hG := GA
    refine ⟨_, pss_cons (ps_expr (pf GR hr1 rfl pass_cx (pa_cons (pe_cmpR op_ge (pe_callB call_len_seq rfl T.nLen PySem.boot_len (pa_cons (pv 0) pa_nil)) (pg T.nothingLen rfl) (nomark _)) pa_nil)))
      (pss_cons (ps_set (i := 2) scRdShape.nd rfl (Or.inl rfl) (pn GL hr1 rfl (pa_cons (pv 0) (pa_cons pe_int pa_nil))))
      (pss_cons (ps_if (pt_cmpR op_eq (pv 2) (pg T.nothing rfl) (nomark _))
          (pss_cons (ps_expr (pf GR hr1 rfl pass_cx (pa_cons (pe_cmpR op_eq (pe_callB call_len_seq rfl T.nLen PySem.boot_len (pa_cons (pv 0) pa_nil)) (pg T.nothingLen rfl) (nomark _)) pa_nil)))
            (pss_one (ps_ret (pe_make TS.made FI hr2 rfl TS.mgS bI .nil pass_no (pa_cons (pg T.nothing rfl) (pa_cons (pe_lst pa_nil) pa_nil)))))) pss_nil)
      (pss_cons (ps_expr (pf GR hr1 rfl pass_cx (pa_cons (pe_cmpR op_eq (pv 2) (pv 1) (nomark _)) pa_nil)))
      (pss_cons (ps_if (pt_cmpR op_eq (pv 1) (pg T.point rfl) (nomark _))
          (pss_cons (ps_expr (pf GR hr1 rfl pass_cx (pa_cons (pe_cmpR op_eq (pe_callB call_len_seq rfl T.nLen PySem.boot_len (pa_cons (pv 0) pa_nil)) (pg T.pointLen rfl) (nomark _)) pa_nil)))
            (pss_one (ps_ret (pe_make TS.made FI hr2 rfl TS.mgS bI .nil pass_no (pa_cons (pg T.point rfl) (pa_cons (pe_lst (pa_cons (pf GP hr4 rfl pass_cx (pa_cons (pv 0) (pa_cons pe_int (pa_cons pe_int pa_nil)))) pa_nil)) pa_nil)))))) pss_nil)
      (pss_one (ps_ret (pe_make TS.made FI hr2 rfl TS.mgS bI .nil pass_no (pa_cons (pv 1) (pa_cons (pf GA hr rfl pass_cx (pa_cons (pv 0) (pa_cons (pv 1) pa_nil))) pa_nil))))))))), ?_⟩
    rw [shape_eq hk] at kE kQ
    generalize hb : bytesOf ns = bs at *
    refine ⟨_, rfl, a, _, rfl, .inl hD.sq, _, _, rfl, rfl, _, rfl, iteE (fun h1 => kE (if_pos (by
      have : ¬ (4 : Int) ≤ (((ns.map V.int).length : Nat) : Int) := fun z => h1 (decide_eq_true z)
      rw [eV] at this
      omega)) H (Same.refl H)) (fun h1 => ?_)⟩
    have l1 : ¬ bs.length < 4 := by have := of_decide_eq_true h1; rw [eV] at this; omega
    rw [if_neg l1] at kE kQ
    refine ⟨_, rfl, a, ns, 0, rfl, hD.sq, hD.bt, by omega, ?_⟩
    rw [hb]
    refine ⟨_, rfl, rfl, _, rfl, ite2 (fun h2 => ?_) (fun h2 => ?_)⟩
    · -- nothing
      have z2 : Rc25.low bs 0 4 = 0 := by have := V.int.inj (of_decide_eq_true h2); omega
      rw [if_pos z2] at kE kQ
      refine ⟨_, rfl, a, _, rfl, .inl hD.sq, rfl, _, rfl, iteE (fun h3 => kE (if_neg fun c => h3 (decide_eq_true (congrArg V.int (by rw [eV, c]; rfl)))) H (Same.refl H)) (fun h3 => ?_)⟩
      have l3 : bs.length = 4 := by have := V.int.inj (of_decide_eq_true h3); rw [eV] at this; omega
      rw [if_pos l3] at kQ
      refine ⟨Nat.zero_le _, fun q hq => ?_⟩
      intro x dx nx nd ne
      exact made_shape (s := .null) nx nd rfl ⟨[], upd_same, ⟨rfl, fun i l z => by simp [Rc25.Shape.parts] at z⟩⟩ fun H2 e2 hs => kQ _ rfl H2 x ((same_upd (Same.refl H) hq).trans e2) hs
    · have z2 : ¬ Rc25.low bs 0 4 = 0 := fun z => h2 (decide_eq_true (by rw [z]; rfl))
      rw [if_neg z2] at kE kQ
      refine ⟨_, rfl, _, rfl, rfl, _, rfl, iteE (fun h3 => kE (if_pos fun c => h3 (decide_eq_true (by rw [c]))) H (Same.refl H)) (fun h3 => ?_)⟩
      have e3 : Rc25.low bs 0 4 = kind := by have := V.int.inj (of_decide_eq_true h3); omega
      rw [if_neg (fun z => z e3)] at kE kQ
      refine ⟨_, rfl, rfl, _, rfl, ite2 (fun h4 => ?_) (fun h4 => ?_)⟩
      · -- a point
        have k1 : kind = 1 := by have := V.int.inj (of_decide_eq_true h4); omega
        subst k1
        rw [if_pos rfl] at kE kQ
        refine ⟨_, rfl, a, _, rfl, .inl hD.sq, rfl, _, rfl, iteE (fun h5 => kE (if_neg fun c => h5 (decide_eq_true (congrArg V.int (by rw [eV, c.1]; rfl)))) H (Same.refl H)) (fun h5 => ?_)⟩
        have l5 : bs.length = 20 := by have := V.int.inj (of_decide_eq_true h5); rw [eV] at this; omega
        refine ⟨_, rfl, a, ns, 4, 1, rfl, hD, by omega, fun bad H' e => ?_, fun hg H1 d1 e1 hp1 => ?_⟩
        · rw [hb] at bad
          exact kE (if_neg fun c => by rw [c.2] at bad; cases bad) H' e
        rw [hb] at hg hp1
        rw [if_pos ⟨l5, hg⟩] at kQ
        refine ⟨by show 1 ≤ sizeLine; decide, fun q hq => ?_⟩
        intro x dx nx nd ne
        have e2 := same_upd (Same.refl H1) (o := .lst [.ref d1]) hq
        refine made_shape (s := .point (Rc25.low bs 4 8, Rc25.low bs 12 8)) nx nd rfl ⟨[.ref d1], upd_same, ⟨rfl, fun i l z => ?_⟩⟩ fun H2 e3 hs => kQ _ rfl H2 x (e1.trans (e2.trans e3)) hs
        match i, z with
        | 0, z =>
          cases z
          exact ⟨d1, rfl, hp1.same e2⟩
        | i + 1, z => simp [Rc25.Shape.parts] at z
      · -- parts
        have k1 : ¬ kind = 1 := fun z => h4 (decide_eq_true (by rw [z]; rfl))
        rw [if_neg k1] at kE kQ
        refine ⟨_, rfl, _, rfl, _, rfl, a, ns, kind, rfl, hD, fun hn H' e => ?_, fun l hl H1 d1 e1 hp1 => ?_⟩
        · rw [hb] at hn
          exact kE (by rw [hn]; rfl) H' e
        rw [hb] at hl
        rw [hl] at kQ
        intro x dx nx nd ne
        refine made_shape (s := shapeOf kind l) nx nd ?_ ?_ fun H2 e3 hs => kQ _ rfl H2 x (e1.trans e3) hs
        · unfold shapeOf
          rcases hk with z | z | z
          · exact absurd z k1
          · subst z; rfl
          · subst z; rfl
        · have : (shapeOf kind l).parts = l := by unfold shapeOf; split <;> rfl
          rw [this]
          exact hp1
/-! ### lists of shapes, and one list left out -/
structure ShapesL (S : Addr) (H : Hp) (vs : List V) (l : List Rc25.Shape) : Prop where
  len : vs.length = l.length
  at_ : ∀ (i : Nat) (s : Rc25.Shape), l[i]? = some s → ∃ a, vs[i]? = some (V.ref a) ∧ ShapeAt S H a s
def ShapesAt (S : Addr) (H : Hp) (a : Addr) (l : List Rc25.Shape) : Prop := ∃ vs, H a = some (.lst vs) ∧ ShapesL S H vs l
theorem ShapesL.same {S : Addr} {H H' : Hp} {vs : List V} {l : List Rc25.Shape} (h : ShapesL S H vs l) (e : Same H H') : ShapesL S H' vs l := ⟨h.len, fun i p q => let ⟨t, h1, h2⟩ := h.at_ i p q; ⟨t, h1, h2.same e⟩⟩
theorem ShapesAt.same {S : Addr} {H H' : Hp} {a : Addr} {l : List Rc25.Shape} (h : ShapesAt S H a l) (e : Same H H') : ShapesAt S H' a l := let ⟨vs, h1, h2⟩ := h; ⟨vs, e _ _ h1, h2.same e⟩
theorem ShapesL.snoc {S : Addr} {H : Hp} {vs : List V} {l : List Rc25.Shape} {s : Rc25.Shape} {a : Addr} (h : ShapesL S H vs l) (ha : ShapeAt S H a s) : ShapesL S H (vs ++ [.ref a]) (l ++ [s]) := by
  refine ⟨by rw [List.length_append, List.length_append, h.len]; rfl, fun i q hq => ?_⟩
  by_cases hi : i < l.length
  · rw [List.getElem?_append_left hi] at hq
    obtain ⟨u, h1, h2⟩ := h.at_ i q hq
    exact ⟨u, by rw [List.getElem?_append_left (by rw [h.len]; exact hi)]; exact h1, h2⟩
  · rw [List.getElem?_append_right (by omega)] at hq
    have e : i = l.length := by
      have := (List.getElem?_eq_some_iff.mp hq).1
      simp at this
      omega
    subst e
    rw [Nat.sub_self] at hq
    cases hq
    exact ⟨a, by rw [List.getElem?_append_right (by rw [h.len]; exact Nat.le_refl _), h.len, Nat.sub_self]; rfl, ha⟩
/-- the heap without what stands at d -/
def Msk (d : Addr) (H : Hp) : Hp := fun b => if b = d then none else H b
theorem msk_ne {d b : Addr} {H : Hp} (h : b ≠ d) : Msk d H b = H b := by unfold Msk; rw [if_neg h]
theorem msk_sub {d : Addr} {H : Hp} : Same (Msk d H) H := fun b o e => by
  unfold Msk at e
  split at e
  · cases e
  · exact e
theorem msk_upd {d : Addr} {H : Hp} {o : HO} : Msk d (upd H d o) = Msk d H := by
  funext b
  unfold Msk upd
  split
  · rfl
  · rfl
theorem msk_same {d : Addr} {H H' : Hp} (e : ∀ b o, H b = some o → b ≠ d → H' b = some o) : Same (Msk d H) (Msk d H') := fun b o z => by
  unfold Msk at z ⊢
  split at z
  · cases z
  · rename_i n
    rw [if_neg n]
    exact e b o z n
theorem same_msk {d : Addr} {H0 H : Hp} (e : Same H0 H) (h : H0 d = none) : Same H0 (Msk d H) := fun b o z => by
  rw [msk_ne (ne_of_none z h)]
  exact e b o z
section
variable {d : Addr} {H : Hp} {od : Obj} {u : HO}
theorem Pts.msk {vs : List V} {l : List Rc25.Point} (h : Pts H vs l) (hd : H d = some (.frz od u)) : Pts (Msk d H) vs l := ⟨h.len, fun i p q => let ⟨t, h1, h2⟩ := h.pt i p q; ⟨t, h1, by rw [msk_ne (ne_of h2 hd (by intro z; cases z))]; exact h2⟩⟩
theorem PtsAt.msk {a : Addr} {l : List Rc25.Point} (h : PtsAt H a l) (hd : H d = some (.frz od u)) : PtsAt (Msk d H) a l := let ⟨vs, h1, h2⟩ := h; ⟨vs, by rw [msk_ne (ne_of h1 hd (by intro z; cases z))]; exact h1, h2.msk hd⟩
theorem PartsAt.msk {a : Addr} {l : List (List Rc25.Point)} (h : PartsAt H a l) (hd : H d = some (.frz od u)) : PartsAt (Msk d H) a l :=
  let ⟨vs, h1, h2⟩ := h; ⟨vs, by rw [msk_ne (ne_of h1 hd (by intro z; cases z))]; exact h1, ⟨h2.len, fun i p q => let ⟨t, g1, g2⟩ := h2.at_ i p q; ⟨t, g1, g2.msk hd⟩⟩⟩
theorem ShapeAt.msk {S a : Addr} {s : Rc25.Shape} (h : ShapeAt S H a s) (hd : H d = some (.frz od u)) : ShapeAt S (Msk d H) a s :=
  let ⟨dx, q, h1, h2⟩ := h; ⟨dx, q, by rw [msk_ne (ne_of h1 hd (by intro z; cases z))]; exact h1, h2.msk hd⟩
theorem ShapesAt.msk {S a : Addr} {l : List Rc25.Shape} (h : ShapesAt S H a l) (hd : H d = some (.frz od u)) : ShapesAt S (Msk d H) a l :=
  let ⟨vs, h1, h2⟩ := h; ⟨vs, by rw [msk_ne (ne_of h1 hd (by intro z; cases z))]; exact h1, ⟨h2.len, fun i p q => let ⟨t, g1, g2⟩ := h2.at_ i p q; ⟨t, g1, g2.msk hd⟩⟩⟩
end
end
end Ls
end
section
set_option Elab.async false
set_option linter.all false
set_option maxRecDepth 100000
/-! Reading: the records. -/
namespace Ls
open PySem PySem.Spec PyProof.Rows L2 L3 Ma
open Rc25Neutral (bytesOf)
section
variable {P : Program} {w : World} {K : PySem.W.Frag} {mg : Str → Option Value} {base : Heap} {C : Addr}
/-! ### read_records -/
def recsOf (kind : Nat) (ns : List Int) : Option (List Rc25.Shape) := Rc25.records kind ((bytesOf ns).length + 1) 1 ((bytesOf ns).drop 100)
def spRecords (K : PySem.W.Frag) (C S : Addr) : Sp := fun vs H Q E => ∃ (a : Addr) (ns : List Int) (kind : Nat), vs = [.ref a, .int kind] ∧ (kind = 1 ∨ kind = 3 ∨ kind = 5) ∧ Dat K H a ns ∧ 100 ≤ ns.length ∧
  (recsOf kind ns = none → ∀ H', Same H H' → E (.ref C) none H') ∧ (∀ l, recsOf kind ns = some l → ∀ (H' : Hp) (d : Addr), Same H H' → ShapesAt S H' d l → Q (.ref d) H')
theorem scRecords : FnScope ["data", "kind", "shapes", "place", "content"] ["data", "kind"] (defScope (top 37)) := ⟨rfl, rfl, rfl, by decide +kernel, rfl, by decide +kernel, by decide +kernel⟩
theorem ok_records {S f : Addr} {fd : FuncData} (F : Fun K "read_records" "read_records" (top 37) f fd) (m : mg "read_records" = some (.ref f)) (b : Binds K fd ["data", "kind"] []) (T : Names mg) (GC : Ok P w K mg base C "read_content" 2 ["data", "place", "number"] (spContent K C))
    (GS : Ok P w K mg base C "read_shape" 7 ["content", "kind"] (spRdShape K C S)) : Ok P w K mg base C "read_records" 8 ["data", "kind"] (spRecords K C S) := by
  refine okE F m b scRecords (fun vs H Q E h => ?_) (fun cdv A outer s H vs Q E hr h => ?_)
  · obtain ⟨a, ns, kind, rfl, _⟩ := h
    rfl
  · obtain ⟨a, ns, kind, rfl, hk, hD, h100, kE, kQ⟩ := h
    have hle := hD.le
    have hr2 : Room 2 _ := hr.mono (by decide)
    have eL := len_bytes ns
    have eV : (ns.map V.int).length = ns.length := List.length_map _
    refine ⟨_, pss_cons (ps_set (i := 2) scRecords.nd rfl (Or.inl rfl) (pe_lst pa_nil))
      (pss_cons (ps_set (i := 3) scRecords.nd rfl (Or.inl rfl) (pg T.headLen rfl))
      (pss_cons (ps_while own_cx (pt_cmpR op_lt (pv 3) (pe_callB call_len_seq rfl T.nLen PySem.boot_len (pa_cons (pv 0) pa_nil)) (nomark _))
        (pss_cons (ps_set (i := 4) scRecords.nd rfl (Or.inl rfl) (pf GC hr2 rfl pass_cx (pa_cons (pv 0) (pa_cons (pv 3) (pa_cons (pe_op op_add (pe_callB call_len_seq rfl T.nLen PySem.boot_len (pa_cons (pv 2) pa_nil)) pe_int) pa_nil)))))
        (pss_cons (ps_expr (pe_bm PySem.F.plainAttrs_list PySem.F.slot_list_append PySem.F.type_list_append mt_append (pv 2) (pa_cons (pe_lock (pf GS hr rfl pass_cx (pa_cons (pv 4) (pa_cons (pv 1) pa_nil)))) pa_nil)))
        (pss_one (ps_aug (i := 3) scRecords.nd rfl (Or.inl rfl) (pe_op op_add (pg T.recHead rfl) (pe_callB call_len_seq rfl T.nLen PySem.boot_len (pa_cons (pv 4) pa_nil))) ip_add)))))
      (pss_one (ps_ret (pv 2))))), ?_⟩
    unfold recsOf at kE kQ
    generalize hb : bytesOf ns = bs at *
    refine ⟨Nat.zero_le _, fun sh hsh => ?_⟩
    refine ⟨fun m σ H' => ∃ (p g : Nat) (done : List Rc25.Shape) (v : Option V) (vs : List V), σ = [some (.ref a), some (.int kind), some (.ref sh), some (.int p), v] ∧ m = ns.length - p ∧ p ≤ ns.length ∧ Same H H' ∧ H' sh = some (.lst vs) ∧ ShapesL S (Msk sh H') vs done ∧
        done.length ≤ p ∧ g + done.length = ns.length + 1 ∧ Rc25.records kind (bs.length + 1) 1 (bs.drop 100) = (Rc25.records kind g (done.length + 1) (bs.drop p)).map (fun l => done ++ l),
      ⟨_, 100, ns.length + 1, [], none, [], rfl, rfl, h100, same_upd (Same.refl H) hsh, upd_same, ⟨rfl, fun i s q => by simp at q⟩, Nat.zero_le _, rfl, ?_⟩, ?_⟩
    · rw [eL]
      cases Rc25.records kind (ns.length + 1) (([] : List Rc25.Shape).length + 1) (bs.drop 100) <;> rfl
    rintro m σ H' ⟨p, g, done, v, vs, rfl, rfl, hp, e, hsh', hL, hdl, hg, hrec⟩
    refine ⟨_, rfl, _, rfl, a, _, rfl, .inl (hD.same e).sq, _, _, rfl, rfl, _, rfl, ite2 (fun h1 => ?_) (fun h1 => ?_)⟩
    · have lp : p < ns.length := by have := of_decide_eq_true h1; rw [eV] at this; omega
      obtain ⟨g, rfl⟩ : ∃ g', g = g' + 1 := ⟨g - 1, by omega⟩
      refine ⟨fun σ' H2 => ∃ m', m' < ns.length - p ∧ ∃ (p g : Nat) (done : List Rc25.Shape) (v : Option V) (vs : List V), σ' = [some (.ref a), some (.int kind), some (.ref sh), some (.int p), v] ∧ m' = ns.length - p ∧ p ≤ ns.length ∧ Same H H2 ∧ H2 sh = some (.lst vs) ∧ ShapesL S (Msk sh H2) vs done ∧
        done.length ≤ p ∧ g + done.length = ns.length + 1 ∧ Rc25.records kind (bs.length + 1) 1 (bs.drop 100) = (Rc25.records kind g (done.length + 1) (bs.drop p)).map (fun l => done ++ l), fun _ _ z => z, ?_⟩
      -- the content
      refine ⟨_, rfl, _, rfl, _, rfl, sh, _, rfl, .inl (SqL.of hsh'), _, _, rfl, rfl, a, ns, p, done.length + 1, (by rw [hL.len, show ((done.length + 1 : Nat) : Int) = (done.length : Int) + 1 from by omega]; rfl), hD.same e, fun bad H2 e2 => ?_, fun ok H1 dC e1 nC hC => ?_⟩
      · rw [hb] at bad
        exact kE (by rw [hrec]; exact more_none (by omega) (step_no bad)) H2 (e.trans e2)
      rw [hb] at ok hC
      have nds : dC ≠ sh := fun z => by rw [z, hsh'] at nC; cases nC
      have hlC : ((ns.drop (p + 8)).take (2 * Rc25.high bs (p + 4) 4)).length = 2 * Rc25.high bs (p + 4) 4 := by rw [List.length_take, List.length_drop]; have := ok.2.2; omega
      have hbC : bytesOf ((ns.drop (p + 8)).take (2 * Rc25.high bs (p + 4) 4)) = (bs.drop (p + 8)).take (2 * Rc25.high bs (p + 4) 4) := by rw [bytes_take, bytes_drop, hb]
      have hst := step_yes (kind := kind) ok
      -- the shape, while the list of shapes is locked
      refine ⟨_, rfl, .inl ⟨rfl, _, SqL.of (e1 _ _ hsh')⟩, sh, _, e1 _ _ hsh', trivial, fun od => ?_⟩
      have eK : Same H (upd H1 sh (.frz od (.lst vs))) := same_upd (e.trans e1) hsh
      refine ⟨_, rfl, _, rfl, dC, _, kind, rfl, hk, ⟨SqL.of (by rw [upd_ne nds]; exact hC), (hD.bt.drop _).take _, by rw [hlC]; have := ok.2.2; omega⟩, fun bad H2 e2 => ?_, fun s hs H2 x e2 hS => ?_⟩
      · rw [hbC] at bad
        exact kE (by rw [hrec]; exact more_none (by omega) (by rw [hst, bad]; rfl)) H2 (eK.trans e2)
      rw [hbC] at hs
      have h2 : H2 sh = some (.frz od (.lst vs)) := e2 _ _ upd_same
      refine ⟨h2, sh, vs, _, rfl, rfl, upd_same, fits (by rw [hL.len]; omega), ?_⟩
      have hC2 : upd (upd H2 sh (.lst vs)) sh (.lst (vs ++ [.ref x])) dC = some (.lst (((ns.drop (p + 8)).take (2 * Rc25.high bs (p + 4) 4)).map V.int)) := by
        rw [upd_ne nds, upd_ne nds]
        exact e2 _ _ (by rw [upd_ne nds]; exact hC)
      refine ⟨_, rfl, _, rfl, dC, _, rfl, .inl (SqL.of hC2), _, _, rfl, rfl, _, _, rfl, rfl, ?_⟩
      rw [hs] at hst
      refine ⟨ns.length - (p + 8 + 2 * Rc25.high bs (p + 4) 4), by have := ok.2.2; omega, p + 8 + 2 * Rc25.high bs (p + 4) 4, g, done ++ [s], some (.ref dC), vs ++ [.ref x], ?_, rfl, by have := ok.2.2; omega, ?_, upd_same, ?_, ?_, ?_, ?_⟩
      · rw [List.length_map, hlC, show ((p + 8 + 2 * Rc25.high bs (p + 4) 4 : Nat) : Int) = (p : Int) + (8 + ((2 * Rc25.high bs (p + 4) 4 : Nat) : Int)) by omega]
        rfl
      · exact same_upd (same_upd (eK.trans e2) hsh) hsh
      · rw [msk_upd, msk_upd]
        refine (hL.same ?_).snoc (hS.msk h2)
        exact msk_same fun b o z n => e2 b o (by rw [upd_ne n]; exact e1 b o z)
      · rw [List.length_append]
        show done.length + 1 ≤ _
        omega
      · rw [List.length_append]
        show g + (done.length + 1) = _
        omega
      · rw [hrec, more_some (by omega) hst, List.length_append]
        rfl
    · have lp : p = ns.length := by
        have : ¬ (p : Int) < (((ns.map V.int).length : Nat) : Int) := fun z => h1 (decide_eq_true z)
        rw [eV] at this
        omega
      obtain ⟨g, rfl⟩ : ∃ g', g = g' + 1 := ⟨g - 1, by omega⟩
      exact ⟨_, rfl, kQ done (by rw [hrec]; exact more_end (by omega)) H' sh e ⟨vs, hsh', hL.same msk_sub⟩⟩
end
end Ls
end
section
set_option Elab.async false
set_option linter.all false
set_option maxRecDepth 100000
/-! Reading: the head, the file. -/
namespace Ls
open PySem PySem.Spec PyProof.Rows L2 L3 Ma
open Rc25Neutral (bytesOf)
section
variable {P : Program} {w : World} {K : PySem.W.Frag} {mg : Str → Option Value} {base : Heap} {C : Addr}
/-! ### require_head -/
def spHead (K : PySem.W.Frag) (C : Addr) : Sp := fun vs H Q E => ∃ (a : Addr) (ns : List Int), vs = [.ref a] ∧ Dat K H a ns ∧ 100 ≤ ns.length ∧
  (¬ headM (bytesOf ns) → ∀ H', Same H H' → E (.ref C) none H') ∧ (headM (bytesOf ns) → ∀ H', Same H H' → Q .non H')
theorem scHead : FnScope ["data"] ["data"] (defScope (top 35)) := ⟨rfl, rfl, rfl, by decide +kernel, rfl, by decide +kernel, by decide +kernel⟩
theorem zero_any {l : List Int} : (!(l.any (· != 0))) = true ↔ ∀ x ∈ l, x = 0 := by
  rw [Bool.not_eq_true', List.any_eq_false]
  constructor
  · intro h x hx
    have := h x hx
    simpa using this
  · intro h x hx
    rw [h x hx]
    decide
theorem in_three (n : Nat) : inV (.int (n : Int)) [.int 1, .int 3, .int 5] = decide (n = 1 ∨ n = 3 ∨ n = 5) := by
  have e : ∀ k : Nat, eqV (.int (k : Int)) (.int (n : Int)) = decide (n = k) := fun k => by
    show ((k : Int) == (n : Int)) = _
    by_cases h : n = k
    · subst h; simp
    · have : ((k : Int) == (n : Int)) = false := by simp; omega
      rw [this]
      simp [h]
  have e1 := e 1
  have e3 := e 3
  have e5 := e 5
  show (eqV (.int ((1 : Nat) : Int)) (.int (n : Int)) || (eqV (.int ((3 : Nat) : Int)) (.int (n : Int)) || (eqV (.int ((5 : Nat) : Int)) (.int (n : Int)) || false))) = _
  rw [e1, e3, e5]
  by_cases h1 : n = 1 <;> by_cases h3 : n = 3 <;> by_cases h5 : n = 5 <;> simp [h1, h3, h5]
theorem ok_head {f : Addr} {fd : FuncData} (F : Fun K "require_head" "require_head" (top 35) f fd) (m : mg "require_head" = some (.ref f)) (b : Binds K fd ["data"] []) (T : Names mg) (GL : Ok P w K mg base C "whole_low" 1 ["data", "place"] (spLow K)) (GH : Ok P w K mg base C "whole_high" 1 ["data", "place"] (spHigh K))
    (GZ : Ok P w K mg base C "all_zero" 1 ["data", "start", "end"] (spZero K)) (GR : Ok P w K mg base C "require" 1 ["holds"] (spReq C)) : Ok P w K mg base C "require_head" 2 ["data"] (spHead K C) := by
  refine okE F m b scHead (fun vs H Q E h => ?_) (fun cdv A outer s H vs Q E hr h => ?_)
  · obtain ⟨a, ns, rfl, _⟩ := h
    rfl
  · obtain ⟨a, ns, rfl, hD, h100, kE, kQ⟩ := h
    have hle := hD.le
    have eL := len_bytes ns
    have eV : (ns.map V.int).length = ns.length := List.length_map _
    have hz1 := high_zeros hD.bt 4 20
    have hz2 := low_zeros hD.bt 68 32
    refine ⟨_, pss_cons (ps_expr (pf GR hr rfl pass_cx (pa_cons (pe_cmpR op_eq (pn GH hr rfl (pa_cons (pv 0) (pa_cons pe_int pa_nil))) pe_int (nomark _)) pa_nil)))
      (pss_cons (ps_expr (pf GR hr rfl pass_cx (pa_cons (pn GZ hr rfl (pa_cons (pv 0) (pa_cons pe_int (pa_cons pe_int pa_nil)))) pa_nil)))
      (pss_cons (ps_expr (pf GR hr rfl pass_cx (pa_cons (pe_cmpR op_eq (pe_op op_mul pe_int (pn GH hr rfl (pa_cons (pv 0) (pa_cons pe_int pa_nil)))) (pe_callB call_len_seq rfl T.nLen PySem.boot_len (pa_cons (pv 0) pa_nil)) (nomark _)) pa_nil)))
      (pss_cons (ps_expr (pf GR hr rfl pass_cx (pa_cons (pe_cmpR op_eq (pn GL hr rfl (pa_cons (pv 0) (pa_cons pe_int pa_nil))) pe_int (nomark _)) pa_nil)))
      (pss_cons (ps_expr (pf GR hr rfl pass_cx (pa_cons (pe_cmpR op_in_seq (pn GL hr rfl (pa_cons (pv 0) (pa_cons pe_int pa_nil))) (pe_tup (pa_cons (pg T.point rfl) (pa_cons (pg T.lines rfl) (pa_cons (pg T.area rfl) pa_nil)))) (by with_unfolding_all rfl)) pa_nil)))
      (pss_one (ps_expr (pf GR hr rfl pass_cx (pa_cons (pn GZ hr rfl (pa_cons (pv 0) (pa_cons pe_int (pa_cons (pg T.headLen rfl) pa_nil)))) pa_nil)))))))), ?_⟩
    generalize hb : bytesOf ns = bs at *
    refine ⟨_, rfl, a, ns, 0, rfl, hD.sq, hD.bt, by omega, ?_⟩
    rw [hb]
    refine ⟨rfl, _, rfl, iteE (fun h1 => kE (fun c => h1 (decide_eq_true (congrArg V.int (by rw [c.1]; rfl)))) H (Same.refl H)) (fun h1 => ?_)⟩
    have c1 : Rc25.high bs 0 4 = 9994 := by have := V.int.inj (of_decide_eq_true h1); omega
    refine ⟨_, rfl, a, ns, 4, 24, rfl, hD.sq, by decide, by omega, fun H1 e1 => ⟨_, rfl, iteE (fun h2 => kE (fun c => h2 (zero_any.mpr (hz1.mp c.2.1))) H1 e1) (fun h2 => ?_)⟩⟩
    have c2 : Rc25.high bs 4 20 = 0 := hz1.mpr (zero_any.mp h2)
    have hD1 := hD.same e1
    refine ⟨_, rfl, a, ns, 24, rfl, hD1.sq, hD.bt, by omega, ?_⟩
    rw [hb]
    refine ⟨_, _, rfl, rfl, .inl ⟨by decide, by decide⟩, _, rfl, a, _, rfl, .inl hD1.sq, rfl, _, rfl, iteE (fun h3 => kE (fun c => h3 (decide_eq_true (congrArg V.int (by rw [eV]; have := c.2.2.1; omega)))) H1 e1) (fun h3 => ?_)⟩
    have c3 : 2 * Rc25.high bs 24 4 = bs.length := by have := V.int.inj (of_decide_eq_true h3); rw [eV] at this; omega
    refine ⟨_, rfl, a, ns, 28, rfl, hD1.sq, hD.bt, by omega, ?_⟩
    rw [hb]
    refine ⟨rfl, _, rfl, iteE (fun h4 => kE (fun c => h4 (decide_eq_true (congrArg V.int (by rw [c.2.2.2.1]; rfl)))) H1 e1) (fun h4 => ?_)⟩
    have c4 : Rc25.low bs 28 4 = 1000 := by have := V.int.inj (of_decide_eq_true h4); omega
    refine ⟨_, rfl, a, ns, 32, rfl, hD1.sq, hD.bt, by omega, ?_⟩
    rw [hb]
    refine ⟨by show 3 ≤ sizeLine; decide, fun q hq => ?_⟩
    have e2 := e1.trans (same_upd (Same.refl H1) (o := .tup [.int 1, .int 3, .int 5]) hq)
    refine ⟨q, _, rfl, .inr (SqT.of upd_same), rfl, rfl, _, rfl, ?_⟩
    rw [in_three]
    refine iteE (fun h5 => kE (fun c => h5 (decide_eq_true c.2.2.2.2.1)) _ e2) (fun h5 => ?_)
    have c5 := of_decide_eq_true h5
    refine ⟨_, rfl, a, ns, 68, 100, rfl, (hD.same e2).sq, by decide, by omega, fun H3 e3 => ⟨_, rfl, iteE (fun h6 => kE (fun c => h6 (zero_any.mpr (hz2.mp c.2.2.2.2.2))) H3 (e2.trans e3)) (fun h6 => ?_)⟩⟩
    exact kQ ⟨c1, c2, c3, c4, c5, hz2.mpr (zero_any.mp h6)⟩ H3 (e2.trans e3)
/-! ### require_head_box -/
def spHeadBox (K : PySem.W.Frag) (C S : Addr) : Sp := fun vs H Q E => ∃ (a d : Addr) (ns : List Int) (l : List Rc25.Shape), vs = [.ref a, .ref d] ∧ Dat K H a ns ∧ 100 ≤ ns.length ∧ ShapesAt S H d l ∧ Fine (allPoints l) 16000 ∧
  (¬ Rc25.doubles (bytesOf ns) 36 4 = Rc25.boxOf (allPoints l) → ∀ H', Same H H' → E (.ref C) none H') ∧ (Rc25.doubles (bytesOf ns) 36 4 = Rc25.boxOf (allPoints l) → ∀ H', Same H H' → Q .non H')
theorem scHeadBox : FnScope ["data", "shapes", "points", "shape"] ["data", "shapes"] (defScope (top 36)) := ⟨rfl, rfl, rfl, by decide +kernel, rfl, by decide +kernel, by decide +kernel⟩
theorem all_one {l : List Rc25.Shape} {i : Nat} {s : Rc25.Shape} (h : l[i]? = some s) : allPoints (l.take (i + 1)) = allPoints (l.take i) ++ s.parts.flatten := by
  unfold allPoints
  rw [take_one h, List.flatMap_append]
  simp
theorem all_le {l : List Rc25.Shape} (i : Nat) : (allPoints (l.take i)).length ≤ (allPoints l).length := by
  unfold allPoints
  conv => rhs; rw [← List.take_append_drop i l, List.flatMap_append, List.length_append]
  exact Nat.le_add_right _ _
theorem ok_headBox {S fI fA f : Addr} {fd fdA : FuncData} (F : Fun K "require_head_box" "require_head_box" (top 36) f fd) (m : mg "require_head_box" = some (.ref f)) (b : Binds K fd ["data", "shapes"] []) (T : Names mg) (TS : ShapeCls K mg S fI fA)
    (FA : FnOk P w K mg base (CXE P w C) 1 fA fdA ["self"] (spAll S)) (bA : Binds K fdA ["self"] []) (GD : Ok P w K mg base C "doubles" 3 ["data", "place", "many"] (spDoubles K)) (GB : Ok P w K mg base C "box_of" 3 ["points"] spBox) (GR : Ok P w K mg base C "require" 1 ["holds"] (spReq C)) :
    Ok P w K mg base C "require_head_box" 4 ["data", "shapes"] (spHeadBox K C S) := by
  refine okE F m b scHeadBox (fun vs H Q E h => ?_) (fun cdv A outer s H vs Q E hr h => ?_)
  · obtain ⟨a, d, ns, l, rfl, _⟩ := h
    rfl
  · obtain ⟨a, d, ns, l, rfl, hD, h100, ⟨vs, hd, hL⟩, hF, kE, kQ⟩ := h
    have hr1 : Room 1 _ := hr.mono (by decide)
    have few := hF.few
    refine ⟨_, pss_cons (ps_set (i := 2) scHeadBox.nd rfl (Or.inl rfl) (pe_lst pa_nil))
      (pss_cons (ps_for own_cx rfl (pi_list (pv 1)) (pg_name (i := 3) scHeadBox.nd rfl (Or.inl rfl)) (pss_one (ps_expr (pe_bm PySem.F.plainAttrs_list PySem.F.slot_list_extend PySem.F.type_list_extend mt_extend (pv 2)
          (pa_cons (pe_lock (pe_meth0 (pv 3) TS.cl TS.all FA hr1 bA .nil pass_no)) pa_nil)))))
      (pss_one (ps_expr (pf GR hr1 rfl pass_cx (pa_cons (pe_cmpR (op_eqD hr.units) (pn GD hr rfl (pa_cons (pv 0) (pa_cons pe_int (pa_cons pe_int pa_nil)))) (pn GB hr rfl (pa_cons (pv 2) pa_nil)) (nomark _)) pa_nil))))), ?_⟩
    generalize hb : bytesOf ns = bs at *
    refine ⟨Nat.zero_le _, fun q hq => ?_⟩
    have e0 : Same H (upd H q (.lst [])) := same_upd (Same.refl H) hq
    refine ⟨_, rfl, d, rfl, ⟨_, SqL.of (e0 _ _ hd)⟩, for_list (K := K) (a := d) (xs := vs)
      (fun i σ H' => (∃ v, σ = [some (.ref a), some (.ref d), some (.ref q), v]) ∧ Same H H' ∧ ∃ acc, H' q = some (.lst acc) ∧ Pts H' acc (allPoints (l.take i)))
      ⟨⟨none, rfl⟩, e0, [], upd_same, ⟨rfl, fun i p hp => by simp [allPoints] at hp⟩⟩ (fun i σ H' _ z => SqL.of (z.2.1 _ _ hd)) ?_ ?_⟩
    · rintro i y σ H' hy ⟨⟨v, rfl⟩, e, acc, hacc, hP⟩
      have hi : i < l.length := by have := (List.getElem?_eq_some_iff.mp hy).1; have := hL.len; omega
      obtain ⟨t, g1, g2⟩ := hL.at_ i _ (List.getElem?_eq_getElem hi)
      rw [hy] at g1
      cases g1
      have hf := all_one (List.getElem?_eq_getElem hi)
      have hl0 : (allPoints (l.take i)).length + (l[i]).parts.flatten.length ≤ 1000 := by
        have := all_le (l := l) (i + 1)
        rw [hf, List.length_append] at this
        omega
      refine ⟨_, rfl, .inl ⟨rfl, _, SqL.of hacc⟩, q, _, hacc, trivial, fun od => ?_⟩
      have eK : Same H (upd H' q (.frz od (.lst acc))) := same_upd e hq
      obtain ⟨dx, q2, g3, g4⟩ := g2.same eK
      refine ⟨_, rfl, t, dx, _, rfl, g3, sf_no _ _ (by decide +kernel) (by decide +kernel), t, _, rfl, ⟨dx, q2, g3, g4⟩, by omega, fun H2 d2 e2 hp2 => ?_⟩
      have h2 : H2 q = some (.frz od (.lst acc)) := e2 _ _ upd_same
      obtain ⟨ws, g5, g6⟩ := hp2
      have n2 : d2 ≠ q := ne_of g5 h2 (by intro z; cases z)
      have hP2 : Pts H2 acc (allPoints (l.take i)) := ⟨hP.len, fun j p hp => by
        obtain ⟨u, k1, k2⟩ := hP.pt j p hp
        exact ⟨u, k1, e2 _ _ (by rw [upd_ne (ne_of k2 hacc (by intro z; cases z))]; exact k2)⟩⟩
      refine ⟨h2, q, d2, acc, ws, rfl, rfl, upd_same, by rw [upd_ne n2]; exact g5, Nat.le_of_lt (fits (by rw [hP.len, g6.len]; omega)), ⟨_, rfl⟩, same_upd (same_upd (eK.trans e2) hq) hq, _, upd_same, ?_⟩
      rw [hf]
      have hall := hP2.append g6
      exact ⟨hall.len, fun j p hp => by
        obtain ⟨u, k1, k2⟩ := hall.pt j p hp
        have nu := ne_of k2 h2 (by intro z; cases z)
        exact ⟨u, k1, by rw [upd_ne nu, upd_ne nu]; exact k2⟩⟩
    · rintro σ H' ⟨⟨v, rfl⟩, e, acc, hacc, hP⟩
      rw [hL.len, List.take_length] at hP
      refine ⟨_, rfl, a, ns, 36, 4, rfl, hD.same e, by omega, fun H2 d2 e2 hd2 => ?_⟩
      refine ⟨_, rfl, q, _, rfl, ⟨acc, e2 _ _ hacc, hP.same e2⟩, hF.bits, by omega, fun H3 d3 e3 hd3 => ?_⟩
      rw [hb] at hd2
      refine ⟨_, _, dp_ints (SqL.of (e3 _ _ hd2)), dp_ints (SqL.of hd3), shaped_ints _, shaped_ints _, _, rfl, ?_⟩
      rw [eqv_ints]
      have e4 := e.trans (e2.trans e3)
      exact iteE (fun h7 => kE (fun c => h7 (decide_eq_true c)) H3 e4) (fun h7 => kQ (of_decide_eq_true h7) H3 e4)
/-! ### read_file -/
def spFile (K : PySem.W.Frag) (C S : Addr) : Sp := fun vs H Q E => ∃ (a : Addr) (ns : List Int), vs = [.ref a] ∧ Dat K H a ns ∧
  (Rc25.file (bytesOf ns) = none → ∀ H', Same H H' → E (.ref C) none H') ∧ (∀ l, Rc25.file (bytesOf ns) = some l → ∀ (H' : Hp) (d : Addr), Same H H' → ShapesAt S H' d l → Q (.ref d) H')
theorem scFile : FnScope ["data", "shapes"] ["data"] (defScope (top 34)) := ⟨rfl, rfl, rfl, by decide +kernel, rfl, by decide +kernel, by decide +kernel⟩
theorem ok_file {S f : Addr} {fd : FuncData} (F : Fun K "read_file" "read_file" (top 34) f fd) (m : mg "read_file" = some (.ref f)) (b : Binds K fd ["data"] []) (T : Names mg) (GR : Ok P w K mg base C "require" 1 ["holds"] (spReq C)) (GH : Ok P w K mg base C "require_head" 2 ["data"] (spHead K C))
    (GL : Ok P w K mg base C "whole_low" 1 ["data", "place"] (spLow K)) (GRe : Ok P w K mg base C "read_records" 8 ["data", "kind"] (spRecords K C S)) (GB : Ok P w K mg base C "require_head_box" 4 ["data", "shapes"] (spHeadBox K C S)) : Ok P w K mg base C "read_file" 9 ["data"] (spFile K C S) := by
  refine okE F m b scFile (fun vs H Q E h => ?_) (fun cdv A outer s H vs Q E hr h => ?_)
  · obtain ⟨a, ns, rfl, _⟩ := h
    rfl
  · obtain ⟨a, ns, rfl, hD, kE, kQ⟩ := h
    have hle := hD.le
    have hr1 : Room 1 _ := hr.mono (by decide)
    have hr2 : Room 2 _ := hr.mono (by decide)
    have hr4 : Room 4 _ := hr.mono (by decide)
    have eL := len_bytes ns
    have eV : (ns.map V.int).length = ns.length := List.length_map _
    refine ⟨_, pss_cons (ps_expr (pf GR hr1 rfl pass_cx (pa_cons (pe_chain op_le op_le (pg T.headLen rfl) (pe_callB call_len_seq rfl T.nLen PySem.boot_len (pa_cons (pv 0) pa_nil)) (pg T.longest rfl)) pa_nil)))
      (pss_cons (ps_expr (pf GH hr2 rfl pass_cx (pa_cons (pv 0) pa_nil)))
      (pss_cons (ps_set (i := 1) scFile.nd rfl (Or.inl rfl) (pf GRe hr rfl pass_cx (pa_cons (pv 0) (pa_cons (pn GL hr1 rfl (pa_cons (pv 0) (pa_cons pe_int pa_nil))) pa_nil))))
      (pss_cons (ps_expr (pf GB hr4 rfl pass_cx (pa_cons (pv 0) (pa_cons (pv 1) pa_nil))))
      (pss_one (ps_ret (pv 1)))))), ?_⟩
    generalize hb : bytesOf ns = bs at *
    refine ⟨_, rfl, a, _, rfl, .inl hD.sq, _, _, rfl, rfl, _, rfl, iteE (fun h1 => ⟨_, rfl, iteF (kE (file_short (by
      have : ¬ (100 : Int) ≤ (((ns.map V.int).length : Nat) : Int) := fun z => h1 (decide_eq_true z)
      rw [eV] at this
      omega)) H (Same.refl H))⟩) (fun h1 => ?_)⟩
    have l1 : 100 ≤ ns.length := by have := of_decide_eq_true h1; rw [eV] at this; omega
    refine ⟨_, _, rfl, rfl, _, rfl, iteE (fun h2 => absurd (decide_eq_true (by rw [eV]; omega)) h2) (fun h2 => ?_)⟩
    refine ⟨_, rfl, a, ns, rfl, hD, l1, fun bad H' e => ?_, fun ok H1 e1 => ?_⟩
    · rw [hb] at bad
      exact kE (file_head bad) H' e
    rw [hb] at ok
    have hfile := file_eq (b := bs) (by omega) ok
    have hD1 := hD.same e1
    refine ⟨_, rfl, _, rfl, a, ns, 32, rfl, hD1.sq, hD.bt, by omega, ?_⟩
    rw [hb]
    refine ⟨a, ns, Rc25.low bs 32 4, rfl, ok.2.2.2.2.1, hD1, l1, fun bad H' e => ?_, fun l hl H2 d2 e2 hs2 => ?_⟩
    · unfold recsOf at bad
      rw [hb] at bad
      exact kE (by rw [hfile, bad]; rfl) H' (e1.trans e)
    unfold recsOf at hl
    rw [hb] at hl
    rw [hl] at hfile
    have hF : Fine (allPoints l) 16000 := (recs_fine ok.2.2.2.2.1 _ _ _ _ hl (by omega)).mono (by omega)
    refine ⟨_, rfl, _, rfl, a, d2, ns, l, rfl, hD1.same e2, l1, hs2, hF, fun bad H' e => ?_, fun okb H3 e3 => ?_⟩
    · rw [hb] at bad
      exact kE (by rw [hfile]; exact if_neg bad) H' (e1.trans (e2.trans e))
    rw [hb] at okb
    exact ⟨_, rfl, kQ l (by rw [hfile]; exact if_pos okb) H3 d2 (e1.trans (e2.trans e3)) (hs2.same e3)⟩
end
end Ls
end
section
set_option Elab.async false
set_option linter.all false
set_option maxRecDepth 100000
/-! The object. -/
namespace Ls
open PySem PySem.Spec PyProof.Rows L2 L3 Ma
open Rc25Neutral (bytesOf)
section
variable {P : Program} {w : World} {K : PySem.W.Frag} {mg : Str → Option Value} {base : Heap} {C : Addr}
/-! ### the class Land -/
def lf (x : V) : List (Str × V) := putF "shapes" x []
theorem lf_shapes (x : V) : (lf x).lookup ("shapes" : Str) = some x := by unfold lf; rw [lookup_putF, if_pos rfl]
theorem lf_no (x : V) {m : Str} (h : ¬ m = "shapes") : (lf x).lookup m = none := by
  unfold lf
  rw [lookup_putF, if_neg h]
  rfl
theorem lf_put (x y : V) : putF "shapes" y (lf x) = lf y := by
  show (if ("shapes" : Str) = "shapes" then [(("shapes" : Str), y)] else _) = ([("shapes", y)] : List (Str × V))
  rw [if_pos rfl]
structure LandCls (K : PySem.W.Frag) (mg : Str → Option Value) (L S : Addr) : Prop where
  cl : Cls K L
  ne : S ≠ L
  nS : NoAttr K L "shapes"
  mgL : mg "Land" = some (.ref L)
/-- what the object keeps: no file, or its shapes -/
def Held (S : Addr) (H : Hp) : Option (List Rc25.Shape) → V → Prop
  | none, v => v = .non
  | some l, v => ∃ d, v = .ref d ∧ ShapesAt S H d l
theorem Held.same {S : Addr} {H H' : Hp} {st : Option (List Rc25.Shape)} {v : V} (h : Held S H st v) (e : Same H H') : Held S H' st v := by
  cases st with
  | none => exact h
  | some l => obtain ⟨d, h1, h2⟩ := h; exact ⟨d, h1, h2.same e⟩
def LandAt (L S : Addr) (H : Hp) (a : Addr) (st : Option (List Rc25.Shape)) : Prop := ∃ dx v, H a = some (.ins L dx (lf v)) ∧ Held S H st v
theorem LandAt.same {L S : Addr} {H H' : Hp} {a : Addr} {st : Option (List Rc25.Shape)} (h : LandAt L S H a st) (e : Same H H') : LandAt L S H' a st := let ⟨dx, v, h1, h2⟩ := h; ⟨dx, v, e _ _ h1, h2.same e⟩
/-- a change of the object itself leaves the shapes as they are -/
theorem ShapesAt.put {S : Addr} {H : Hp} {a d L dx : Addr} {fs : List (Str × V)} {o : HO} {l : List Rc25.Shape} (h : ShapesAt S H d l) (ha : H a = some (.ins L dx fs)) (ne : S ≠ L) : ShapesAt S (upd H a o) d l := by
  obtain ⟨vs, h1, h2⟩ := h
  have nl : ∀ {b : Addr} {xs : List V}, H b = some (.lst xs) → b ≠ a := fun hb => ne_of hb ha (by intro z; cases z)
  have nt : ∀ {b : Addr} {xs : List V}, H b = some (.tup xs) → b ≠ a := fun hb => ne_of hb ha (by intro z; cases z)
  refine ⟨vs, by rw [upd_ne (nl h1)]; exact h1, h2.len, fun i s hs => ?_⟩
  obtain ⟨b, g1, ds, q, g2, ws, g3, g4⟩ := h2.at_ i s hs
  refine ⟨b, g1, ds, q, by rw [upd_ne (ne_of g2 ha (fun z => ne (HO.ins.inj z).1))]; exact g2, ws, by rw [upd_ne (nl g3)]; exact g3, g4.len, fun j p hp => ?_⟩
  obtain ⟨c, k1, us, k2, k3⟩ := g4.at_ j p hp
  refine ⟨c, k1, us, by rw [upd_ne (nl k2)]; exact k2, k3.len, fun n pt hpt => ?_⟩
  obtain ⟨t, m1, m2⟩ := k3.pt n pt hpt
  exact ⟨t, m1, by rw [upd_ne (nt m2)]; exact m2⟩
/-! ### Land() -/
def spLdInit (L : Addr) : Sp := fun vs H Q _ => ∃ (p dx : Addr), vs = [.ref p] ∧ H p = some (.ins L dx []) ∧ ∀ H' : Hp, H' p = some (.ins L dx (lf .non)) → (∀ b o, H b = some o → b ≠ p → H' b = some o) → Q .non H'
theorem scLdInit : FnScope ["self"] ["self"] (defScope (inClass (top 69) 0)) := ⟨rfl, rfl, rfl, by decide +kernel, rfl, by decide +kernel, by decide +kernel⟩
theorem ok_ldInit {L S f : Addr} {fd : FuncData} (F : Fun K "__init__" "Land.__init__" (inClass (top 69) 0) f fd) (T : LandCls K mg L S) : FnOk P w K mg base (CXE P w C) 1 f fd ["self"] (spLdInit L) := by
  refine okM F scLdInit (fun vs H Q E h => ?_) (fun cdv A outer s H vs Q E hr h => ?_)
  · obtain ⟨p, dx, rfl, _⟩ := h
    rfl
  · obtain ⟨p, dx, rfl, hp, k⟩ := h
    refine ⟨_, pss_one (ps_fld (pv 0) pe_non rfl), ?_⟩
    refine ⟨_, rfl, p, L, dx, [], rfl, hp, T.cl, T.nS, (by show 0 < 1000; decide), ?_⟩
    exact k _ upd_same fun b o e hb => by rw [upd_ne hb]; exact e
/-! ### take_file -/
/-- what a method answers: a new list of numbers; the object may have changed, nothing else -/
def Tells (L S : Addr) (H : Hp) (a : Addr) (Q : VK) (st : Option (List Rc25.Shape)) (r : List Int) : Prop :=
  ∀ (H' : Hp) (q : Addr), (∀ b o, H b = some o → b ≠ a → H' b = some o) → LandAt L S H' a st → H' q = some (.lst (r.map V.int)) → Q (.ref q) H'
def spTake (K : PySem.W.Frag) (L S : Addr) : Sp := fun vs H Q _ => ∃ (a d : Addr) (ns : List Int) (st : Option (List Rc25.Shape)), vs = [.ref a, .ref d] ∧ LandAt L S H a st ∧ Dat K H d ns ∧
  (Rc25.file (bytesOf ns) = none → Tells L S H a Q st [-1]) ∧ (∀ l, Rc25.file (bytesOf ns) = some l → Tells L S H a Q (some l) [0])
theorem scTake : FnScope ["self", "data", "shapes"] ["self", "data"] (defScope (inClass (top 69) 2)) := ⟨rfl, rfl, rfl, by decide +kernel, rfl, by decide +kernel, by decide +kernel⟩
theorem ok_take {L S f : Addr} {fd : FuncData} (F : Fun K "take_file" "Land.take_file" (inClass (top 69) 2) f fd) (T : LandCls K mg L S) (hR : Num mg "REFUSED" (-1)) (O : OwnCls "NotAFile" C excMro "Exception.__new__" mg base) (GF : Ok P w K mg base C "read_file" 9 ["data"] (spFile K C S)) :
    FnOk P w K mg base (CXE P w C) 10 f fd ["self", "data"] (spTake K L S) := by
  refine okM F scTake (fun vs H Q E h => ?_) (fun cdv A outer s H vs Q E hr h => ?_)
  · obtain ⟨a, d, ns, st, rfl, _⟩ := h
    rfl
  · obtain ⟨a, d, ns, st, rfl, ⟨dx, v, ha, hv⟩, hD, k1, k2⟩ := h
    refine ⟨_, pss_cons (ps_try (R := fun H' => Same H H' ∧ Rc25.file (bytesOf ns) = none) top_cx O PySem.F.excBase_Exception rfl (fun pn => pss_one (ps_set (i := 2) scTake.nd rfl (Or.inl rfl) (pf GF hr rfl (pass_try rfl rfl) (pa_cons (pv 1) pa_nil)))) (fun pn x => pss_one (ps_ret (pe_lst (pa_cons (pg hR rfl) pa_nil)))))
      (pss_cons (ps_fld (pv 0) (pv 2) rfl) (pss_one (ps_ret (pe_lst (pa_cons pe_int pa_nil))))), ?_⟩
    refine ⟨⟨_, rfl, d, ns, rfl, hD, fun bad H' e => ⟨e, bad⟩, fun l hl H1 d1 e1 hs1 => ?_⟩, fun σ' H' e => ?_⟩
    · refine ⟨_, rfl, _, rfl, a, L, dx, _, rfl, e1 _ _ ha, T.cl, T.nS, (by show 1 < 1000; decide), ?_⟩
      refine ⟨by show 1 ≤ sizeLine; decide, fun q hq => ?_⟩
      have e2 := same_upd (Same.refl (upd H1 a (.ins L dx (putF "shapes" (.ref d1) (lf v))))) (o := .lst [.int 0]) hq
      refine k2 l hl _ q (fun b o z n => e2 b o (by rw [upd_ne n]; exact e1 b o z)) ⟨dx, .ref d1, e2 _ _ (by rw [upd_same, lf_put]), d1, rfl, (hs1.put (e1 _ _ ha) T.ne).same e2⟩ upd_same
    · refine ⟨by show 1 ≤ sizeLine; decide, fun q hq => ?_⟩
      have e2 := e.1.trans (same_upd (Same.refl H') (o := .lst [.int (-1)]) hq)
      exact k1 e.2 _ q (fun b o z _ => e2 b o z) ⟨dx, v, e2 _ _ ha, hv.same e2⟩ upd_same
/-! ### about -/
theorem pick_some {l : List Rc25.Shape} {k : Int} (h0 : 0 ≤ k) (h1 : k < (l.length : Int)) : ∃ i s, k = ((i : Nat) : Int) ∧ l[i]? = some s ∧ Rc25.pick l k = some s := by
  have hi : k.toNat < l.length := by omega
  refine ⟨k.toNat, l[k.toNat], by omega, List.getElem?_eq_getElem hi, ?_⟩
  unfold Rc25.pick
  rw [if_neg (by omega), List.getElem?_eq_getElem hi]
theorem pick_none {l : List Rc25.Shape} {k : Int} (h : ¬ (0 ≤ k ∧ k < (l.length : Int))) : Rc25.pick l k = none := by
  unfold Rc25.pick
  by_cases h0 : k < 0
  · rw [if_pos h0]
  · rw [if_neg h0]
    exact List.getElem?_eq_none (by omega)
theorem shape_few {l : List Rc25.Shape} {i : Nat} {s : Rc25.Shape} (h : l[i]? = some s) : s.parts.flatten.length ≤ (allPoints l).length := by
  have := all_le (l := l) (i + 1)
  rw [all_one h, List.length_append] at this
  omega
end
end Ls
end
section
set_option Elab.async false
set_option linter.all false
set_option maxRecDepth 100000
set_option exponentiation.threshold 10000
/-! Sizes: the nearest double. -/
namespace Ls
open PySem PySem.Spec PyProof.Rows L2 L3 Ma
open Rc25Neutral (bytesOf)
section
variable {P : Program} {w : World} {K : PySem.W.Frag} {mg : Str → Option Value} {base : Heap} {C : Addr}
/-! ### without_last_bits -/
def spWlb : Sp := fun vs H Q _ => ∃ (m d : Nat), vs = [.int (m : Nat), .int (d : Nat)] ∧ 1 ≤ d ∧ d ≤ 5000 ∧ m < 2 ^ 5000 ∧ Q (.int (Ma.wlb m d : Nat)) H
theorem scWlb : FnScope ["whole", "dropped", "kept", "rest", "half"] ["whole", "dropped"] (defScope (top 55)) := ⟨rfl, rfl, rfl, by decide +kernel, rfl, by decide +kernel, by decide +kernel⟩
theorem shr_nat (m d : Nat) : ((m : Nat) : Int) / 2 ^ ((d : Nat) : Int).toNat = ((m / 2 ^ d : Nat) : Int) := by
  rw [Int.toNat_natCast, Int.natCast_ediv, Int.natCast_pow]
  rfl
theorem shl_nat (m d : Nat) : ((m : Nat) : Int) * 2 ^ ((d : Nat) : Int).toNat = ((m * 2 ^ d : Nat) : Int) := by
  rw [Int.toNat_natCast, Int.natCast_mul, Int.natCast_pow]
  rfl
theorem rest_nat (m d : Nat) : ((m : Nat) : Int) - ((m / 2 ^ d * 2 ^ d : Nat) : Int) = ((m % 2 ^ d : Nat) : Int) := by
  have := Nat.div_add_mod m (2 ^ d)
  rw [Nat.mul_comm] at this
  omega
theorem dk0 (c : Nat) : decide (V.int (c : Int) = V.int 0) = decide (c = 0) := dec_nat (b := 0)
theorem dk1 (c : Nat) : decide (V.int (c : Int) = V.int 1) = decide (c = 1) := dec_nat (b := 1)
theorem dk2 (c : Nat) : decide (V.int (c : Int) = V.int 2) = decide (c = 2) := dec_nat (b := 2)
theorem dk3 (c : Nat) : decide (V.int (c : Int) = V.int 3) = decide (c = 3) := dec_nat (b := 3)
theorem dk4 (c : Nat) : decide (V.int (c : Int) = V.int 4) = decide (c = 4) := dec_nat (b := 4)
theorem dk5 (c : Nat) : decide (V.int (c : Int) = V.int 5) = decide (c = 5) := dec_nat (b := 5)
theorem dk6 (c : Nat) : decide (V.int (c : Int) = V.int 6) = decide (c = 6) := dec_nat (b := 6)
theorem dec_nat2 {a b : Nat} : decide (V.int (a : Int) = V.int (b : Int)) = decide (a = b) := dec_nat
theorem ok_wlb {f : Addr} {fd : FuncData} (F : Fun K "without_last_bits" "without_last_bits" (top 55) f fd) (m : mg "without_last_bits" = some (.ref f)) (b : Binds K fd ["whole", "dropped"] []) : Ok P w K mg base C "without_last_bits" 1 ["whole", "dropped"] spWlb := by
  refine okE F m b scWlb (fun vs H Q E h => ?_) (fun cdv A outer s H vs Q E hr h => ?_)
  · obtain ⟨m, d, rfl, _⟩ := h
    rfl
  · obtain ⟨m, d, rfl, h1, h2, h3, k⟩ := h
    refine ⟨_, pss_cons (ps_set (i := 2) scWlb.nd rfl (Or.inl rfl) (pe_op op_shr (pv 0) (pv 1)))
      (pss_cons (ps_set (i := 3) scWlb.nd rfl (Or.inl rfl) (pe_op op_sub (pv 0) (pe_op op_shlB (pv 2) (pv 1))))
      (pss_cons (ps_set (i := 4) scWlb.nd rfl (Or.inl rfl) (pe_op op_shlB pe_int (pe_op op_sub (pv 1) pe_int)))
      (pss_cons (ps_if (PW.pt (pw_or (pt_cmpR op_gt (pv 3) (pv 4) (nomark _)) (pw_or1 (PW.pt (pw_and (pt_cmpR op_eq (pv 3) (pv 4) (nomark _)) (pw_and1 (pt_cmpR op_eq (pe_op op_mod (pv 2) pe_int) pe_int (nomark _)))))))) (pss_one (ps_ret (pe_op op_add (pv 2) pe_int))) pss_nil)
      (pss_one (ps_ret (pv 2)))))), ?_⟩
    have hq : m / 2 ^ d < 2 ^ 5000 := Nat.lt_of_le_of_lt (Nat.div_le_self _ _) h3
    refine ⟨_, rfl, _, rfl, _, _, rfl, rfl, (by show (0 : Int) ≤ (d : Int); omega), ?_⟩
    dsimp only
    rw [shr_nat]
    refine ⟨_, rfl, _, rfl, _, rfl, _, _, rfl, rfl, ⟨by omega, by omega, 5000, by decide, by rw [Int.natAbs_natCast]; exact hq⟩, _, _, rfl, rfl, ?_⟩
    dsimp only
    rw [shl_nat, rest_nat]
    refine ⟨_, rfl, _, _, rfl, rfl, _, _, rfl, rfl, ⟨by omega, by omega, 1, by decide, by decide⟩, ?_⟩
    have e3 : (1 : Int) * 2 ^ ((d : Int) - 1).toNat = ((2 ^ (d - 1) : Nat) : Int) := by
      rw [Int.one_mul, show ((d : Int) - 1).toNat = d - 1 by omega, Int.natCast_pow]
      rfl
    dsimp only
    rw [e3]
    have hp : 2 ^ d = 2 * 2 ^ (d - 1) := by
      rw [Nat.mul_comm, ← Nat.pow_succ]
      congr 1
      omega
    unfold Ma.wlb at k
    generalize m / 2 ^ d = q at *
    generalize m % 2 ^ d = r at *
    rw [hp] at k
    generalize 2 ^ (d - 1) = h at *
    clear hp hq h3
    have yes : (2 * h < 2 * r ∨ (2 * h = 2 * r ∧ q % 2 = 1)) → Q (.int ((q : Int) + 1)) H := fun c => by
      rw [if_pos c] at k
      exact k
    have no : ¬ (2 * h < 2 * r ∨ (2 * h = 2 * r ∧ q % 2 = 1)) → Q (.int (q : Int)) H := fun c => by
      rw [if_neg c] at k
      exact k
    refine ⟨_, rfl, _, rfl, _, _, rfl, rfl, _, rfl, ite2 (fun c1 => ?_) (fun c1 => ?_)⟩
    · have := of_decide_eq_true c1
      exact iteT ⟨_, rfl, _, _, rfl, rfl, yes (.inl (by omega))⟩
    have n1 : ¬ (h : Int) < (r : Int) := fun z => c1 (decide_eq_true z)
    refine ⟨_, rfl, _, rfl, rfl, _, rfl, ?_⟩
    rw [dec_nat2]
    refine ite2 (fun c2 => ?_) (fun c2 => ?_)
    · have e2 := of_decide_eq_true c2
      refine ⟨_, rfl, _, _, rfl, rfl, (by show (0 : Int) < 2; decide), rfl, _, rfl, ite2 (fun c3 => ?_) (fun c3 => ?_)⟩
      · have c3 : (q : Int) % 2 = 1 := V.int.inj (of_decide_eq_true c3)
        exact ⟨_, rfl, _, _, rfl, rfl, yes (.inr ⟨by omega, by omega⟩)⟩
      · have c3 : ¬ (q : Int) % 2 = 1 := fun z => c3 (decide_eq_true (congrArg V.int z))
        exact ⟨_, rfl, no (by omega)⟩
    · have e2 : ¬ r = h := fun z => c2 (decide_eq_true z)
      exact iteF ⟨_, rfl, no (by omega)⟩
/-! ### nearest_double -/
def spNear : Sp := fun vs H Q _ => ∃ z : Int, vs = [.int z] ∧ z.natAbs < 2 ^ 2300 ∧ Q (.int (Rc25.nearest z : Nat)) H
theorem scNear : FnScope ["size", "whole", "dropped", "bits"] ["size"] (defScope (top 54)) := ⟨rfl, rfl, rfl, by decide +kernel, rfl, by decide +kernel, by decide +kernel⟩
theorem boot_abs7 : bootBuiltins "abs" = some (.builtin "abs") := by decide +kernel
theorem boot_max7 : bootBuiltins "max" = some (.builtin "max") := by decide +kernel
theorem bits_of (n : Nat) : n = 0 ∧ Builtin.Int.intBits (n : Int) = 0 ∨ n ≠ 0 ∧ Builtin.Int.intBits (n : Int) = Nat.log2 n + 1 := by
  by_cases h : n = 0
  · subst h
    exact .inl ⟨rfl, Nat.le_zero.mp (intBits_le_iff.mpr (by decide))⟩
  · exact .inr ⟨h, bits_log h⟩
theorem ok_near {f : Addr} {fd : FuncData} (F : Fun K "nearest_double" "nearest_double" (top 54) f fd) (m : mg "nearest_double" = some (.ref f)) (b : Binds K fd ["size"] []) (T : Names mg) (GW : Ok P w K mg base C "without_last_bits" 1 ["whole", "dropped"] spWlb) : Ok P w K mg base C "nearest_double" 2 ["size"] spNear := by
  refine okE F m b scNear (fun vs H Q E h => ?_) (fun cdv A outer s H vs Q E hr h => ?_)
  · obtain ⟨z, rfl, _⟩ := h
    rfl
  · obtain ⟨z, rfl, hz, k⟩ := h
    refine ⟨_, pss_cons (ps_set (i := 1) scNear.nd rfl (Or.inl rfl) (pe_callB call_abs rfl T.nAbs boot_abs7 (pa_cons (pv 0) pa_nil)))
      (pss_cons (ps_set (i := 2) scNear.nd rfl (Or.inl rfl) (pe_callB (call_max2 rfl) rfl T.nMax boot_max7 (pa_cons (pe_op op_sub (pe_bits (pv 1)) (pg T.dWidth rfl)) (pa_cons (pg T.fewest rfl) pa_nil))))
      (pss_cons (ps_set (i := 3) scNear.nd rfl (Or.inl rfl) (pe_op op_add (pe_op op_shlB (pe_op op_sub (pv 2) (pg T.fewest rfl)) (pe_op op_sub (pg T.dWidth rfl) pe_int)) (pn GW hr rfl (pa_cons (pv 1) (pa_cons (pv 2) pa_nil)))))
      (pss_cons (ps_if (pt_cmpR op_lt (pv 0) pe_int (nomark _)) (pss_one (ps_ret (pe_op op_or (pg T.sign rfl) (pv 3)))) pss_nil)
      (pss_one (ps_ret (pv 3)))))), ?_⟩
    refine ⟨_, rfl, _, rfl, ?_⟩
    have e0 : (if z < 0 then -z else z) = ((z.natAbs : Nat) : Int) := by split <;> omega
    rw [e0]
    have hb := bits_of z.natAbs
    refine ⟨_, rfl, rfl, _, rfl, rfl, _, _, rfl, rfl, _, _, rfl, ?_⟩
    generalize Builtin.Int.intBits ((z.natAbs : Nat) : Int) = bl at hb ⊢
    have e1 : (if (1075 : Int) > ((bl : Nat) : Int) - 53 then (1075 : Int) else ((bl : Nat) : Int) - 53) = ((Ma.drp bl : Nat) : Int) := by
      unfold Ma.drp
      split <;> omega
    rw [e1]
    obtain ⟨lt, bl2⟩ := near_lt hb hz
    rw [nearest_eq z hb] at k
    have d1 : 1075 ≤ Ma.drp bl := by unfold Ma.drp; omega
    have d2 : Ma.drp bl ≤ 5000 := by unfold Ma.drp; omega
    generalize Ma.drp bl = d at *
    refine ⟨_, rfl, _, _, rfl, rfl, _, _, rfl, rfl, _, _, rfl, rfl, ⟨by omega, by omega, 20, by decide, by omega⟩, _, rfl, _, rfl, z.natAbs, d, rfl, by omega, d2, Nat.lt_of_lt_of_le hz (Nat.pow_le_pow_right (by decide) (by decide)), _, _, rfl, rfl, ?_⟩
    have e2 : ((d : Int) - 1075) * 2 ^ ((53 : Int) - 1).toNat + ((Ma.wlb z.natAbs d : Nat) : Int) = (((d - 1075) * 2 ^ 52 + Ma.wlb z.natAbs d : Nat) : Int) := by
      rw [show ((53 : Int) - 1).toNat = 52 from rfl]
      omega
    dsimp only
    rw [e2]
    generalize (d - 1075) * 2 ^ 52 + Ma.wlb z.natAbs d = v at *
    refine ⟨_, rfl, _, _, rfl, rfl, _, rfl, ite2 (fun c1 => ?_) (fun c1 => ?_)⟩
    · have c := of_decide_eq_true c1
      refine ⟨_, rfl, _, _, rfl, rfl, ?_⟩
      rw [if_pos c] at k
      have e := Bits.bitOr_join' (a := (v : Int)) (b := 1) (k := 63) (by omega) (by omega) (by decide)
      rw [show (1 : Int) * 2 ^ 63 = 9223372036854775808 from by decide] at e
      have e4 : ((2 ^ 63 + v : Nat) : Int) = Builtin.bitOr 9223372036854775808 (v : Int) := by rw [e]; omega
      rw [e4] at k
      exact k
    · have c : ¬ z < 0 := fun y => c1 (decide_eq_true y)
      rw [if_neg c, Nat.zero_add] at k
      exact ⟨_, rfl, k⟩
/-! ### size_bits -/
/-- a part of a shape that is fine -/
theorem part_in {ps : List (List Rc25.Point)} {n : Nat} (h : Fine ps.flatten n) {i : Nat} {l : List Rc25.Point} (hl : ps[i]? = some l) : Rc25.good l = true ∧ Bits64 l ∧ 16 * l.length ≤ n := by
  have hm := List.mem_of_getElem? hl
  have sub : ∀ p ∈ l, p ∈ ps.flatten := fun p hp => List.mem_flatten.mpr ⟨l, hm, hp⟩
  refine ⟨List.all_eq_true.mpr fun p hp => List.all_eq_true.mp h.good p (sub p hp), fun p hp => h.bits p (sub p hp), ?_⟩
  have := len_part hm
  have := h.few
  omega
theorem inside_no {s : Rc25.Shape} (h : s.kind ≠ 5) : s.inside = 0 := by
  cases s with
  | area l => exact absurd rfl h
  | null => rfl
  | point p => rfl
  | lines l => rfl
theorem inside_is {s : Rc25.Shape} (h : s.kind = 5) : s.inside = -(s.parts.map Rc25.around).sum := by
  cases s with
  | area l => rfl
  | null => cases h
  | point p => cases h
  | lines l => cases h
def spSize (S : Addr) : Sp := fun vs H Q _ => ∃ (a : Addr) (s : Rc25.Shape), vs = [.ref a] ∧ ShapeAt S H a s ∧ Fine s.parts.flatten 16000 ∧ s.parts.length ≤ 16000 ∧ ∀ H', Same H H' → Q (.int (Rc25.nearest s.inside : Nat)) H'
theorem scSize : FnScope ["shape", "ring"] ["shape"] (defScope (top 53)) := ⟨rfl, rfl, rfl, by decide +kernel, rfl, by decide +kernel, by decide +kernel⟩
theorem ok_size {S fI fA f : Addr} {fd : FuncData} (F : Fun K "size_bits" "size_bits" (top 53) f fd) (m : mg "size_bits" = some (.ref f)) (b : Binds K fd ["shape"] []) (T : Names mg) (TS : ShapeCls K mg S fI fA) (GN : Ok P w K mg base C "nearest_double" 2 ["size"] spNear) (GR : Ok P w K mg base C "goes_round" 4 ["ring"] (spRound K)) :
    Ok P w K mg base C "size_bits" 5 ["shape"] (spSize S) := by
  refine okE F m b scSize (fun vs H Q E h => ?_) (fun cdv A outer s H vs Q E hr h => ?_)
  · obtain ⟨a, s, rfl, _⟩ := h
    rfl
  · obtain ⟨a, sh, rfl, ⟨dx, q, ha, vs, hq, hL⟩, hF, hPn, k⟩ := h
    have hr2 : Room 2 _ := hr.mono (by decide)
    have few := hF.few
    refine ⟨_, pss_cons (ps_if (pt_cmpR op_ne (pe_fld (pv 0) rfl) (pg T.area rfl) (nomark _)) (pss_one (ps_ret pe_int)) pss_nil)
      (pss_one (ps_ret (pn GN hr2 rfl (pa_cons (pe_un un_neg (pe_callB (cr_sum rfl) rfl T.nSum boot_sum (pa_cons (pe_lc rfl scSize.nd (pi_list (pe_fld (pv 0) rfl)) (blkOk_by (N := ["shape", "ring"]) (sc := defScope (top 53)) (own := [("ring", 1)]) (by decide +kernel)) (fun _ _ _ _ _ => pg_name (i := 1) scSize.nd rfl (Or.inl rfl)) (fun _ _ _ _ _ => pts_nil)
        (fun _ _ _ _ _ => pn GR hr rfl (pa_cons (pv 1) pa_nil))) pa_nil))) pa_nil)))), ?_⟩
    refine ⟨_, rfl, a, S, dx, _, _, rfl, ha, TS.cl, TS.nK, sf_kind _ _, rfl, _, rfl, ?_⟩
    rw [dk5]
    by_cases c : sh.kind = 5
    · rw [decide_eq_true c]
      refine iteF ?_
      refine ⟨_, rfl, a, S, dx, _, _, rfl, ha, TS.cl, TS.nP, sf_parts _ _, q, rfl, ⟨_, SqL.of hq⟩, fun D hD => ?_⟩
      refine lc_list (K := K) (a := q) (xs := vs) (fun i H' => Same H H' ∧ H' D = some (.lst (((sh.parts.take i).map Rc25.around).map V.int))) ⟨same_upd (Same.refl H) hD, upd_same⟩ (fun i H' _ p => SqL.of (p.1 _ _ hq)) ?_ ?_
      · rintro i x H' hx ⟨e, hd⟩
        have hi : i < sh.parts.length := by have := (List.getElem?_eq_some_iff.mp hx).1; have := hL.len; omega
        have hs := List.getElem?_eq_getElem hi
        generalize sh.parts[i] = l at hs
        obtain ⟨t, g1, g2⟩ := hL.at_ i l hs
        rw [hx] at g1
        cases g1
        obtain ⟨f1, f2, f3⟩ := part_in hF hs
        refine ⟨rfl, ?_⟩
        refine ⟨_, rfl, t, l, rfl, g2.same e, f2, f1, by omega, fun H2 e2 => ?_⟩
        refine ⟨_, e2 _ _ hd, fits (by rw [List.length_map, List.length_map, List.length_take]; omega), same_upd (e.trans e2) hD, ?_⟩
        rw [upd_same, take_one hs, List.map_append, List.map_append]
        rfl
      · rintro H' ⟨e, hd⟩
        rw [hL.len, List.take_length] at hd
        refine ⟨D, _, rfl, SqL.of hd, ?_⟩
        refine ⟨_, rfl, _, rfl, ?_, ?_⟩
        · rw [← inside_is c]
          exact inside_abs hF.good (by omega)
        · rw [← inside_is c]
          exact k H' e
    · rw [decide_eq_false c]
      refine iteT ?_
      have := k H (Same.refl H)
      rw [inside_no c] at this
      exact this
end
end Ls
end
section
set_option Elab.async false
set_option linter.all false
set_option maxRecDepth 100000
set_option exponentiation.threshold 10000
/-! Whether a shape holds a point. -/
namespace Ls
open PySem PySem.Spec PyProof.Rows L2 L3 Ma
open Rc25Neutral (bytesOf)
section
variable {P : Program} {w : World} {K : PySem.W.Frag} {mg : Str → Option Value} {base : Heap} {C : Addr}
/-- coordinates both -/
def Cd (p : Rc25.Point) : Prop := Rc25.coordinate p.1 = true ∧ Rc25.coordinate p.2 = true
theorem sub_abs {a b : Int} {m : Nat} (ha : a.natAbs < 2 ^ m) (hb : b.natAbs < 2 ^ m) : (a - b).natAbs < 2 ^ (m + 1) := by
  rw [Nat.pow_succ]
  generalize 2 ^ m = M at *
  omega
/-! ### turn -/
def spTurn : Sp := fun vs H Q _ => ∃ (p a b : Addr) (p0 a0 b0 : Rc25.Point), vs = [.ref p, .ref a, .ref b] ∧ XY H p p0 ∧ XY H a a0 ∧ XY H b b0 ∧ Cd p0 ∧ Cd a0 ∧ Cd b0 ∧ Q (.int (Rc25.turn a0 b0 p0)) H
theorem scTurn : FnScope ["point", "start", "end", "along"] ["point", "start", "end"] (defScope (top 49)) := ⟨rfl, rfl, rfl, by decide +kernel, rfl, by decide +kernel, by decide +kernel⟩
theorem ok_turn {f : Addr} {fd : FuncData} (F : Fun K "turn" "turn" (top 49) f fd) (m : mg "turn" = some (.ref f)) (b : Binds K fd ["point", "start", "end"] []) : Ok P w K mg base C "turn" 1 ["point", "start", "end"] spTurn := by
  refine okE F m b scTurn (fun vs H Q E h => ?_) (fun cdv A outer s H vs Q E hr h => ?_)
  · obtain ⟨p, a, b, p0, a0, b0, rfl, _⟩ := h
    rfl
  · obtain ⟨p, a, b, p0, a0, b0, rfl, hp, ha, hb, cp, ca, cb, k⟩ := h
    refine ⟨_, pss_cons (ps_set (i := 3) scTurn.nd rfl (Or.inl rfl) (pe_op op_mulB (pe_op op_sub (pe_ix (r := rIxT K) ix_tup (pv 2) pe_int (fun _ _ => rfl)) (pe_ix (r := rIxT K) ix_tup (pv 1) pe_int (fun _ _ => rfl))) (pe_op op_sub (pe_ix (r := rIxT K) ix_tup (pv 0) pe_int (fun _ _ => rfl)) (pe_ix (r := rIxT K) ix_tup (pv 1) pe_int (fun _ _ => rfl)))))
      (pss_one (ps_ret (pe_op op_sub (pv 3) (pe_op op_mulB (pe_op op_sub (pe_ix (r := rIxT K) ix_tup (pv 2) pe_int (fun _ _ => rfl)) (pe_ix (r := rIxT K) ix_tup (pv 1) pe_int (fun _ _ => rfl))) (pe_op op_sub (pe_ix (r := rIxT K) ix_tup (pv 0) pe_int (fun _ _ => rfl)) (pe_ix (r := rIxT K) ix_tup (pv 1) pe_int (fun _ _ => rfl))))))), ?_⟩
    have m1 := mul_ok (sub_abs (worth_abs cb.1) (worth_abs ca.1)) (sub_abs (worth_abs cp.2) (worth_abs ca.2)) (by decide)
    have m2 := mul_ok (sub_abs (worth_abs cb.2) (worth_abs ca.2)) (sub_abs (worth_abs cp.1) (worth_abs ca.1)) (by decide)
    refine ⟨_, rfl, b, _, _, _, rfl, rfl, SqT.of hb, atI_nat (j := 0) rfl, _, rfl, a, _, _, _, rfl, rfl, SqT.of ha, atI_nat (j := 0) rfl, _, _, rfl, rfl, ?_⟩
    refine ⟨_, rfl, p, _, _, _, rfl, rfl, SqT.of hp, atI_nat (j := 1) rfl, _, rfl, a, _, _, _, rfl, rfl, SqT.of ha, atI_nat (j := 1) rfl, _, _, rfl, rfl, _, _, rfl, rfl, m1, ?_⟩
    refine ⟨_, rfl, _, rfl, b, _, _, _, rfl, rfl, SqT.of hb, atI_nat (j := 1) rfl, _, rfl, a, _, _, _, rfl, rfl, SqT.of ha, atI_nat (j := 1) rfl, _, _, rfl, rfl, ?_⟩
    refine ⟨_, rfl, p, _, _, _, rfl, rfl, SqT.of hp, atI_nat (j := 0) rfl, _, rfl, a, _, _, _, rfl, rfl, SqT.of ha, atI_nat (j := 0) rfl, _, _, rfl, rfl, _, _, rfl, rfl, m2, _, _, rfl, rfl, k⟩
/-! ### is_between -/
def spBetween : Sp := fun vs H Q _ => ∃ (x y z : Int), vs = [.int x, .int y, .int z] ∧ Q (.bl (Rc25.between x z y)) H
theorem scBetween : FnScope ["one", "value", "other"] ["one", "value", "other"] (defScope (top 47)) := ⟨rfl, rfl, rfl, by decide +kernel, rfl, by decide +kernel, by decide +kernel⟩
theorem ok_between {f : Addr} {fd : FuncData} (F : Fun K "is_between" "is_between" (top 47) f fd) (m : mg "is_between" = some (.ref f)) (b : Binds K fd ["one", "value", "other"] []) : Ok P w K mg base C "is_between" 1 ["one", "value", "other"] spBetween := by
  refine okE F m b scBetween (fun vs H Q E h => ?_) (fun cdv A outer s H vs Q E hr h => ?_)
  · obtain ⟨x, y, z, rfl, _⟩ := h
    rfl
  · obtain ⟨x, y, z, rfl, k⟩ := h
    refine ⟨_, pss_one (ps_ret (pe_or (pe_chain op_le op_le (pv 0) (pv 1) (pv 2)) (pe_one (pe_chain op_le op_le (pv 2) (pv 1) (pv 0))))), ?_⟩
    have fin : ∀ c : Bool, (c = true ↔ (x ≤ y ∧ y ≤ z) ∨ (z ≤ y ∧ y ≤ x)) → Q (.bl c) H := fun c h => by
      have e : Rc25.between x z y = c := by
        unfold Rc25.between
        rw [Bool.eq_iff_iff, h, Bool.or_eq_true, decide_eq_true_eq, decide_eq_true_eq]
      rw [e] at k
      exact k
    refine ⟨_, rfl, _, rfl, _, _, rfl, rfl, _, rfl, ite2 (fun h1 => ?_) (fun h1 => ?_)⟩
    · have h1 := of_decide_eq_true h1
      refine ⟨_, rfl, _, _, rfl, rfl, _, rfl, ite2 (fun h2 => ?_) (fun h2 => ?_)⟩
      · have h2 := of_decide_eq_true h2
        exact fin true (by simp only [true_iff]; omega)
      · have h2 : ¬ y ≤ z := fun q => h2 (decide_eq_true q)
        refine ⟨_, rfl, _, rfl, _, _, rfl, rfl, _, rfl, ite2 (fun h3 => ?_) (fun h3 => ?_)⟩
        · have h3 := of_decide_eq_true h3
          refine ⟨_, rfl, _, _, rfl, rfl, fin _ ?_⟩
          rw [decide_eq_true_eq]
          omega
        · have h3 : ¬ z ≤ y := fun q => h3 (decide_eq_true q)
          exact fin false (by simp only [Bool.false_eq_true, false_iff]; omega)
    · have h1 : ¬ x ≤ y := fun q => h1 (decide_eq_true q)
      refine ⟨_, rfl, iteF ?_⟩
      refine ⟨_, rfl, _, rfl, _, _, rfl, rfl, _, rfl, ite2 (fun h3 => ?_) (fun h3 => ?_)⟩
      · have h3 := of_decide_eq_true h3
        refine ⟨_, rfl, _, _, rfl, rfl, fin _ ?_⟩
        rw [decide_eq_true_eq]
        omega
      · have h3 : ¬ z ≤ y := fun q => h3 (decide_eq_true q)
        exact fin false (by simp only [Bool.false_eq_true, false_iff]; omega)
/-! ### lies_on -/
def spOn : Sp := fun vs H Q _ => ∃ (p a b : Addr) (p0 a0 b0 : Rc25.Point), vs = [.ref p, .ref a, .ref b] ∧ XY H p p0 ∧ XY H a a0 ∧ XY H b b0 ∧ Cd p0 ∧ Cd a0 ∧ Cd b0 ∧ Q (.bl (Rc25.onSide a0 b0 p0)) H
theorem scOn : FnScope ["point", "start", "end"] ["point", "start", "end"] (defScope (top 46)) := ⟨rfl, rfl, rfl, by decide +kernel, rfl, by decide +kernel, by decide +kernel⟩
theorem dec_z {a : Int} : decide (V.int a = V.int 0) = decide (a = 0) := by
  rw [dec_int]
  by_cases h : a = 0
  · simp [h]
  · simp [h]
theorem ok_on {f : Addr} {fd : FuncData} (F : Fun K "lies_on" "lies_on" (top 46) f fd) (m : mg "lies_on" = some (.ref f)) (b : Binds K fd ["point", "start", "end"] []) (GB : Ok P w K mg base C "is_between" 1 ["one", "value", "other"] spBetween) (GT : Ok P w K mg base C "turn" 1 ["point", "start", "end"] spTurn) :
    Ok P w K mg base C "lies_on" 2 ["point", "start", "end"] spOn := by
  refine okE F m b scOn (fun vs H Q E h => ?_) (fun cdv A outer s H vs Q E hr h => ?_)
  · obtain ⟨p, a, b, p0, a0, b0, rfl, _⟩ := h
    rfl
  · obtain ⟨p, a, b, p0, a0, b0, rfl, hp, ha, hb, cp, ca, cb, k⟩ := h
    refine ⟨_, pss_cons (ps_if (pt_not (pt_truth (pn GB hr rfl (pa_cons (pe_ix (r := rIxT K) ix_tup (pv 1) pe_int (fun _ _ => rfl)) (pa_cons (pe_ix (r := rIxT K) ix_tup (pv 0) pe_int (fun _ _ => rfl)) (pa_cons (pe_ix (r := rIxT K) ix_tup (pv 2) pe_int (fun _ _ => rfl)) pa_nil)))) (fun _ => rfl))) (pss_one (ps_ret pe_bl)) pss_nil)
      (pss_one (ps_ret (pe_and (pn GB hr rfl (pa_cons (pe_ix (r := rIxT K) ix_tup (pv 1) pe_int (fun _ _ => rfl)) (pa_cons (pe_ix (r := rIxT K) ix_tup (pv 0) pe_int (fun _ _ => rfl)) (pa_cons (pe_ix (r := rIxT K) ix_tup (pv 2) pe_int (fun _ _ => rfl)) pa_nil))))
        (pe_one (pe_cmpR op_eq (pn GT hr rfl (pa_cons (pv 0) (pa_cons (pv 1) (pa_cons (pv 2) pa_nil)))) pe_int (nomark _)))))), ?_⟩
    rw [onSide_eq] at k
    refine ⟨_, rfl, a, _, _, _, rfl, rfl, SqT.of ha, atI_nat (j := 1) rfl, _, rfl, p, _, _, _, rfl, rfl, SqT.of hp, atI_nat (j := 1) rfl, _, rfl, b, _, _, _, rfl, rfl, SqT.of hb, atI_nat (j := 1) rfl, _, _, _, rfl, _, rfl, ?_⟩
    cases h1 : Rc25.between (Rc25.y a0) (Rc25.y b0) (Rc25.y p0) with
    | false =>
      rw [h1, Bool.false_and] at k
      exact iteT k
    | true =>
      rw [h1, Bool.true_and] at k
      refine iteF ?_
      refine ⟨_, rfl, a, _, _, _, rfl, rfl, SqT.of ha, atI_nat (j := 0) rfl, _, rfl, p, _, _, _, rfl, rfl, SqT.of hp, atI_nat (j := 0) rfl, _, rfl, b, _, _, _, rfl, rfl, SqT.of hb, atI_nat (j := 0) rfl, _, _, _, rfl, _, rfl, ?_⟩
      cases h2 : Rc25.between (Rc25.x a0) (Rc25.x b0) (Rc25.x p0) with
      | false =>
        rw [h2, Bool.false_and] at k
        exact iteF k
      | true =>
        rw [h2, Bool.true_and] at k
        refine iteT ?_
        refine ⟨_, rfl, _, rfl, _, rfl, p, a, b, p0, a0, b0, rfl, hp, ha, hb, cp, ca, cb, rfl, ?_⟩
        rw [dec_z]
        exact k
/-! ### is_crossed -/
def spCrossed : Sp := fun vs H Q _ => ∃ (p a b : Addr) (p0 a0 b0 : Rc25.Point), vs = [.ref p, .ref a, .ref b] ∧ XY H p p0 ∧ XY H a a0 ∧ XY H b b0 ∧ Cd p0 ∧ Cd a0 ∧ Cd b0 ∧ Q (.bl (Rc25.crosses a0 b0 p0)) H
theorem scCrossed : FnScope ["point", "start", "end"] ["point", "start", "end"] (defScope (top 48)) := ⟨rfl, rfl, rfl, by decide +kernel, rfl, by decide +kernel, by decide +kernel⟩
theorem ok_crossed {f : Addr} {fd : FuncData} (F : Fun K "is_crossed" "is_crossed" (top 48) f fd) (m : mg "is_crossed" = some (.ref f)) (b : Binds K fd ["point", "start", "end"] []) (GT : Ok P w K mg base C "turn" 1 ["point", "start", "end"] spTurn) :
    Ok P w K mg base C "is_crossed" 2 ["point", "start", "end"] spCrossed := by
  refine okE F m b scCrossed (fun vs H Q E h => ?_) (fun cdv A outer s H vs Q E hr h => ?_)
  · obtain ⟨p, a, b, p0, a0, b0, rfl, _⟩ := h
    rfl
  · obtain ⟨p, a, b, p0, a0, b0, rfl, hp, ha, hb, cp, ca, cb, k⟩ := h
    refine ⟨_, pss_cons (ps_if (pt_chain op_le op_lt (pe_ix (r := rIxT K) ix_tup (pv 1) pe_int (fun _ _ => rfl)) (pe_ix (r := rIxT K) ix_tup (pv 0) pe_int (fun _ _ => rfl)) (pe_ix (r := rIxT K) ix_tup (pv 2) pe_int (fun _ _ => rfl))) (pss_one (ps_ret (pe_cmpR op_gt (pn GT hr rfl (pa_cons (pv 0) (pa_cons (pv 1) (pa_cons (pv 2) pa_nil)))) pe_int (nomark _)))) pss_nil)
      (pss_cons (ps_if (pt_chain op_le op_lt (pe_ix (r := rIxT K) ix_tup (pv 2) pe_int (fun _ _ => rfl)) (pe_ix (r := rIxT K) ix_tup (pv 0) pe_int (fun _ _ => rfl)) (pe_ix (r := rIxT K) ix_tup (pv 1) pe_int (fun _ _ => rfl))) (pss_one (ps_ret (pe_cmpR op_lt (pn GT hr rfl (pa_cons (pv 0) (pa_cons (pv 1) (pa_cons (pv 2) pa_nil)))) pe_int (nomark _)))) pss_nil)
      (pss_one (ps_ret pe_bl))), ?_⟩
    rw [crosses_eq] at k
    have two : ¬ (Rc25.y a0 ≤ Rc25.y p0 ∧ Rc25.y p0 < Rc25.y b0) → ∀ c : Bool, (c = if Rc25.y b0 ≤ Rc25.y p0 ∧ Rc25.y p0 < Rc25.y a0 then decide (Rc25.turn a0 b0 p0 < 0) else false) → Q (.bl c) H := fun n c e => by
      rw [if_neg n] at k
      rw [e]
      exact k
    refine ⟨_, rfl, a, _, _, _, rfl, rfl, SqT.of ha, atI_nat (j := 1) rfl, _, rfl, p, _, _, _, rfl, rfl, SqT.of hp, atI_nat (j := 1) rfl, _, _, rfl, rfl, _, rfl, ?_⟩
    by_cases h1 : Rc25.y a0 ≤ Rc25.y p0
    case' pos =>
      rw [decide_eq_true h1]
      refine iteT ?_
      refine ⟨_, rfl, b, _, _, _, rfl, rfl, SqT.of hb, atI_nat (j := 1) rfl, _, _, rfl, rfl, _, rfl, ?_⟩
      by_cases h2 : Rc25.y p0 < Rc25.y b0
      case' pos =>
        rw [decide_eq_true h2]
        refine iteT ?_
        rw [if_pos ⟨h1, h2⟩] at k
        exact ⟨_, rfl, _, rfl, _, rfl, p, a, b, p0, a0, b0, rfl, hp, ha, hb, cp, ca, cb, _, _, rfl, rfl, k⟩
      case' neg =>
        rw [decide_eq_false h2]
        refine iteF ?_
        have h1 := two fun z => h2 z.2
    case' neg =>
      rw [decide_eq_false h1]
      refine iteF ⟨_, rfl, iteF ?_⟩
      have h1 := two fun z => h1 z.1
    all_goals
      refine ⟨_, rfl, b, _, _, _, rfl, rfl, SqT.of hb, atI_nat (j := 1) rfl, _, rfl, p, _, _, _, rfl, rfl, SqT.of hp, atI_nat (j := 1) rfl, _, _, rfl, rfl, _, rfl, ?_⟩
      by_cases h3 : Rc25.y b0 ≤ Rc25.y p0
      · rw [decide_eq_true h3]
        refine iteT ?_
        refine ⟨_, rfl, a, _, _, _, rfl, rfl, SqT.of ha, atI_nat (j := 1) rfl, _, _, rfl, rfl, _, rfl, ?_⟩
        by_cases h4 : Rc25.y p0 < Rc25.y a0
        · rw [decide_eq_true h4]
          refine iteT ?_
          exact ⟨_, rfl, _, rfl, _, rfl, p, a, b, p0, a0, b0, rfl, hp, ha, hb, cp, ca, cb, _, _, rfl, rfl, h1 _ (by rw [if_pos ⟨h3, h4⟩])⟩
        · rw [decide_eq_false h4]
          exact iteF (h1 _ (by rw [if_neg fun z => h4 z.2]))
      · rw [decide_eq_false h3]
        exact iteF ⟨_, rfl, iteF (h1 _ (by rw [if_neg fun z => h3 z.1]))⟩
end
end Ls
end
section
set_option Elab.async false
set_option linter.all false
set_option maxRecDepth 100000
set_option exponentiation.threshold 10000
/-! Whether a shape holds a point: all its ways. -/
namespace Ls
open PySem PySem.Spec PyProof.Rows L2 L3 Ma
open Rc25Neutral (bytesOf)
section
variable {P : Program} {w : World} {K : PySem.W.Frag} {mg : Str → Option Value} {base : Heap} {C : Addr}
theorem eqv_pairI (a b c d : Int) : PyData.eqv (.tuple [.int a, .int b]) (.tuple [.int c, .int d]) = (decide (a = c) && decide (b = d)) := by
  have e : ∀ a b : Int, (a == b) = decide (a = b) := fun a b => by
    by_cases h : a = b
    · simp [h]
    · simp [h]
  simp only [PyData.eqv, PyData.eqvAll, e, Bool.and_true]
theorem on_none {l : List (Rc25.Point × Rc25.Point)} {p : Rc25.Point} (h : ∀ s ∈ l, Rc25.onSide s.1 s.2 p = false) : (l.any fun s => Rc25.onSide s.1 s.2 p) = false := by
  rw [List.any_eq_false]
  intro s hs
  rw [h s hs]
  decide
def spHolds (S : Addr) : Sp := fun vs H Q _ => ∃ (a p : Addr) (s : Rc25.Shape) (p0 : Rc25.Point), vs = [.ref a, .ref p] ∧ ShapeAt S H a s ∧ XY H p p0 ∧ Cd p0 ∧ Fine s.parts.flatten 16000 ∧ ∀ H', Same H H' → Q (.bl (s.holds p0)) H'
theorem scHolds : FnScope ["shape", "point", "crossed", "part", "start", "end"] ["shape", "point"] (defScope (top 45)) := ⟨rfl, rfl, rfl, by decide +kernel, rfl, by decide +kernel, by decide +kernel⟩
theorem ok_holds {S fI fA f : Addr} {fd : FuncData} (F : Fun K "holds" "holds" (top 45) f fd) (m : mg "holds" = some (.ref f)) (b : Binds K fd ["shape", "point"] []) (T : Names mg) (TS : ShapeCls K mg S fI fA) (GP : Ok P w K mg base C "exact_point" 2 ["point"] (spPt K)) (GW : Ok P w K mg base C "ways" 3 ["points"] spWays)
    (GO : Ok P w K mg base C "lies_on" 2 ["point", "start", "end"] spOn) (GC : Ok P w K mg base C "is_crossed" 2 ["point", "start", "end"] spCrossed) : Ok P w K mg base C "holds" 4 ["shape", "point"] (spHolds S) := by
  refine okE F m b scHolds (fun vs H Q E h => ?_) (fun cdv A outer s H vs Q E hr h => ?_)
  · obtain ⟨a, p, s, p0, rfl, _⟩ := h
    rfl
  · obtain ⟨a, p, sh, p0, rfl, ⟨dx, q, ha, vs, hq, hL⟩, hp, cp, hF, k⟩ := h
    have hr2 : Room 2 _ := hr.mono (by decide)
    have few := hF.few
    refine ⟨_, pss_cons (ps_if (pt_cmpR op_eq (pe_fld (pv 0) rfl) (pg T.point rfl) (nomark _)) (pss_one (ps_ret (pe_cmpR (op_eqD hr.units) (pn GP hr2 rfl (pa_cons (pe_ix ix_list (pe_ix ix_list (pe_fld (pv 0) rfl) pe_int (fun _ _ => rfl)) pe_int (fun _ _ => rfl)) pa_nil)) (pv 1) (nomark _)))) pss_nil)
      (pss_cons (ps_set (i := 2) scHolds.nd rfl (Or.inl rfl) pe_int)
      (pss_cons (ps_for own_cx rfl (pi_list (pe_fld (pv 0) rfl)) (pg_name (i := 3) scHolds.nd rfl (Or.inl rfl))
        (pss_one (ps_for own_cx rfl (pi_list (pn GW hr rfl (pa_cons (pv 3) pa_nil))) (pg_tup rfl (pgs_cons (pg_name (i := 4) scHolds.nd rfl (Or.inl rfl)) (pgs_cons (pg_name (i := 5) scHolds.nd rfl (Or.inl rfl)) pgs_nil)))
          (pss_cons (ps_if (pt_truth (pn GO hr2 rfl (pa_cons (pv 1) (pa_cons (pv 4) (pa_cons (pv 5) pa_nil)))) (fun _ => rfl)) (pss_one (ps_ret pe_bl)) pss_nil)
            (pss_one (ps_if (pt_truth (pn GC hr2 rfl (pa_cons (pv 1) (pa_cons (pv 4) (pa_cons (pv 5) pa_nil)))) (fun _ => rfl)) (pss_one (ps_aug (i := 2) scHolds.nd rfl (Or.inl rfl) pe_int ip_add)) pss_nil))))))
      (pss_one (ps_ret (pe_and (pe_cmpR op_eq (pe_fld (pv 0) rfl) (pg T.area rfl) (nomark _)) (pe_one (pe_cmpR op_eq (pe_op op_mod (pv 2) pe_int) pe_int (nomark _)))))))), ?_⟩
    refine ⟨_, rfl, a, S, dx, _, _, rfl, ha, TS.cl, TS.nK, sf_kind _ _, rfl, _, rfl, ?_⟩
    rw [dk1]
    by_cases c : sh.kind = 1
    · rw [decide_eq_true c]
      refine iteT ?_
      obtain ⟨q0, rfl, hh⟩ := holds_pt c p0
      obtain ⟨l0, g1, ws, g2, g3⟩ := hL.at_ 0 [q0] rfl
      obtain ⟨t, g4, g5⟩ := g3.pt 0 q0 rfl
      have hb := hF.bits q0 (by simp [Rc25.Shape.parts])
      refine ⟨_, rfl, a, S, dx, _, _, rfl, ha, TS.cl, TS.nP, sf_parts _ _, q, _, _, _, rfl, rfl, SqL.of hq, atI_nat (j := 0) g1, l0, _, _, _, rfl, rfl, SqL.of g2, atI_nat (j := 0) g4, t, q0, rfl, SqT.of g5, hb.1, hb.2, fun H2 u e2 hu => ?_⟩
      refine ⟨_, rfl, .tuple [.int (Rc25.x q0), .int (Rc25.y q0)], .tuple [.int (Rc25.x p0), .int (Rc25.y p0)], .tup (SqT.of hu) (.cons (.int _) (.cons (.int _) .nil)), .tup (SqT.of (e2 _ _ hp)) (.cons (.int _) (.cons (.int _) .nil)), shaped_pair _ _, shaped_pair _ _, ?_⟩
      rw [eqv_pairI]
      have := k H2 e2
      rw [hh] at this
      exact this
    · rw [decide_eq_false c]
      refine iteF ?_
      have hh := holds_eq c p0
      refine ⟨_, rfl, a, S, dx, _, _, rfl, ha, TS.cl, TS.nP, sf_parts _ _, q, rfl, ⟨_, SqL.of hq⟩, for_list (K := K) (a := q) (xs := vs)
        (fun i σ H' => (∃ v3 v4 v5, σ = [some (.ref a), some (.ref p), some (.int ((Ma.crossed (sh.parts.take i) p0 : Nat) : Int)), v3, v4, v5]) ∧ Same H H' ∧ ∀ l ∈ sh.parts.take i, Rc25.onLine l p0 = false)
        ⟨⟨none, none, none, rfl⟩, Same.refl H, fun l hl => by simp at hl⟩ (fun i σ H' _ z => SqL.of (z.2.1 _ _ hq)) ?_ ?_⟩
      · rintro i y σ H' hy ⟨⟨v3, v4, v5, rfl⟩, e, hoff⟩
        have hi : i < sh.parts.length := by have := (List.getElem?_eq_some_iff.mp hy).1; have := hL.len; omega
        have hs := List.getElem?_eq_getElem hi
        generalize sh.parts[i] = l at hs
        obtain ⟨t, g1, g2⟩ := hL.at_ i l hs
        rw [hy] at g1
        cases g1
        obtain ⟨f1, f2, f3⟩ := part_in hF hs
        refine ⟨_, rfl, t, l, rfl, g2.same e, f2, by omega, fun H2 d ws e2 hd hW => ?_⟩
        refine ⟨d, rfl, ⟨_, SqL.of hd⟩, for_list (K := K) (a := d) (xs := ws)
          (fun j σ H' => (∃ v4 v5, σ = [some (.ref a), some (.ref p), some (.int ((Ma.crossed (sh.parts.take i) p0 + Ma.cnt ((Ma.ways l).take j) p0 : Nat) : Int)), some (.ref t), v4, v5]) ∧ Same H2 H' ∧ ∀ s ∈ (Ma.ways l).take j, Rc25.onSide s.1 s.2 p0 = false)
          ⟨⟨v4, v5, rfl⟩, Same.refl H2, fun s hs => by simp at hs⟩ (fun j σ H' _ z => SqL.of (z.2.1 _ _ hd)) ?_ ?_⟩
        · rintro j x σ H3 hx ⟨⟨u4, u5, rfl⟩, e3, hno⟩
          have hj : j < (Ma.ways l).length := by have := (List.getElem?_eq_some_iff.mp hx).1; have := hW.len; omega
          have hsj := List.getElem?_eq_getElem hj
          generalize (Ma.ways l)[j] = st at hsj
          obtain ⟨tw, ta, tb, k1, k2, k3, k4⟩ := (hW.same e3).at_ j st hsj
          rw [hx] at k1
          cases k1
          obtain ⟨q1, q2⟩ := way_at hsj
          have c1 : Cd st.1 := good_at f1 q1
          have c2 : Cd st.2 := good_at f1 q2
          have e03 := e.trans (e2.trans e3)
          have hp3 : XY H3 p p0 := e03 _ _ hp
          refine ⟨tw, _, rfl, SqT.of k2, rfl, _, _, rfl, _, _, rfl, rfl, ?_⟩
          refine ⟨_, rfl, _, rfl, _, rfl, p, ta, tb, p0, st.1, st.2, rfl, hp3, k3, k4, cp, c1, c2, _, rfl, ?_⟩
          cases on : Rc25.onSide st.1 st.2 p0 with
          | true =>
            refine iteT ?_
            have hany : (sh.parts.any fun l => Rc25.onLine l p0) = true := by
              rw [List.any_eq_true]
              refine ⟨l, List.mem_of_getElem? hs, ?_⟩
              rw [onLine_eq, List.any_eq_true]
              exact ⟨st, List.mem_of_getElem? hsj, on⟩
            have := k H3 e03
            rw [hh, hany, Bool.true_or] at this
            exact this
          | false =>
            refine iteF ?_
            refine ⟨_, rfl, _, rfl, _, rfl, p, ta, tb, p0, st.1, st.2, rfl, hp3, k3, k4, cp, c1, c2, _, rfl, ?_⟩
            have hno' : ∀ s ∈ (Ma.ways l).take (j + 1), Rc25.onSide s.1 s.2 p0 = false := fun s hs' => by
              rw [take_one hsj] at hs'
              rcases List.mem_append.mp hs' with z | z
              · exact hno s z
              · rw [List.mem_singleton.mp z]
                exact on
            have hc := cnt_snoc ((Ma.ways l).take j) st p0
            rw [← take_one hsj] at hc
            cases cr : Rc25.crosses st.1 st.2 p0 with
            | true =>
              rw [cr, if_pos rfl] at hc
              refine iteT ?_
              refine ⟨_, rfl, _, _, rfl, rfl, ⟨some (.ref ta), some (.ref tb), ?_⟩, e3, hno'⟩
              rw [hc, show ((Ma.crossed (sh.parts.take i) p0 + (Ma.cnt ((Ma.ways l).take j) p0 + 1) : Nat) : Int) = ((Ma.crossed (sh.parts.take i) p0 + Ma.cnt ((Ma.ways l).take j) p0 : Nat) : Int) + 1 by omega]
              rfl
            | false =>
              rw [cr, if_neg (by decide)] at hc
              refine iteF ?_
              refine ⟨⟨some (.ref ta), some (.ref tb), ?_⟩, e3, hno'⟩
              rw [hc]
              rfl
        · rintro σ H3 ⟨⟨u4, u5, rfl⟩, e3, hno⟩
          rw [hW.len, List.take_length] at hno
          rw [hW.len, List.take_length]
          refine ⟨⟨some (.ref t), u4, u5, ?_⟩, e.trans (e2.trans e3), fun l' hl' => ?_⟩
          · rw [take_one hs, crossed_snoc, crossings_eq]
            rfl
          · rw [take_one hs] at hl'
            rcases List.mem_append.mp hl' with z | z
            · exact hoff l' z
            · rw [List.mem_singleton.mp z, onLine_eq]
              exact on_none hno
      · rintro σ H' ⟨⟨v3, v4, v5, rfl⟩, e, hoff⟩
        rw [hL.len, List.take_length] at hoff
        rw [hL.len, List.take_length]
        have hany : (sh.parts.any fun l => Rc25.onLine l p0) = false := by
          rw [List.any_eq_false]
          intro l hl
          rw [hoff l hl]
          decide
        have kk := k H' e
        rw [hh, hany, Bool.false_or] at kk
        refine ⟨_, rfl, a, S, dx, _, _, rfl, e _ _ ha, TS.cl, TS.nK, sf_kind _ _, rfl, _, rfl, ?_⟩
        rw [dk5]
        cases h5 : decide (sh.kind = 5) with
        | false =>
          rw [h5, Bool.false_and] at kk
          exact iteF kk
        | true =>
          rw [h5, Bool.true_and] at kk
          refine iteT ?_
          refine ⟨_, rfl, _, _, rfl, rfl, (by show (0 : Int) < 2; decide), rfl, ?_⟩
          have em : decide (V.int (((Ma.crossed sh.parts p0 : Nat) : Int) % 2) = V.int 1) = decide (Ma.crossed sh.parts p0 % 2 = 1) := by
            rw [show ((Ma.crossed sh.parts p0 : Nat) : Int) % 2 = ((Ma.crossed sh.parts p0 % 2 : Nat) : Int) by omega, dk1]
          rw [← em] at kk
          exact kk
end
end Ls
end
section
set_option Elab.async false
set_option linter.all false
set_option maxRecDepth 100000
/-! What is told of one shape. -/
namespace Ls
open PySem PySem.Spec PyProof.Rows L2 L3 Ma
open Rc25Neutral (bytesOf)
section
variable {P : Program} {w : World} {K : PySem.W.Frag} {mg : Str → Option Value} {base : Heap} {C : Addr}
/-- a new list of numbers is told, nothing is changed -/
def New (H : Hp) (Q : VK) (r : List Int) : Prop := ∀ (H' : Hp) (q : Addr), Same H H' → H' q = some (.lst (r.map V.int)) → Q (.ref q) H'
/-! ### first_of -/
def spFirst (K : PySem.W.Frag) : Sp := fun vs H Q _ => ∃ (a : Addr) (xs : List V) (r : Int), vs = [.ref a, .int r] ∧ SqL K H a xs ∧ ∀ (H' : Hp) (d : Addr), Same H H' → H d = none → H' d = some (.lst (xs.take (Rc25.room_ r))) → Q (.ref d) H'
theorem scFirst : FnScope ["row", "most"] ["row", "most"] (defScope (top 73)) := ⟨rfl, rfl, rfl, by decide +kernel, rfl, by decide +kernel, by decide +kernel⟩
theorem cut_to {xs : List V} (n : Nat) : cutV xs none (some (n : Int)) = xs.take n := by
  unfold cutV
  rw [HT.sIx_nat, HT.sIx_none, List.drop_zero, Nat.sub_zero]
  by_cases h : n ≤ xs.length
  · rw [Nat.min_eq_left h]
  · rw [Nat.min_eq_right (by omega), List.take_of_length_le (Nat.le_refl _), List.take_of_length_le (by omega)]
theorem ok_first {f : Addr} {fd : FuncData} (F : Fun K "first_of" "first_of" (top 73) f fd) (m : mg "first_of" = some (.ref f)) (b : Binds K fd ["row", "most"] []) (T : Names mg) : Ok P w K mg base C "first_of" 1 ["row", "most"] (spFirst K) := by
  refine okE F m b scFirst (fun vs H Q E h => ?_) (fun cdv A outer s H vs Q E hr h => ?_)
  · obtain ⟨a, xs, r, rfl, _⟩ := h
    rfl
  · obtain ⟨a, xs, r, rfl, hS, k⟩ := h
    refine ⟨_, pss_cons (ps_if (pt_not (pt_chain op_le op_le pe_int (pv 1) (pg T.mostTold rfl))) (pss_one (ps_ret (pe_lst pa_nil))) pss_nil)
      (pss_one (ps_ret (pe_slice sl_list (pv 0) po_none (po_some (pv 1))))), ?_⟩
    have no : ¬ (1 ≤ r ∧ r ≤ 65536) → ∀ q, H q = none → Q (.ref q) (upd H q (.lst [])) := fun c q hq => by
      refine k _ q (same_upd (Same.refl H) hq) hq ?_
      unfold Rc25.room_
      rw [upd_same, if_neg c]
      rfl
    refine ⟨_, rfl, _, _, rfl, rfl, _, rfl, ?_⟩
    by_cases c1 : 1 ≤ r
    · rw [decide_eq_true c1]
      refine iteT ?_
      refine ⟨_, _, rfl, rfl, _, rfl, ?_⟩
      by_cases c2 : r ≤ 65536
      · rw [decide_eq_true c2]
        refine iteF ?_
        refine ⟨_, rfl, _, rfl, _, rfl, a, _, rfl, hS, fun q hq => ?_⟩
        refine k _ q (same_upd (Same.refl H) hq) hq ?_
        have e := cut_to (xs := xs) r.toNat
        rw [show ((r.toNat : Nat) : Int) = r by omega] at e
        unfold Rc25.room_
        rw [upd_same, if_pos ⟨c1, c2⟩, e]
      · rw [decide_eq_false c2]
        exact iteT ⟨Nat.zero_le _, fun q hq => no (fun z => c2 z.2) q hq⟩
    · rw [decide_eq_false c1]
      exact iteF ⟨_, rfl, iteT ⟨Nat.zero_le _, fun q hq => no (fun z => c1 z.1) q hq⟩⟩
/-! ### tell_box -/
def tBox : Rc25.Shape → List Int
  | .null => [-2]
  | s => 0 :: Ma.nums (Rc25.boxOf s.parts.flatten)
theorem tBox_no {s : Rc25.Shape} (h : s.kind = 0) : tBox s = [-2] := by
  cases s with
  | null => rfl
  | point p => cases h
  | lines l => cases h
  | area l => cases h
theorem tBox_is {s : Rc25.Shape} (h : s.kind ≠ 0) : tBox s = 0 :: Ma.nums (Rc25.boxOf s.parts.flatten) := by
  cases s with
  | null => exact absurd rfl h
  | point p => rfl
  | lines l => rfl
  | area l => rfl
theorem nums_int (l : List Nat) : (Ma.nums l).map V.int = intL l := by unfold Ma.nums; rw [← intL_eq]
def spTBox (S : Addr) : Sp := fun vs H Q _ => ∃ (a : Addr) (s : Rc25.Shape), vs = [.ref a] ∧ ShapeAt S H a s ∧ Fine s.parts.flatten 16000 ∧ New H Q (tBox s)
theorem scTBox : FnScope ["shape"] ["shape"] (defScope (top 71)) := ⟨rfl, rfl, rfl, by decide +kernel, rfl, by decide +kernel, by decide +kernel⟩
theorem ok_tBox {S fI fA f : Addr} {fd fdA : FuncData} (F : Fun K "tell_box" "tell_box" (top 71) f fd) (m : mg "tell_box" = some (.ref f)) (b : Binds K fd ["shape"] []) (T : Names mg) (TS : ShapeCls K mg S fI fA) (FA : FnOk P w K mg base (CXE P w C) 1 fA fdA ["self"] (spAll S)) (bA : Binds K fdA ["self"] [])
    (GB : Ok P w K mg base C "box_of" 3 ["points"] spBox) : Ok P w K mg base C "tell_box" 4 ["shape"] (spTBox S) := by
  refine okE F m b scTBox (fun vs H Q E h => ?_) (fun cdv A outer s H vs Q E hr h => ?_)
  · obtain ⟨a, s, rfl, _⟩ := h
    rfl
  · obtain ⟨a, sh, rfl, hSh, hF, k⟩ := h
    obtain ⟨dx, q, ha, hq⟩ := id hSh
    have hr1 : Room 1 _ := hr.mono (by decide)
    have few := hF.few
    refine ⟨_, pss_cons (ps_if (pt_cmpR op_eq (pe_fld (pv 0) rfl) (pg T.nothing rfl) (nomark _)) (pss_one (ps_ret (pe_lst (pa_cons (pg T.refNothing rfl) pa_nil)))) pss_nil)
      (pss_one (ps_ret (pe_op op_cat (pe_lst (pa_cons pe_int pa_nil)) (pn GB hr rfl (pa_cons (pe_meth0 (pv 0) TS.cl TS.all FA hr1 bA .nil pass_no) pa_nil))))), ?_⟩
    refine ⟨_, rfl, a, S, dx, _, _, rfl, ha, TS.cl, TS.nK, sf_kind _ _, rfl, _, rfl, ?_⟩
    rw [dk0]
    by_cases c : sh.kind = 0
    · rw [decide_eq_true c]
      refine iteT ⟨by show 1 ≤ sizeLine; decide, fun r hr0 => ?_⟩
      rw [tBox_no c] at k
      exact k _ r (same_upd (Same.refl H) hr0) upd_same
    · rw [decide_eq_false c]
      refine iteF ⟨by show 1 ≤ sizeLine; decide, fun q0 hq0 => ?_⟩
      have e0 := same_upd (Same.refl H) (o := .lst [.int 0]) hq0
      obtain ⟨dx', q', ha', hq'⟩ := hSh.same e0
      refine ⟨_, rfl, a, dx', _, rfl, ha', sf_no _ _ (by decide +kernel) (by decide +kernel), a, sh, rfl, ⟨dx', q', ha', hq'⟩, by omega, fun H2 d2 e2 hp2 => ?_⟩
      refine ⟨d2, _, rfl, hp2, hF.bits, by omega, fun H3 d3 e3 hd3 => ?_⟩
      refine ⟨q0, d3, _, _, rfl, rfl, e3 _ _ (e2 _ _ upd_same), hd3, by show 1 + 4 ≤ sizeLine; decide, fun r hr0 => ?_⟩
      have e4 := e0.trans (e2.trans e3)
      refine k _ r (same_upd e4 (e4.free hr0)) ?_
      rw [upd_same, tBox_is c, List.map_cons, nums_int]
      rfl
/-! ### tell_part -/
def tPart (s : Rc25.Shape) (i f r : Int) : List Int := match Rc25.pick s.parts i with
  | none => [-1]
  | some ps => if f < 0 then [-1] else (((ps.drop f.toNat).take (Rc25.room_ r)).length : Int) :: Ma.nums (((ps.drop f.toNat).take (Rc25.room_ r)).flatMap fun (p : Rc25.Point) => [p.1, p.2])
theorem pickP_some {l : List (List Rc25.Point)} {k : Int} (h0 : 0 ≤ k) (h1 : k < (l.length : Int)) : ∃ i s, k = ((i : Nat) : Int) ∧ l[i]? = some s ∧ Rc25.pick l k = some s := by
  have hi : k.toNat < l.length := by omega
  refine ⟨k.toNat, l[k.toNat], by omega, List.getElem?_eq_getElem hi, ?_⟩
  unfold Rc25.pick
  rw [if_neg (by omega), List.getElem?_eq_getElem hi]
theorem pickP_none {l : List (List Rc25.Point)} {k : Int} (h : ¬ (0 ≤ k ∧ k < (l.length : Int))) : Rc25.pick l k = none := by
  unfold Rc25.pick
  by_cases h0 : k < 0
  · rw [if_pos h0]
  · rw [if_neg h0]
    exact List.getElem?_eq_none (by omega)
theorem tPart_no {s : Rc25.Shape} {i f r : Int} (h : f < 0 ∨ ¬ (0 ≤ i ∧ i < (s.parts.length : Int))) : tPart s i f r = [-1] := by
  unfold tPart
  rcases h with h | h
  · cases Rc25.pick s.parts i with
    | none => rfl
    | some ps => simp only [h, if_true]
  · rw [pickP_none h]
def pairL (l : List Rc25.Point) : List V := intL (l.flatMap fun (p : Rc25.Point) => [p.1, p.2])
theorem pairL_snoc (l : List Rc25.Point) (p : Rc25.Point) : pairL (l ++ [p]) = pairL l ++ [.int (p.1 : Nat), .int (p.2 : Nat)] := by
  unfold pairL intL
  rw [List.flatMap_append, List.map_append]
  rfl
theorem pairL_len (l : List Rc25.Point) : (pairL l).length = 2 * l.length := by unfold pairL; rw [intL_len, Ma.pairs_len]
def spTPart (S : Addr) : Sp := fun vs H Q _ => ∃ (a : Addr) (s : Rc25.Shape) (i f r : Int), vs = [.ref a, .int i, .int f, .int r] ∧ ShapeAt S H a s ∧ Fine s.parts.flatten 16000 ∧ New H Q (tPart s i f r)
theorem scTPart : FnScope ["shape", "number", "start", "most", "points", "told", "point"] ["shape", "number", "start", "most"] (defScope (top 72)) := ⟨rfl, rfl, rfl, by decide +kernel, rfl, by decide +kernel, by decide +kernel⟩
theorem ok_tPart {S fI fA f : Addr} {fd : FuncData} (F : Fun K "tell_part" "tell_part" (top 72) f fd) (m : mg "tell_part" = some (.ref f)) (b : Binds K fd ["shape", "number", "start", "most"] []) (T : Names mg) (TS : ShapeCls K mg S fI fA) (GF : Ok P w K mg base C "first_of" 1 ["row", "most"] (spFirst K)) :
    Ok P w K mg base C "tell_part" 2 ["shape", "number", "start", "most"] (spTPart S) := by
  refine okE F m b scTPart (fun vs H Q E h => ?_) (fun cdv A outer s H vs Q E hr h => ?_)
  · obtain ⟨a, s, i, f, r, rfl, _⟩ := h
    rfl
  · obtain ⟨a, sh, i, f, r, rfl, ⟨dx, q, ha, vs, hq, hL⟩, hF, k⟩ := h
    have few := hF.few
    refine ⟨_, pss_cons (ps_if (PW.pt (pw_or (pt_cmpR op_lt (pv 2) pe_int (nomark _)) (pw_or1 (pt_not (pt_chain op_le op_lt pe_int (pv 1) (pe_callB call_len_seq rfl T.nLen PySem.boot_len (pa_cons (pe_fld (pv 0) rfl) pa_nil))))))) (pss_one (ps_ret (pe_lst (pa_cons (pg T.refused rfl) pa_nil)))) pss_nil)
      (pss_cons (ps_set (i := 4) scTPart.nd rfl (Or.inl rfl) (pn GF hr rfl (pa_cons (pe_slice sl_list (pe_ix ix_list (pe_fld (pv 0) rfl) (pv 1) (fun _ _ => rfl)) (po_some (pv 2)) po_none) (pa_cons (pv 3) pa_nil))))
      (pss_cons (ps_set (i := 5) scTPart.nd rfl (Or.inl rfl) (pe_lst (pa_cons (pe_callB call_len_seq rfl T.nLen PySem.boot_len (pa_cons (pv 4) pa_nil)) pa_nil)))
      (pss_cons (ps_for own_cx rfl (pi_list (pv 4)) (pg_name (i := 6) scTPart.nd rfl (Or.inl rfl)) (pss_one (ps_expr (pe_bm PySem.F.plainAttrs_list PySem.F.slot_list_extend PySem.F.type_list_extend mt_extendT (pv 5) (pa_cons (pv 6) pa_nil)))))
      (pss_one (ps_ret (pv 5)))))), ?_⟩
    have no : (f < 0 ∨ ¬ (0 ≤ i ∧ i < (sh.parts.length : Int))) → ∀ r', H r' = none → Q (.ref r') (upd H r' (.lst [.int (-1)])) := fun c r' hr' => by
      rw [tPart_no c] at k
      exact k _ r' (same_upd (Same.refl H) hr') upd_same
    refine ⟨_, rfl, _, _, rfl, rfl, _, rfl, ?_⟩
    by_cases c1 : f < 0
    · rw [decide_eq_true c1]
      exact iteT (iteT ⟨by show 1 ≤ sizeLine; decide, fun r' hr' => no (.inl c1) r' hr'⟩)
    rw [decide_eq_false c1]
    refine iteF ?_
    refine ⟨_, rfl, _, _, rfl, rfl, _, rfl, ?_⟩
    by_cases c2 : 0 ≤ i
    case neg =>
      rw [decide_eq_false c2]
      exact iteF ⟨_, rfl, iteT ⟨by show 1 ≤ sizeLine; decide, fun r' hr' => no (.inr fun z => c2 z.1) r' hr'⟩⟩
    rw [decide_eq_true c2]
    refine iteT ?_
    refine ⟨_, rfl, a, S, dx, _, _, rfl, ha, TS.cl, TS.nP, sf_parts _ _, q, _, rfl, .inl (SqL.of hq), _, _, rfl, rfl, _, rfl, ?_⟩
    by_cases c3 : i < (sh.parts.length : Int)
    case neg =>
      have e : decide (i < ((vs.length : Nat) : Int)) = false := by rw [hL.len]; exact decide_eq_false c3
      rw [e]
      exact iteT ⟨by show 1 ≤ sizeLine; decide, fun r' hr' => no (.inr fun z => c3 z.2) r' hr'⟩
    have e : decide (i < ((vs.length : Nat) : Int)) = true := by rw [hL.len]; exact decide_eq_true c3
    rw [e]
    refine iteF ?_
    obtain ⟨j, l, rfl, hl, hpick⟩ := pickP_some c2 c3
    obtain ⟨la, g1, us, g2, g3⟩ := hL.at_ j l hl
    obtain ⟨f1, f2, f3⟩ := part_in hF hl
    obtain ⟨n, rfl⟩ : ∃ n : Nat, f = (n : Int) := ⟨f.toNat, by omega⟩
    refine ⟨_, rfl, a, S, dx, _, _, rfl, ha, TS.cl, TS.nP, sf_parts _ _, _, rfl, q, _, _, _, rfl, rfl, SqL.of hq, atI_nat g1, _, rfl, _, rfl, la, _, rfl, SqL.of g2, fun d1 hd1 => ?_⟩
    rw [cut_from]
    have e1 := same_upd (Same.refl H) (o := .lst (us.drop n)) hd1
    refine ⟨_, rfl, d1, _, r, rfl, SqL.of upd_same, fun H2 d2 e2 n2 hd2 => ?_⟩
    have hPts : Pts H2 ((us.drop n).take (Rc25.room_ r)) ((l.drop n).take (Rc25.room_ r)) := (g3.same (e1.trans e2)).slice n _
    have hlen := hPts.len
    have hmax : ((l.drop n).take (Rc25.room_ r)).length ≤ 1000 := by rw [List.length_take, List.length_drop]; omega
    have kk := k
    unfold tPart at kk
    rw [hpick] at kk
    simp only [c1, if_false] at kk
    rw [Int.toNat_natCast] at kk
    generalize (us.drop n).take (Rc25.room_ r) = xs at *
    generalize (l.drop n).take (Rc25.room_ r) = pl at *
    refine ⟨_, rfl, d2, _, rfl, .inl (SqL.of hd2), by show 1 ≤ sizeLine; decide, fun td htd => ?_⟩
    have e12 := e1.trans e2
    have n3 : d2 ≠ td := ne_of_none hd2 htd
    have e3 := same_upd (Same.refl H2) (o := .lst [.int ((xs.length : Nat) : Int)]) htd
    have nH : H td = none := e12.free htd
    refine ⟨_, rfl, d2, rfl, ⟨_, SqL.of (e3 _ _ hd2)⟩, for_list (K := K) (a := d2) (xs := xs)
      (fun i' σ H' => (∃ v6, σ = [some (.ref a), some (.int (j : Nat)), some (.int (n : Nat)), some (.int r), some (.ref d2), some (.ref td), v6]) ∧ Same H2 H' ∧ H' td = some (.lst (.int ((xs.length : Nat) : Int) :: pairL (pl.take i'))))
      ⟨⟨none, rfl⟩, e3, upd_same⟩ (fun i' σ H' _ z => SqL.of (z.2.1 _ _ hd2)) ?_ ?_⟩
    · rintro i' y σ H' hy ⟨⟨v6, rfl⟩, e4, htd'⟩
      have hi' : i' < pl.length := by have := (List.getElem?_eq_some_iff.mp hy).1; omega
      have hs := List.getElem?_eq_getElem hi'
      generalize pl[i'] = p0 at hs
      obtain ⟨t, k1, k2⟩ := hPts.pt i' p0 hs
      rw [hy] at k1
      cases k1
      refine ⟨_, rfl, .inl ⟨rfl, _, SqL.of htd'⟩, _, rfl, td, t, _, _, rfl, rfl, htd', SqT.of (e4 _ _ k2), ?_, ⟨_, rfl⟩, same_upd e4 htd, ?_⟩
      · rw [List.length_cons, pairL_len, List.length_take]
        exact Nat.le_of_lt (fits (by show _ + 1 + 2 ≤ _; omega))
      · rw [upd_same, take_one hs, pairL_snoc]
        rfl
    · rintro σ H' ⟨⟨v6, rfl⟩, e4, htd'⟩
      rw [hlen, List.take_length] at htd'
      refine ⟨_, rfl, kk H' td (e12.trans e4) ?_⟩
      rw [htd', List.map_cons, nums_int]
      rfl
/-! ### answer_of_shape -/
def tShape (s : Rc25.Shape) (c : Nat) (ns : List Int) : List Int :=
  if c = 3 then [(s.kind : Nat), (s.parts.length : Nat), (s.parts.flatten.length : Nat)] else if c = 4 then tBox s else if c = 5 then tPart s (ns.getD 1 0) (ns.getD 2 0) (ns.getD 3 0) else [0, (Rc25.nearest s.inside : Nat)]
def spShape (S : Addr) : Sp := fun vs H Q _ => ∃ (a d : Addr) (s : Rc25.Shape) (c : Nat) (ns : List Int), vs = [.ref a, .int (c : Nat), .ref d] ∧ ShapeAt S H a s ∧ Fine s.parts.flatten 16000 ∧ s.parts.length ≤ 16000 ∧ H d = some (.lst (ns.map V.int)) ∧ (c = 5 → ns.length = 4) ∧ New H Q (tShape s c ns)
theorem scShape : FnScope ["shape", "call", "numbers"] ["shape", "call", "numbers"] (defScope (top 70)) := ⟨rfl, rfl, rfl, by decide +kernel, rfl, by decide +kernel, by decide +kernel⟩
theorem ok_shape {S fI fA f : Addr} {fd fdA : FuncData} (F : Fun K "answer_of_shape" "answer_of_shape" (top 70) f fd) (m : mg "answer_of_shape" = some (.ref f)) (b : Binds K fd ["shape", "call", "numbers"] []) (T : Names mg) (TS : ShapeCls K mg S fI fA) (FA : FnOk P w K mg base (CXE P w C) 1 fA fdA ["self"] (spAll S)) (bA : Binds K fdA ["self"] [])
    (GB : Ok P w K mg base C "tell_box" 4 ["shape"] (spTBox S)) (GP : Ok P w K mg base C "tell_part" 2 ["shape", "number", "start", "most"] (spTPart S)) (GZ : Ok P w K mg base C "size_bits" 5 ["shape"] (spSize S)) : Ok P w K mg base C "answer_of_shape" 6 ["shape", "call", "numbers"] (spShape S) := by
  refine okE F m b scShape (fun vs H Q E h => ?_) (fun cdv A outer s H vs Q E hr h => ?_)
  · obtain ⟨a, d, s, c, ns, rfl, _⟩ := h
    rfl
  · obtain ⟨a, d, sh, c, ns, rfl, hSh, hF, hPn, hd, h5, k⟩ := h
    obtain ⟨dx, q, ha, vs, hq, hL⟩ := id hSh
    have hr1 : Room 1 _ := hr.mono (by decide)
    have hr2 : Room 2 _ := hr.mono (by decide)
    have hr4 : Room 4 _ := hr.mono (by decide)
    have few := hF.few
    refine ⟨_, pss_cons (ps_if (pt_cmpR op_eq (pv 1) (pg T.cAbout rfl) (nomark _)) (pss_one (ps_ret (pe_lst (pa_cons (pe_fld (pv 0) rfl) (pa_cons (pe_callB call_len_seq rfl T.nLen PySem.boot_len (pa_cons (pe_fld (pv 0) rfl) pa_nil)) (pa_cons (pe_callB call_len_seq rfl T.nLen PySem.boot_len (pa_cons (pe_meth0 (pv 0) TS.cl TS.all FA hr1 bA .nil pass_no) pa_nil)) pa_nil)))))) pss_nil)
      (pss_cons (ps_if (pt_cmpR op_eq (pv 1) (pg T.cBox rfl) (nomark _)) (pss_one (ps_ret (pn GB hr4 rfl (pa_cons (pv 0) pa_nil)))) pss_nil)
      (pss_cons (ps_if (pt_cmpR op_eq (pv 1) (pg T.cPart rfl) (nomark _)) (pss_one (ps_ret (pn GP hr2 rfl (pa_cons (pv 0) (pa_cons (pe_ix ix_list (pv 2) pe_int (fun _ _ => rfl)) (pa_cons (pe_ix ix_list (pv 2) pe_int (fun _ _ => rfl)) (pa_cons (pe_ix ix_list (pv 2) pe_int (fun _ _ => rfl)) pa_nil))))))) pss_nil)
      (pss_one (ps_ret (pe_lst (pa_cons pe_int (pa_cons (pn GZ hr rfl (pa_cons (pv 0) pa_nil)) pa_nil))))))), ?_⟩
    refine ⟨_, rfl, rfl, _, rfl, ?_⟩
    rw [dk3]
    unfold tShape at k
    by_cases c3 : c = 3
    · rw [decide_eq_true c3]
      rw [if_pos c3] at k
      refine iteT ?_
      refine ⟨_, rfl, a, S, dx, _, _, rfl, ha, TS.cl, TS.nK, sf_kind _ _, ?_⟩
      refine ⟨_, rfl, a, S, dx, _, _, rfl, ha, TS.cl, TS.nP, sf_parts _ _, q, _, rfl, .inl (SqL.of hq), ?_⟩
      refine ⟨_, rfl, a, dx, _, rfl, ha, sf_no _ _ (by decide +kernel) (by decide +kernel), a, sh, rfl, hSh, by omega, fun H2 d2 e2 hp2 => ?_⟩
      obtain ⟨us, k1, k2⟩ := hp2
      refine ⟨d2, _, rfl, .inl (SqL.of k1), by show 3 ≤ sizeLine; decide, fun r hr0 => ?_⟩
      refine k _ r (same_upd e2 (e2.free hr0)) ?_
      rw [upd_same, hL.len, k2.len]
      rfl
    rw [decide_eq_false c3]
    rw [if_neg c3] at k
    refine iteF ?_
    refine ⟨_, rfl, rfl, _, rfl, ?_⟩
    rw [dk4]
    by_cases c4 : c = 4
    · rw [decide_eq_true c4]
      rw [if_pos c4] at k
      exact iteT ⟨_, rfl, a, sh, rfl, hSh, hF, k⟩
    rw [decide_eq_false c4]
    rw [if_neg c4] at k
    refine iteF ?_
    refine ⟨_, rfl, rfl, _, rfl, ?_⟩
    rw [dk5]
    by_cases c5 : c = 5
    · rw [decide_eq_true c5]
      rw [if_pos c5] at k
      have hl := h5 c5
      refine iteT ⟨_, rfl, _, rfl, d, _, _, _, rfl, rfl, SqL.of hd, at_ns (j := 1) rfl (by omega), _, rfl, d, _, _, _, rfl, rfl, SqL.of hd, at_ns (j := 2) rfl (by omega), _, rfl, d, _, _, _, rfl, rfl, SqL.of hd, at_ns (j := 3) rfl (by omega), a, sh, _, _, _, rfl, hSh, hF, k⟩
    rw [decide_eq_false c5]
    rw [if_neg c5] at k
    refine iteF ?_
    refine ⟨_, rfl, a, sh, rfl, hSh, hF, hPn, fun H2 e2 => ⟨by show 2 ≤ sizeLine; decide, fun r hr0 => ?_⟩⟩
    exact k _ r (same_upd e2 (e2.free hr0)) upd_same
end
end Ls
end
section
set_option Elab.async false
set_option linter.all false
set_option maxRecDepth 100000
/-! The object's methods: which shapes hold a point; one call answered. -/
namespace Ls
open PySem PySem.Spec PyProof.Rows L2 L3 Ma
open Rc25Neutral (bytesOf)
section
variable {P : Program} {w : World} {K : PySem.W.Frag} {mg : Str → Option Value} {base : Heap} {C : Addr}
/-! ### tell_holders -/
def heldIn (l : List Rc25.Shape) (p : Rc25.Point) (i : Nat) : List Nat := (List.range i).filter fun j => (l[j]?).any fun s => s.holds p
theorem held_one {l : List Rc25.Shape} {p : Rc25.Point} {i : Nat} {s : Rc25.Shape} (h : l[i]? = some s) : heldIn l p (i + 1) = heldIn l p i ++ (if s.holds p = true then [i] else []) := by
  unfold heldIn
  rw [List.range_succ, List.filter_append]
  congr 1
  by_cases c : s.holds p = true
  · rw [if_pos c]; simp [h, c]
  · rw [if_neg c]; simp [h, c]
theorem held_len (l : List Rc25.Shape) (p : Rc25.Point) (i : Nat) : (heldIn l p i).length ≤ i := by
  unfold heldIn
  exact Nat.le_trans (List.length_filter_le _ _) (by rw [List.length_range]; exact Nat.le_refl _)
theorem fine_shape {l : List Rc25.Shape} (h : FineFile l) {i : Nat} {s : Rc25.Shape} (hs : l[i]? = some s) : Fine s.parts.flatten 16000 := by
  have hm := List.mem_of_getElem? hs
  have sub : ∀ p ∈ s.parts.flatten, p ∈ allPoints l := fun p hp => List.mem_flatMap.mpr ⟨s, hm, hp⟩
  refine ⟨?_, List.all_eq_true.mpr fun p hp => List.all_eq_true.mp h.pts.good p (sub p hp), fun p hp => h.pts.bits p (sub p hp)⟩
  have := len_in hm
  have := h.pts.few
  omega
def spHolders (L S : Addr) : Sp := fun vs H Q _ => ∃ (a : Addr) (x y : Nat) (r : Int) (l : List Rc25.Shape), vs = [.ref a, .int (x : Nat), .int (y : Nat), .int r] ∧ x < 2 ^ 64 ∧ y < 2 ^ 64 ∧ LandAt L S H a (some l) ∧ FineFile l ∧ New H Q (tellAt l x y r)
theorem scHolders : FnScope ["self", "x", "y", "most", "point", "holders", "k", "shape"] ["self", "x", "y", "most"] (defScope (inClass (top 69) 3)) := ⟨rfl, rfl, rfl, by decide +kernel, rfl, by decide +kernel, by decide +kernel⟩
theorem ok_holders {L S f : Addr} {fd : FuncData} (F : Fun K "tell_holders" "Land.tell_holders" (inClass (top 69) 3) f fd) (T : LandCls K mg L S) (TN : Names mg) (GC : Ok P w K mg base C "is_coordinate" 1 ["bits"] spCoord) (GP : Ok P w K mg base C "exact_point" 2 ["point"] (spPt K))
    (GH : Ok P w K mg base C "holds" 4 ["shape", "point"] (spHolds S)) (GF : Ok P w K mg base C "first_of" 1 ["row", "most"] (spFirst K)) : FnOk P w K mg base (CXE P w C) 5 f fd ["self", "x", "y", "most"] (spHolders L S) := by
  refine okM F scHolders (fun vs H Q E h => ?_) (fun cdv A outer s H vs Q E hr h => ?_)
  · obtain ⟨a, x, y, r, l, rfl, _⟩ := h
    rfl
  · obtain ⟨a, x, y, r, l, rfl, hx, hy, ⟨dx, v, ha, d, rfl, vs, hd, hL⟩, hF, k⟩ := h
    have hr1 : Room 1 _ := hr.mono (by decide)
    have hr2 : Room 2 _ := hr.mono (by decide)
    have few := hF.few
    refine ⟨_, pss_cons (ps_if (pt_not (PW.pt (pw_and (pt_truth (pn GC hr1 rfl (pa_cons (pv 1) pa_nil)) (fun _ => rfl)) (pw_and1 (pt_truth (pn GC hr1 rfl (pa_cons (pv 2) pa_nil)) (fun _ => rfl)))))) (pss_one (ps_ret (pe_lst (pa_cons (pg TN.refused rfl) pa_nil)))) pss_nil)
      (pss_cons (ps_set (i := 4) scHolders.nd rfl (Or.inr rfl) (pn GP hr2 rfl (pa_cons (pe_tup (pa_cons (pv 1) (pa_cons (pv 2) pa_nil))) pa_nil)))
      (pss_cons (ps_setLc (g := gTup K 2 (gCons (gName 6) (gCons (gName 7) gNil))) rfl scHolders.nd rfl rfl (sw_true rfl rfl rfl rfl) (pi_enum rfl TN.nEnum (pa_cons (pe_fld (pv 0) rfl) pa_nil)) (blkOk_by (N := ["self", "x", "y", "most", "point", "holders", "k", "shape"]) (sc := defScope (inClass (top 69) 3)) (own := [("k", 6), ("shape", 7)]) (by decide +kernel))
        (fun _ _ _ _ _ => pg_tup rfl (pgs_cons (pg_name (i := 6) scHolders.nd rfl (Or.inl rfl)) (pgs_cons (pg_name (i := 7) scHolders.nd rfl (Or.inl rfl)) pgs_nil))) (fun _ _ _ _ _ => pts_one (pt_val (pn GH hr rfl (pa_cons (pv 7) (pa_cons (pv 4) pa_nil))))) (fun _ _ _ _ _ => pv 6) (i := 5))
      (pss_one (ps_ret (pe_op op_cat (pe_lst (pa_cons (pe_callB call_len_seq rfl TN.nLen PySem.boot_len (pa_cons (pv 5) pa_nil)) pa_nil)) (pn GF hr1 rfl (pa_cons (pv 5) (pa_cons (pv 3) pa_nil)))))))), ?_⟩
    have no : (Rc25.coordinate x && Rc25.coordinate y) = false → ∀ q, H q = none → Q (.ref q) (upd H q (.lst [.int (-1)])) := fun c q hq => by
      unfold tellAt at k
      rw [if_pos c] at k
      exact k _ q (same_upd (Same.refl H) hq) upd_same
    refine ⟨_, rfl, x, hx, rfl, _, rfl, ?_⟩
    cases cx : Rc25.coordinate x with
    | false => exact iteF (iteT ⟨by show 1 ≤ sizeLine; decide, fun q hq => no (by rw [cx]; rfl) q hq⟩)
    | true =>
      refine iteT ?_
      refine ⟨_, rfl, y, hy, rfl, _, rfl, ?_⟩
      cases cy : Rc25.coordinate y with
      | false => exact iteT ⟨by show 1 ≤ sizeLine; decide, fun q hq => no (by rw [cx, cy]; rfl) q hq⟩
      | true =>
        refine iteF ?_
        have cd : Cd (x, y) := ⟨cx, cy⟩
        refine ⟨_, rfl, _, rfl, by show 2 ≤ sizeLine; decide, fun t ht => ?_⟩
        have e0 := same_upd (Same.refl H) (o := .tup [.int (x : Nat), .int (y : Nat)]) ht
        refine ⟨t, (x, y), rfl, SqT.of upd_same, hx, hy, fun H1 p e1 hp => ?_⟩
        have e01 := e0.trans e1
        have hd1 := e01 _ _ hd
        refine ⟨_, rfl, a, L, dx, _, _, rfl, e01 _ _ ha, T.cl, T.nS, lf_shapes _, d, _, rfl, SqL.of hd1, fun D hD => ?_⟩
        refine lc_enum (K := K) (a := d) (xs := vs) (fun i H' => Same H1 H' ∧ H' D = some (.lst (intL (heldIn l (x, y) i)))) ⟨same_upd (Same.refl H1) hD, upd_same⟩ (fun i H' z => SqL.of (z.1 _ _ hd1)) ?_ ?_
        · rintro i u T' H' hu ⟨e, hD'⟩ hT'
          have hi : i < l.length := by have := (List.getElem?_eq_some_iff.mp hu).1; have := hL.len; omega
          have hs := List.getElem?_eq_getElem hi
          generalize l[i] = sh at hs
          obtain ⟨b, g1, g2⟩ := hL.at_ i sh hs
          rw [hu] at g1
          cases g1
          have e2 := same_upd (Same.refl H') (o := .tup [.int (i : Nat), .ref b]) hT'
          have e3 := e.trans e2
          refine ⟨T', _, rfl, SqT.of upd_same, rfl, _, _, rfl, _, _, rfl, rfl, rfl, ?_⟩
          refine ⟨_, rfl, _, rfl, b, p, sh, (x, y), rfl, g2.same (e01.trans e3), e3 _ _ hp, cd, fine_shape hF hs, fun H2 e4 => ⟨_, rfl, ?_⟩⟩
          have hh := held_one (p := (x, y)) hs
          cases hc : sh.holds (x, y) with
          | true =>
            rw [hc, if_pos rfl] at hh
            refine iteT ⟨_, rfl, _, e4 _ _ (e2 _ _ hD'), fits (by rw [intL_len]; have := held_len l (x, y) i; omega), same_upd (e3.trans e4) hD, ?_⟩
            rw [upd_same, hh]
            unfold intL
            rw [List.map_append]
            rfl
          | false =>
            rw [hc, if_neg (by decide), List.append_nil] at hh
            refine iteF ⟨e3.trans e4, ?_⟩
            rw [hh]
            exact e4 _ _ (e2 _ _ hD')
        · rintro H2 ⟨e2, hD2⟩
          rw [hL.len] at hD2
          have hold : heldIn l (x, y) l.length = Rc25.holding l (x, y) := rfl
          rw [hold] at hD2
          have hlen : (Rc25.holding l (x, y)).length ≤ 2000 := by rw [← hold]; exact Nat.le_trans (held_len _ _ _) few
          unfold tellAt at k
          rw [if_neg (by rw [cx, cy]; decide)] at k
          refine ⟨_, rfl, D, _, rfl, .inl (SqL.of hD2), by show 1 ≤ sizeLine; decide, fun q0 hq0 => ?_⟩
          have e3 := same_upd (Same.refl H2) (o := .lst [.int (((intL (Rc25.holding l (x, y))).length : Nat) : Int)]) hq0
          refine ⟨_, rfl, _, rfl, D, _, r, rfl, SqL.of (e3 _ _ hD2), fun H3 d3 e4 n3 hd3 => ?_⟩
          refine ⟨q0, d3, _, _, rfl, rfl, e4 _ _ upd_same, hd3, ?_, fun q hq => ?_⟩
          · rw [List.length_take, intL_len]
            exact Nat.le_of_lt (fits (by show 1 + _ ≤ _; omega))
          · have e5 := e01.trans (e2.trans (e3.trans e4))
            refine k _ q (same_upd e5 (e5.free hq)) ?_
            rw [upd_same, List.map_cons, nums_int, intL_len]
            unfold intL
            rw [List.map_take]
            rfl
/-! ### answer -/
theorem Tells.of_new {L S : Addr} {H H' : Hp} {a q : Addr} {Q : VK} {st : Option (List Rc25.Shape)} {r : List Int} (h : Tells L S H a Q st r) (hl : LandAt L S H a st) (e : Same H H') (hq : H' q = some (.lst (r.map V.int))) : Q (.ref q) H' :=
  h H' q (fun b o z _ => e b o z) (hl.same e) hq
/-- what is told of a shape, by the specification -/
theorem step_shape {st : Rc25Neutral.S} {l : List Rc25.Shape} (hf : st.file = some l) {c : Nat} (hc : c = 3 ∨ c = 4 ∨ c = 5 ∨ c = 7) {ns : List Int} (a : askOf c ns) :
    (c = 5 → ns.length = 4) ∧ 0 < ns.length ∧ stepOf st c ns = (st, match Rc25.pick l (ns.getD 0 0) with | none => [-1] | some s => tShape s c ns) := by
  rcases hc with rfl | rfl | rfl | rfl
  · obtain ⟨k, rfl, _⟩ := ask_one (by decide) a
    refine ⟨fun z => absurd z (by decide), Nat.zero_lt_one, ?_⟩
    rw [step3 hf]
    unfold tellAbout
    show (st, _) = (st, match Rc25.pick l k with | none => [-1] | some s => tShape s 3 [k])
    cases Rc25.pick l k <;> rfl
  · obtain ⟨k, rfl, _⟩ := ask_one (by decide) a
    refine ⟨fun z => absurd z (by decide), Nat.zero_lt_one, ?_⟩
    rw [step4 hf]
    unfold tellBox
    show (st, _) = (st, match Rc25.pick l k with | none => [-1] | some s => tShape s 4 [k])
    cases Rc25.pick l k with
    | none => rfl
    | some z => cases z <;> rfl
  · obtain ⟨k, x, y, z, rfl⟩ := ask5 a
    refine ⟨fun _ => rfl, Nat.zero_lt_succ _, ?_⟩
    rw [step5 hf]
    unfold tellPart
    show (st, _) = (st, match Rc25.pick l k with | none => [-1] | some s => tShape s 5 [k, x, y, z])
    cases Rc25.pick l k <;> rfl
  · obtain ⟨k, rfl, _⟩ := ask_one (by decide) a
    refine ⟨fun z => absurd z (by decide), Nat.zero_lt_one, ?_⟩
    rw [step7 hf]
    unfold tellArea
    show (st, _) = (st, match Rc25.pick l k with | none => [-1] | some s => tShape s 7 [k])
    cases Rc25.pick l k <;> rfl
end
end Ls
end
section
set_option Elab.async false
set_option linter.all false
set_option maxRecDepth 100000
/-! The calls, one behind another. -/
namespace Ls
open PySem PySem.Spec PyProof.Rows L2 L3 Ma
open Rc25Neutral (bytesOf)
section
variable {P : Program} {w : World} {K : PySem.W.Frag} {mg : Str → Option Value} {base : Heap} {C : Addr}
/-! ### answers -/
/-- what the method answer promises: the specification's answer to one call -/
def spAnswer (L S : Addr) : Sp := fun vs H Q _ => ∃ (a d : Addr) (k : Nat) (nums : List Int) (st : Rc25Neutral.S), vs = [.ref a, .int k, .ref d] ∧ k < 8 ∧ LandAt L S H a st.file ∧ FineSt st ∧ H d = some (.lst (nums.map V.int)) ∧ nums.length ≤ 16000 ∧
  Rc25Neutral.asked1 (PyRc25.whole (theCall k nums)) = true ∧ Tells L S H a Q (Rc25Neutral.step st (PyRc25.whole (theCall k nums))).1.file (Rc25Neutral.step st (PyRc25.whole (theCall k nums))).2
def spAns (K : PySem.W.Frag) : Sp := fun vs H Q _ => ∃ (a : Addr) (ns : List Int), vs = [.ref a] ∧ SqL K H a (ns.map V.int) ∧ ns.length ≤ 16000 ∧ PyRc25.answers_asked ns = true ∧ ∀ (H' : Hp) (p : Addr), H' p = some (.lst ((PyRc25.answers ns).map V.int)) → Q (.ref p) H'
/-- how many numbers stand behind each call's own -/
def Behind (K : PySem.W.Frag) (mg : Str → Option Value) : Prop := ∃ b, mg "NUMBERS_BEHIND" = some (.ref b) ∧ ∀ H : Hp, SqT K H b (intL [0, 1, 0, 1, 1, 4, 3, 1])
theorem nb_at {k : Nat} (h : k < 8) : (intL [0, 1, 0, 1, 1, 4, 3, 1])[k]? = some (.int (nb k : Nat)) := by
  match k, h with
  | 0, _ => rfl
  | 1, _ => rfl
  | 2, _ => rfl
  | 3, _ => rfl
  | 4, _ => rfl
  | 5, _ => rfl
  | 6, _ => rfl
  | 7, _ => rfl
theorem Held.msk {S : Addr} {H : Hp} {d : Addr} {od : Obj} {u : HO} {st : Option (List Rc25.Shape)} {v : V} (h : Held S H st v) (hd : H d = some (.frz od u)) : Held S (Msk d H) st v := by
  cases st with
  | none => exact h
  | some l => obtain ⟨q, h1, h2⟩ := h; exact ⟨q, h1, h2.msk hd⟩
theorem LandAt.msk {L S : Addr} {H : Hp} {a d : Addr} {od : Obj} {u : HO} {st : Option (List Rc25.Shape)} (h : LandAt L S H a st) (hd : H d = some (.frz od u)) : LandAt L S (Msk d H) a st :=
  let ⟨dx, v, h1, h2⟩ := h; ⟨dx, v, by rw [msk_ne (ne_of h1 hd (by intro z; cases z))]; exact h1, h2.msk hd⟩
theorem scAns : FnScope ["calls", "land", "told", "place", "call", "start", "end", "answer"] ["calls"] (defScope (top 74)) := ⟨rfl, rfl, rfl, by decide +kernel, rfl, by decide +kernel, by decide +kernel⟩
theorem big {n : Nat} (h : n ≤ 1000000) : n < sizeLine := Nat.lt_of_le_of_lt h (by decide)
/-- where the loop stands -/
def Turn1 (L S : Addr) (H : Hp) (ns : List Int) (a ld td : Addr) (m : Nat) (σ : L2.St) (H' : Hp) : Prop :=
  ∃ (p g : Nat) (st : Rc25Neutral.S) (cs : List (List (List Int))) (out : List Int) (v4 v5 v6 v7 : Option V), σ = [some (.ref a), some (.ref ld), some (.ref td), some (.int p), v4, v5, v6, v7] ∧ m = ns.length - p ∧ p ≤ ns.length ∧ Same H H' ∧ H' td = some (.lst (out.map V.int)) ∧ LandAt L S (Msk td H') ld st.file ∧
    FineSt st ∧ PyFlat.calls PyRc25.shape g (ns.drop p) = some cs ∧ Ask cs ∧ PyRc25.answers ns = out ++ rest st cs ∧ out.length + 4000 * cs.length ≤ 800000
theorem ok_answers {L S fI fA f : Addr} {fd fdI fdA : FuncData} {kA : Nat} (F : Fun K "answers" "answers" (top 74) f fd) (TN : Names mg) (T : LandCls K mg L S) (hO : Num mg "CALL_OPEN" 1) (hB : Behind K mg) (ML : Mk K L fI)
    (FI : FnOk P w K mg base (CXE P w C) 1 fI fdI ["self"] (spLdInit L)) (bI : Binds K fdI ["self"] []) (mA : Meth K L "answer" fA) (FA : FnOk P w K mg base (CXE P w C) (kA + 2) fA fdA ["self", "call", "numbers"] (spAnswer L S)) (bA : Binds K fdA ["self", "call", "numbers"] []) :
    FnOk P w K mg base (CXE P w C) (kA + 3) f fd ["calls"] (spAns K) := by
  obtain ⟨nbA, mNB, hNB⟩ := hB
  refine okM F scAns (fun vs H Q E h => ?_) (fun cdv A outer s H vs Q E hr h => ?_)
  · obtain ⟨a, ns, rfl, _⟩ := h
    rfl
  · obtain ⟨a, ns, rfl, hS, hle, hask, k⟩ := h
    have hr2 : Room 2 _ := hr.mono (by omega)
    have eV : (ns.map V.int).length = ns.length := List.length_map _
    obtain ⟨cs0, hc0, hl0, hA0, hans⟩ := asked_calls hask
    refine ⟨_, pss_cons (ps_set (i := 1) scAns.nd rfl (Or.inl rfl) (pe_make0 ML FI hr2 rfl T.mgL bI .nil pass_no))
      (pss_cons (ps_set (i := 2) scAns.nd rfl (Or.inl rfl) (pe_lst pa_nil))
      (pss_cons (ps_set (i := 3) scAns.nd rfl (Or.inl rfl) pe_int)
      (pss_cons (ps_while own_cx (pt_cmpR op_lt (pv 3) (pe_callB call_len_seq rfl TN.nLen PySem.boot_len (pa_cons (pv 0) pa_nil)) (nomark _))
        (pss_cons (ps_set (i := 4) scAns.nd rfl (Or.inl rfl) (pe_ix ix_list (pv 0) (pv 3) (fun _ _ => rfl)))
        (pss_cons (ps_set (i := 5) scAns.nd rfl (Or.inl rfl) (pe_op op_add (pv 3) pe_int))
        (pss_cons (ps_set (i := 6) scAns.nd rfl (Or.inl rfl) (pe_op op_add (pv 5) (pe_ix ix_tup (pe_glob (v := .ref nbA) rfl mNB rfl) (pv 4) (fun _ _ => rfl))))
        (pss_cons (ps_if (pt_cmpR op_eq (pv 4) (pg hO rfl) (nomark _)) (pss_cons (ps_set (i := 5) scAns.nd rfl (Or.inl rfl) (pv 6)) (pss_one (ps_set (i := 6) scAns.nd rfl (Or.inl rfl) (pe_op op_add (pv 5) (pe_ix ix_list (pv 0) (pe_op op_add (pv 3) pe_int) (fun _ _ => rfl)))))) pss_nil)
        (pss_cons (ps_set (i := 7) scAns.nd rfl (Or.inl rfl) (pe_lock (pe_meth (pv 1) T.cl mA FA hr bA .nil pass_no (pa_cons (pv 4) (pa_cons (pe_slice sl_list (pv 0) (po_some (pv 5)) (po_some (pv 6))) pa_nil)))))
        (pss_cons (ps_expr (pe_bm PySem.F.plainAttrs_list PySem.F.slot_list_append PySem.F.type_list_append mt_append (pv 2) (pa_cons (pe_callB call_len_seq rfl TN.nLen PySem.boot_len (pa_cons (pv 7) pa_nil)) pa_nil)))
        (pss_cons (ps_expr (pe_bm PySem.F.plainAttrs_list PySem.F.slot_list_extend PySem.F.type_list_extend mt_extend (pv 2) (pa_cons (pv 7) pa_nil)))
        (pss_one (ps_set (i := 3) scAns.nd rfl (Or.inl rfl) (pv 6)))))))))))
      (pss_one (ps_ret (pv 2)))))), ?_⟩
    -- land = Land(); told = []; place = 0
    intro ld dx nx nd ne
    refine ⟨ld, dx, rfl, upd_same, fun H1 hl1 k1 => ⟨rfl, ?_⟩⟩
    have e1 : Same H H1 := Same.made nx nd k1
    refine ⟨Nat.zero_le _, fun td htd => ?_⟩
    have nlt : ld ≠ td := ne_of_none hl1 htd
    have nH : H td = none := e1.free htd
    refine ⟨fun m σ H' => Turn1 L S H ns a ld td m σ H', ⟨_, 0, ns.length, {}, cs0, [], none, none, none, none, rfl, rfl, Nat.zero_le _, same_upd e1 nH, upd_same, ⟨dx, .non, by rw [msk_ne nlt, upd_ne nlt]; exact hl1, rfl⟩, (fun l z => by cases z), hc0, hA0, hans, by simp; omega⟩, ?_⟩
    rintro m σ H' ⟨p, g, st, cs, out, v4, v5, v6, v7, rfl, rfl, hp, e, htd', hLd, hF, hcs, hAsk, hout, hlen⟩
    refine ⟨_, rfl, _, rfl, a, _, rfl, .inl (e.seq hS), _, _, rfl, rfl, _, rfl, ite2 (fun h1 => ?_) (fun h1 => ?_)⟩
    · have lp : p < ns.length := by have := of_decide_eq_true h1; rw [eV] at this; omega
      obtain ⟨z, r, hzr⟩ : ∃ z r, ns.drop p = z :: r := ⟨_, _, List.drop_eq_getElem_cons lp⟩
      rw [hzr] at hcs
      obtain ⟨g', c, t, cs', rfl, hHead, hcs', rfl⟩ := calls_step hcs
      rw [← hzr] at hHead
      obtain ⟨k0, e0, s0, k8, hk, rfl, hel, hpe, hse, rfl, hcase⟩ := head_place hHead
      refine ⟨fun σ' H2 => ∃ m', m' < ns.length - p ∧ Turn1 L S H ns a ld td m' σ' H2, fun _ _ z => z, ?_⟩
      -- call, start, end
      refine ⟨_, rfl, _, rfl, a, _, _, _, rfl, rfl, e.seq hS, at_of (j := p) rfl (by rw [List.getElem?_map, hk]; rfl), ?_⟩
      refine ⟨_, rfl, _, _, rfl, rfl, ?_⟩
      refine ⟨_, rfl, _, rfl, nbA, _, _, _, rfl, rfl, hNB H', atI_nat (nb_at k8), _, _, rfl, rfl, ?_⟩
      have hnl : ((ns.drop s0).take (e0 - s0)).length ≤ 16000 := by rw [List.length_take, List.length_drop]; omega
      have hsl := step_len hF (PyRc25.whole (theCall k0 ((ns.drop s0).take (e0 - s0))))
      have hask1 := hAsk _ List.mem_cons_self
      have hsf : FineSt (Rc25Neutral.step st (PyRc25.whole (theCall k0 ((ns.drop s0).take (e0 - s0))))).1 := step_fine hF k8 hnl hask1
      rw [rest_cons] at hout
      generalize hst' : Rc25Neutral.step st (PyRc25.whole (theCall k0 ((ns.drop s0).take (e0 - s0)))) = res at *
      obtain ⟨dxl, vl, hl, hh⟩ := hLd
      have nlt : ld ≠ td := fun z => by rw [z] at hl; unfold Msk at hl; rw [if_pos rfl] at hl; cases hl
      have hc5 : k0 ≠ 1 → (p : Int) + 1 + ((nb k0 : Nat) : Int) = ((e0 : Nat) : Int) ∧ (p : Int) + 1 = ((s0 : Nat) : Int) := fun z => by
        rcases hcase with ⟨_, q1, q2⟩ | ⟨q, _⟩
        · omega
        · exact absurd q z
      have hc6 : k0 = 1 → ∃ n : Nat, ns[p + 1]? = some (n : Int) ∧ (p : Int) + 1 + ((nb k0 : Nat) : Int) = ((s0 : Nat) : Int) ∧ ((s0 : Nat) : Int) + ((n : Nat) : Int) = ((e0 : Nat) : Int) := fun z => by
        rcases hcase with ⟨q, _⟩ | ⟨_, n, q1, q2, q3⟩
        · exact absurd z q
        · refine ⟨n, q1, ?_, by omega⟩
          subst z
          show (p : Int) + 1 + 1 = _
          omega
      refine ⟨_, rfl, rfl, _, rfl, ite2 (fun h2 => ?_) (fun h2 => ?_)⟩
      case' refine_1 =>
        have z1 : k0 = 1 := by have := V.int.inj (of_decide_eq_true h2); omega
        obtain ⟨n, q1, q2, q3⟩ := hc6 z1
        refine ⟨_, rfl, ?_⟩
        refine ⟨_, rfl, _, rfl, _, rfl, _, _, rfl, rfl, a, _, _, _, rfl, rfl, e.seq hS, at_of (j := p + 1) (by omega) (by rw [List.getElem?_map, q1]; rfl), _, _, rfl, rfl, ?_⟩
        dsimp only
        rw [q2, q3]
      case' refine_2 =>
        have z1 : k0 ≠ 1 := fun z => h2 (decide_eq_true (by rw [z]; rfl))
        obtain ⟨q2, q3⟩ := hc5 z1
        dsimp only
        rw [q2, q3]
      all_goals
        refine ⟨td, _, htd', trivial, fun od => ?_⟩
        have eM : Same (Msk td H') (upd H' td (.frz od (.lst (out.map V.int)))) := fun b o z => by
          have n : b ≠ td := fun q => by rw [q] at z; unfold Msk at z; rw [if_pos rfl] at z; cases z
          rw [upd_ne n]
          exact msk_sub b o z
        have eK : Same H (upd H' td (.frz od (.lst (out.map V.int)))) := same_upd e nH
        refine ⟨_, rfl, ld, dxl, _, rfl, eM _ _ hl, lf_no _ (by decide +kernel), ?_⟩
        refine ⟨_, rfl, _, rfl, _, rfl, _, rfl, _, rfl, _, rfl, a, _, rfl, eK.seq hS, fun d hd => ?_⟩
        rw [cut_ns hse hel]
        have eD := same_upd (Same.refl (upd H' td (.frz od (.lst (out.map V.int))))) (o := .lst (((ns.drop s0).take (e0 - s0)).map V.int)) hd
        refine ⟨ld, d, k0, _, st, rfl, k8, ⟨dxl, vl, eD _ _ (eM _ _ hl), hh.same (eM.trans eD)⟩, hF, upd_same, hnl, hask1, ?_⟩
        rw [hst']
        intro H2 q kp hL2 hq
        have h2d : H2 td = some (.frz od (.lst (out.map V.int))) := kp td _ (eD _ _ upd_same) (Ne.symm nlt)
        have nq : q ≠ td := ne_of hq h2d (by intro z; cases z)
        have rl : res.2.length ≤ 2901 := hsl
        rw [List.length_cons] at hlen
        refine ⟨h2d, ?_⟩
        refine ⟨_, rfl, .inl ⟨rfl, _, SqL.of upd_same⟩, _, rfl, q, _, rfl, .inl (SqL.of (by rw [upd_ne nq]; exact hq)), td, _, _, rfl, rfl, upd_same, big (by rw [List.length_map]; omega), ?_⟩
        refine ⟨_, rfl, .inl ⟨rfl, _, SqL.of upd_same⟩, _, rfl, td, q, _, _, rfl, rfl, upd_same, by rw [upd_ne nq, upd_ne nq]; exact hq, Nat.le_of_lt (big (by rw [List.length_append, List.length_map, List.length_map]; show _ + 1 + _ ≤ _; omega)), ?_⟩
        refine ⟨_, rfl, ns.length - e0, by omega, e0, g', res.1, cs', out ++ ((res.2.length : Int) :: res.2), _, _, _, _, rfl, rfl, hel, ?_, ?_, ?_, hsf, hcs', fun c hc => hAsk c (List.mem_cons_of_mem _ hc), ?_, ?_⟩
        · have e2 : Same H H2 := fun b o z => kp b o (eD b o (eK b o z)) (ne_of_none z nx)
          exact same_upd (same_upd (same_upd e2 nH) nH) nH
        · rw [upd_same, List.length_map, List.map_append, List.append_assoc]
          rfl
        · rw [msk_upd, msk_upd, msk_upd]
          exact hL2.msk h2d
        · rw [hout, List.append_assoc]
        · rw [List.length_append, List.length_cons]
          omega
    · have lp : p = ns.length := by
        have : ¬ (p : Int) < (((ns.map V.int).length : Nat) : Int) := fun z => h1 (decide_eq_true z)
        rw [eV] at this
        omega
      subst lp
      rw [List.drop_length] at hcs
      have := calls_nil hcs
      subst this
      rw [rest_nil, List.append_nil] at hout
      exact ⟨_, rfl, k H' td (by rw [hout]; exact htd')⟩
end
end Ls
end
section
set_option Elab.async false
set_option linter.all false
set_option maxRecDepth 100000
/-! One call answered. -/
namespace Ls
open PySem PySem.Spec PyProof.Rows L2 L3 Ma
open Rc25Neutral (bytesOf)
section
variable {P : Program} {w : World} {K : PySem.W.Frag} {mg : Str → Option Value} {base : Heap} {C : Addr}
theorem scAnswer : FnScope ["self", "call", "numbers"] ["self", "call", "numbers"] (defScope (inClass (top 69) 1)) := ⟨rfl, rfl, rfl, by decide +kernel, rfl, by decide +kernel, by decide +kernel⟩
theorem ok_answer {L S f fT fH : Addr} {fd fdT fdH : FuncData} (F : Fun K "answer" "Land.answer" (inClass (top 69) 1) f fd) (T : LandCls K mg L S) (TN : Names mg) (mT : Meth K L "take_file" fT) (FT : FnOk P w K mg base (CXE P w C) 10 fT fdT ["self", "data"] (spTake K L S)) (bT : Binds K fdT ["self", "data"] [])
    (mH : Meth K L "tell_holders" fH) (FH : FnOk P w K mg base (CXE P w C) 5 fH fdH ["self", "x", "y", "most"] (spHolders L S)) (bH : Binds K fdH ["self", "x", "y", "most"] []) (GS : Ok P w K mg base C "answer_of_shape" 6 ["shape", "call", "numbers"] (spShape S)) :
    FnOk P w K mg base (CXE P w C) (9 + 2) f fd ["self", "call", "numbers"] (spAnswer L S) := by
  refine okM F scAnswer (fun vs H Q E h => ?_) (fun cdv A outer s H vs Q E hr h => ?_)
  · obtain ⟨a, d, k, nums, st, rfl, _⟩ := h
    rfl
  · obtain ⟨a, d, c, nums, st, rfl, c8, hLand, hFine, hd, hlen, hask, hT⟩ := h
    obtain ⟨dx, v, ha, hv⟩ := id hLand
    have hr5 : Room 5 _ := hr.mono (by decide)
    have hr6 : Room 6 _ := hr.mono (by decide)
    have hr10 : Room 10 _ := hr.mono (by decide)
    refine ⟨_, pss_cons (ps_if (pt_cmpR op_eq (pv 1) (pg TN.cBegin rfl) (nomark _)) (pss_cons (ps_fld (pv 0) pe_non rfl) (pss_one (ps_ret (pe_lst (pa_cons pe_int pa_nil))))) pss_nil)
      (pss_cons (ps_if (pt_cmpR op_eq (pv 1) (pg TN.cOpen rfl) (nomark _)) (pss_one (ps_ret (pe_meth (pv 0) T.cl mT FT hr10 bT .nil pass_no (pa_cons (pv 2) pa_nil)))) pss_nil)
      (pss_cons (ps_if (pt_cmpR op_isN (pe_fld (pv 0) rfl) pe_non (nomark _)) (pss_one (ps_ret (pe_lst (pa_cons (pg TN.noFile rfl) pa_nil)))) pss_nil)
      (pss_cons (ps_if (pt_cmpR op_eq (pv 1) (pg TN.cCount rfl) (nomark _)) (pss_one (ps_ret (pe_lst (pa_cons (pe_callB call_len_seq rfl TN.nLen PySem.boot_len (pa_cons (pe_fld (pv 0) rfl) pa_nil)) pa_nil)))) pss_nil)
      (pss_cons (ps_if (pt_cmpR op_eq (pv 1) (pg TN.cAt rfl) (nomark _)) (pss_one (ps_ret (pe_meth (pv 0) T.cl mH FH hr5 bH .nil pass_no (pa_cons (pe_ix ix_list (pv 2) pe_int (fun _ _ => rfl)) (pa_cons (pe_ix ix_list (pv 2) pe_int (fun _ _ => rfl)) (pa_cons (pe_ix ix_list (pv 2) pe_int (fun _ _ => rfl)) pa_nil)))))) pss_nil)
      (pss_cons (ps_if (pt_not (pt_chain op_le op_lt pe_int (pe_ix ix_list (pv 2) pe_int (fun _ _ => rfl)) (pe_callB call_len_seq rfl TN.nLen PySem.boot_len (pa_cons (pe_fld (pv 0) rfl) pa_nil)))) (pss_one (ps_ret (pe_lst (pa_cons (pg TN.refused rfl) pa_nil)))) pss_nil)
      (pss_one (ps_ret (pn GS hr6 rfl (pa_cons (pe_ix ix_list (pe_fld (pv 0) rfl) (pe_ix ix_list (pv 2) pe_int (fun _ _ => rfl)) (fun _ _ => rfl)) (pa_cons (pv 1) (pa_cons (pv 2) pa_nil))))))))))), ?_⟩
    -- begin
    refine ⟨_, rfl, rfl, _, rfl, ?_⟩
    rw [dk0]
    by_cases c0 : c = 0
    · subst c0
      rw [decide_eq_true rfl]
      have n0 := ask0 hask
      subst n0
      have hT0 : Tells L S H a Q none [0] := hT
      refine iteT ⟨_, rfl, a, L, dx, _, rfl, ha, T.cl, T.nS, (by show 1 < 1000; decide), by show 1 ≤ sizeLine; decide, fun q hq => ?_⟩
      have e2 := same_upd (Same.refl (upd H a (.ins L dx (putF "shapes" .non (lf v))))) (o := .lst [.int 0]) hq
      exact hT0 _ q (fun b o z n => e2 b o (by rw [upd_ne n]; exact z)) ⟨dx, .non, e2 _ _ (by rw [upd_same, lf_put]), rfl⟩ upd_same
    rw [decide_eq_false c0]
    refine iteF ?_
    -- open
    refine ⟨_, rfl, rfl, _, rfl, ?_⟩
    rw [dk1]
    by_cases c1 : c = 1
    · subst c1
      rw [decide_eq_true rfl]
      refine iteT ⟨_, rfl, a, dx, _, rfl, ha, lf_no _ (by decide +kernel), _, rfl, a, d, nums, st.file, rfl, hLand, ⟨SqL.of hd, ask1 hask, hlen⟩, fun hn => ?_, fun l hl => ?_⟩
      · rw [show Rc25Neutral.step st (PyRc25.whole (theCall 1 nums)) = (st, [-1]) from step1_none hn] at hT
        exact hT
      · rw [show Rc25Neutral.step st (PyRc25.whole (theCall 1 nums)) = ({ file := some l }, [0]) from step1_some hl hlen] at hT
        exact hT
    rw [decide_eq_false c1]
    refine iteF ?_
    -- no file
    refine ⟨_, rfl, a, L, dx, _, _, rfl, ha, T.cl, T.nS, lf_shapes _, rfl, _, rfl, ?_⟩
    cases hst : st.file with
    | none =>
      rw [hst] at hv
      have hv' : v = .non := hv
      subst hv'
      rw [decide_eq_true rfl]
      refine iteT ⟨by show 1 ≤ sizeLine; decide, fun q hq => ?_⟩
      rw [show Rc25Neutral.step st (PyRc25.whole (theCall c nums)) = (st, [-4]) from step_no_file hst (by omega) c8 hask] at hT
      exact hT.of_new hLand (same_upd (Same.refl H) hq) upd_same
    | some l =>
      rw [hst] at hv
      obtain ⟨sd, rfl, vs, hsd, hL⟩ := hv
      rw [decide_eq_false (by intro z; cases z)]
      refine iteF ?_
      have hFF := hFine l hst
      -- count
      refine ⟨_, rfl, rfl, _, rfl, ?_⟩
      rw [dk2]
      by_cases c2 : c = 2
      · subst c2
        rw [decide_eq_true rfl]
        have n0 := ask2 hask
        subst n0
        refine iteT ⟨_, rfl, a, L, dx, _, _, rfl, ha, T.cl, T.nS, lf_shapes _, sd, _, rfl, .inl (SqL.of hsd), by show 1 ≤ sizeLine; decide, fun q hq => ?_⟩
        rw [show Rc25Neutral.step st (PyRc25.whole (theCall 2 [])) = (st, [(l.length : Int)]) from step2 hst] at hT
        refine hT.of_new hLand (same_upd (Same.refl H) hq) ?_
        rw [upd_same, hL.len]
        rfl
      rw [decide_eq_false c2]
      refine iteF ?_
      -- at
      refine ⟨_, rfl, rfl, _, rfl, ?_⟩
      rw [dk6]
      by_cases c6 : c = 6
      · subst c6
        rw [decide_eq_true rfl]
        obtain ⟨x, y, r, rfl, hx, hy⟩ := ask6 hask
        rw [show Rc25Neutral.step st (PyRc25.whole (theCall 6 [(x : Int), (y : Int), r])) = (st, tellAt l x y r) from step6 hst x y r] at hT
        refine iteT ⟨_, rfl, a, dx, _, rfl, ha, lf_no _ (by decide +kernel), _, rfl, d, _, _, _, rfl, rfl, SqL.of hd, atI_nat (j := 0) rfl, _, rfl, d, _, _, _, rfl, rfl, SqL.of hd, atI_nat (j := 1) rfl, _, rfl, d, _, _, _, rfl, rfl, SqL.of hd, atI_nat (j := 2) rfl, ?_⟩
        refine ⟨a, x, y, r, l, rfl, hx, hy, by rw [← hst]; exact hLand, hFF, fun H' q e hq => hT.of_new hLand e hq⟩
      rw [decide_eq_false c6]
      refine iteF ?_
      -- of one shape
      obtain ⟨h5, hpos, hstep⟩ := step_shape hst (c := c) (by omega) hask
      rw [show Rc25Neutral.step st (PyRc25.whole (theCall c nums)) = _ from hstep] at hT
      have at0 : ∀ {z : Int}, z = ((0 : Nat) : Int) → atI (nums.map V.int) z = some (.int (nums.getD 0 0)) := fun hz => at_ns hz hpos
      generalize nums.getD 0 0 = k at hT at0
      have no : ¬ (0 ≤ k ∧ k < (l.length : Int)) → ∀ q, H q = none → Q (.ref q) (upd H q (.lst [.int (-1)])) := fun cc q hq => by
        rw [pick_none cc] at hT
        exact hT.of_new hLand (same_upd (Same.refl H) hq) upd_same
      refine ⟨_, rfl, d, _, _, _, rfl, rfl, SqL.of hd, at0 rfl, _, _, rfl, rfl, _, rfl, ?_⟩
      by_cases k0 : 0 ≤ k
      case neg =>
        rw [decide_eq_false (show ¬ (0 : Int) ≤ k from k0)]
        exact iteF ⟨_, rfl, iteT ⟨by show 1 ≤ sizeLine; decide, fun q hq => no (fun z => k0 z.1) q hq⟩⟩
      rw [decide_eq_true (show (0 : Int) ≤ k from k0)]
      refine iteT ?_
      refine ⟨_, rfl, a, L, dx, _, _, rfl, ha, T.cl, T.nS, lf_shapes _, sd, _, rfl, .inl (SqL.of hsd), _, _, rfl, rfl, _, rfl, ?_⟩
      by_cases k1 : k < (l.length : Int)
      case neg =>
        have e : decide (k < ((vs.length : Nat) : Int)) = false := by rw [hL.len]; exact decide_eq_false k1
        rw [e]
        exact iteT ⟨by show 1 ≤ sizeLine; decide, fun q hq => no (fun z => k1 z.2) q hq⟩
      have e : decide (k < ((vs.length : Nat) : Int)) = true := by rw [hL.len]; exact decide_eq_true k1
      rw [e]
      refine iteF ?_
      obtain ⟨i, z, rfl, hz, hp⟩ := pick_some k0 k1
      obtain ⟨b, g1, g2⟩ := hL.at_ i z hz
      rw [hp] at hT
      refine ⟨_, rfl, a, L, dx, _, _, rfl, ha, T.cl, T.nS, lf_shapes _, _, rfl, d, _, _, _, rfl, rfl, SqL.of hd, at0 rfl, sd, _, _, _, rfl, rfl, SqL.of hsd, atI_nat g1, _, rfl, _, rfl, ?_⟩
      exact ⟨b, d, z, c, nums, rfl, g2, fine_shape hFF hz, hFF.parts z (List.mem_of_getElem? hz), hd, h5, fun H' q e hq => hT.of_new hLand e hq⟩
end
end Ls
end
set_option Elab.async false
set_option linter.all false
set_option maxRecDepth 100000
/-! The top: what stands behind the module's own rows; all defs together. -/
namespace Ls
open PySem PySem.Spec PyProof.Rows L2 L3 Ma
open Rc25Neutral (bytesOf)
/-- a def, a method as it stands behind the top -/
def DefIn (K : PySem.W.Frag) (x qual : Str) (st : Stmt) (f : Addr) : Prop :=
  PySem.W.nsIn K mainGlobals x = some (some (.ref f)) ∧ ∃ (oc : Value) (od : Option Addr) (kV doc pm : Value) (an : Option Addr) (cdv ct : Value) (sl : Array (Option Value)),
    K.lookup f = some ⟨oc, od, .func (PySem.W.fnOf x qual (defArgs st) (defBody st) (defScope st) .none kV doc pm an cdv ct), sl⟩ ∧ PySem.W.codeIn K cdv qual = true ∧ PySem.W.keepIn K (.ref f) = true
def MethIn (K : PySem.W.Frag) (C : Addr) (x qual : Str) (st : Stmt) (f : Addr) : Prop :=
  PySem.W.findIn K (.ref C) x = some (some (.ref f)) ∧ PySem.W.isFn K (.ref f) = true ∧ ∃ (oc : Value) (od : Option Addr) (kV doc pm : Value) (an : Option Addr) (cdv ct : Value) (sl : Array (Option Value)),
    K.lookup f = some ⟨oc, od, .func (PySem.W.fnOf x qual (defArgs st) (defBody st) (defScope st) .none kV doc pm an cdv ct), sl⟩ ∧ PySem.W.codeIn K cdv qual = true ∧ PySem.W.keepIn K (.ref f) = true
theorem DefIn.fn {K : PySem.W.Frag} {x qual : Str} {st : Stmt} {f : Addr} {h : Heap} {mg : Str → Option Value} (d : DefIn K x qual st f) (X : K.In h) (G : h.Ns mainGlobals mg) : mg x = some (.ref f) ∧ ∃ fd, Fun K x qual st f fd := by
  obtain ⟨a, oc, od, kV, doc, pm, an, cdv, ct, sl, l, c, k⟩ := d
  exact ⟨PySem.W.mg_of X G a, _, fun_mk l c k⟩
theorem MethIn.fn {K : PySem.W.Frag} {C : Addr} {x qual : Str} {st : Stmt} {f : Addr} (d : MethIn K C x qual st f) : Meth K C x f ∧ ∃ fd, Fun K x qual st f fd := by
  obtain ⟨a, i, oc, od, kV, doc, pm, an, cdv, ct, sl, l, c, k⟩ := d
  exact ⟨⟨a, i, k⟩, _, fun_mk l c k⟩
theorem def_in {K : PySem.W.Frag} {x qual : Str} {st : Stmt} {f : Addr} {oc : Value} {od : Option Addr} {kV doc pm : Value} {an : Option Addr} {cdv ct : Value} {sl : Array (Option Value)} (a : PySem.W.nsIn K mainGlobals x = some (some (.ref f)))
    (l : K.lookup f = some ⟨oc, od, .func (PySem.W.fnOf x qual (defArgs st) (defBody st) (defScope st) .none kV doc pm an cdv ct), sl⟩) (c : PySem.W.codeIn K cdv qual = true) (k : PySem.W.keepIn K (.ref f) = true) : ∃ f, DefIn K x qual st f := ⟨f, a, _, _, _, _, _, _, _, _, _, l, c, k⟩
theorem meth_in {K : PySem.W.Frag} {C : Addr} {x qual : Str} {st : Stmt} {f : Addr} {oc : Value} {od : Option Addr} {kV doc pm : Value} {an : Option Addr} {cdv ct : Value} {sl : Array (Option Value)} (a : PySem.W.findIn K (.ref C) x = some (some (.ref f))) (i : PySem.W.isFn K (.ref f) = true)
    (l : K.lookup f = some ⟨oc, od, .func (PySem.W.fnOf x qual (defArgs st) (defBody st) (defScope st) .none kV doc pm an cdv ct), sl⟩) (c : PySem.W.codeIn K cdv qual = true) (k : PySem.W.keepIn K (.ref f) = true) : ∃ f, MethIn K C x qual st f := ⟨f, a, i, _, _, _, _, _, _, _, _, _, l, c, k⟩
def NumIn (K : PySem.W.Frag) (x : Str) (i : Int) : Prop := ∃ t, PySem.W.nsIn K mainGlobals x = some (some (.int i t))
theorem num_in {K : PySem.W.Frag} {x : Str} {i : Int} {t : Tok} (a : PySem.W.nsIn K mainGlobals x = some (some (.int i t))) : NumIn K x i := ⟨t, a⟩
theorem NumIn.num {K : PySem.W.Frag} {x : Str} {i : Int} {h : Heap} {mg : Str → Option Value} (d : NumIn K x i) (X : K.In h) (G : h.Ns mainGlobals mg) : Num mg x i := by
  obtain ⟨t, a⟩ := d
  exact ⟨t, PySem.W.mg_of X G a⟩
/-- what a class must have -/
structure ClsIn (K : PySem.W.Frag) (x : Str) (C : Addr) : Prop where
  bound : PySem.W.nsIn K mainGlobals x = some (some (.ref C))
  pg : PySem.W.plainGet K C Str.empty = true
  hd : PySem.W.hasDictIn K C = true
  po : PySem.W.plainOver K C = true
  sa : PySem.W.findIn K (.ref C) "__setattr__" = some (some (.builtin "object.__setattr__"))
  makes : PySem.W.makesIn K C = true
  kp : PySem.W.keepIn K (.ref C) = true
theorem ClsIn.cl {K : PySem.W.Frag} {x : Str} {C : Addr} (c : ClsIn K x C) : Cls K C := ⟨c.pg, c.hd, c.po, c.sa⟩
theorem MethIn.made {K : PySem.W.Frag} {x qual : Str} {C f : Addr} {st : Stmt} (c : ClsIn K x C) (d : MethIn K C "__init__" qual st f) : Mk K C f := ⟨c.makes, d.1, d.2.1, c.kp⟩
/-- an own class of errors, straight under Exception -/
theorem own_mk {K : PySem.W.Frag} {h : Heap} {mg : Str → Option Value} {x : Str} {C : Addr} {mro : List Value} {newId : String} (X : K.In h) (hm : mg x = some (.ref C)) (q : PySem.W.excIn K C mro newId = true) : OwnCls x C mro newId mg h := by
  refine ⟨hm, ?_⟩
  unfold PySem.W.excIn at q
  cases hk : K.lookup C with
  | none => rw [hk] at q; cases q
  | some ob =>
    rw [hk] at q
    obtain ⟨oc, dd, dat, sl⟩ := ob
    split at q
    · rename_i dd' cd sl' heq
      cases heq
      split at q
      · rename_i C' tl k0 k1 k2 k3 n k5 e1 e2
        rw [Bool.and_eq_true, Bool.and_eq_true, Bool.and_eq_true, Bool.and_eq_true, Bool.and_eq_true] at q
        obtain ⟨⟨⟨⟨⟨q1, q2⟩, q3⟩, q4⟩, q5⟩, q6⟩ := q
        cases eq_of_beq q1
        cases eq_of_beq q2
        obtain ⟨nm, bs, mr, N, qn, hdct, sn, sub, ab, col, del⟩ := cd
        have q3' : del = false := by cases del <;> first | rfl | cases q3
        subst q3'
        have e1' : mr = .ref C :: tl := e1
        subst e1'
        have e2' : sl = #[k0, k1, k2, k3, some (.builtin newId), k5] := by
          cases sl with
          | mk l => exact congrArg Array.mk e2
        subst e2'
        exact ⟨tl, N, nm, qn, bs, hdct, sn, sub, ab, col, dd, k0, k1, k2, k3, k5, _, X _ _ hk, .of_isNs (PySem.W.isNs_of_in X q5), PySem.W.nsMap_none_of_in X q5 (eq_of_beq q6), PySem.W.tail_of_in X q4⟩
      · cases q
    · cases q
/-- what never lets an exception go -/
theorem quiet {P : Program} {w : World} {K : PySem.W.Frag} {mg : Str → Option Value} {base : Heap} {C : Addr} {k : Nat} {f : Addr} {fd : FuncData} {ps : List Str} {sp : Sp} (F : FnOk P w K mg base (CXE P w C) k f fd ps sp) (h : ∀ vs H Q E, sp vs H Q E → sp vs H Q E0) : FnOk P w K mg base CX0 k f fd ps sp := by
  refine ⟨F.len, fun A outer s H args us vs Q E hr he hb hv hs => ?_⟩
  refine codeAny_mono (F.run A outer s H args us vs Q E0 hr he hb hv (h _ _ _ _ hs)) fun r s' hq => ?_
  cases r with
  | error e =>
    obtain ⟨_, _, _, _, _, _, _, _, q⟩ := hq
    exact q.elim
  | ok fl =>
    cases fl with
    | ret u => exact hq
    | next => exact hq
    | brk => exact hq
    | cont => exact hq
/-- the table of how many numbers stand behind a call's own -/
def TabIn (K : PySem.W.Frag) : Prop := ∃ (b : Addr) (od : Option Addr) (n : Nat) (sl : Array (Option Value)) (t0 t1 t2 t3 t4 t5 t6 t7 : Tok), PySem.W.nsIn K mainGlobals "NUMBERS_BEHIND" = some (some (.ref b)) ∧
  K.lookup b = some ⟨.type "tuple", od, .seq #[.int 0 t0, .int 1 t1, .int 0 t2, .int 1 t3, .int 1 t4, .int 4 t5, .int 3 t6, .int 1 t7] n, sl⟩
theorem tab_in {K : PySem.W.Frag} {b : Addr} {od : Option Addr} {n : Nat} {sl : Array (Option Value)} {t0 t1 t2 t3 t4 t5 t6 t7 : Tok} (a : PySem.W.nsIn K mainGlobals "NUMBERS_BEHIND" = some (some (.ref b)))
    (l : K.lookup b = some ⟨.type "tuple", od, .seq #[.int 0 t0, .int 1 t1, .int 0 t2, .int 1 t3, .int 1 t4, .int 4 t5, .int 3 t6, .int 1 t7] n, sl⟩) : TabIn K := ⟨b, od, n, sl, t0, t1, t2, t3, t4, t5, t6, t7, a, l⟩
theorem TabIn.behind {K : PySem.W.Frag} {h : Heap} {mg : Str → Option Value} (d : TabIn K) (X : K.In h) (G : h.Ns mainGlobals mg) : Behind K mg := by
  obtain ⟨b, od, n, sl, t0, t1, t2, t3, t4, t5, t6, t7, a, l⟩ := d
  refine ⟨b, PySem.W.mg_of X G a, fun H => .inr ⟨_, _, n, l, rfl, rfl, by show 8 ≤ sizeLine; decide, ?_⟩⟩
  exact .cons ⟨_, rfl⟩ (.cons ⟨_, rfl⟩ (.cons ⟨_, rfl⟩ (.cons ⟨_, rfl⟩ (.cons ⟨_, rfl⟩ (.cons ⟨_, rfl⟩ (.cons ⟨_, rfl⟩ (.cons ⟨_, rfl⟩ .nil)))))))
theorem bd1 {K : PySem.W.Frag} {x qual : Str} {st : Stmt} {f : Addr} {fd : FuncData} {p0 : Str} (F : Fun K x qual st f fd) (h : ∀ (kV doc pm : Value) (an : Option Addr) (cdv ct a0 : Value), bindArgs (PySem.W.fnOf x qual (defArgs st) (defBody st) (defScope st) .none kV doc pm an cdv ct) ⟨[a0], []⟩ = pure (([p0] : List Str).zip [a0])) : L2.Binds K fd [p0] [] :=
  F.binds fun kV doc pm an cdv ct us hl => match us, hl with | [_], _ => h kV doc pm an cdv ct _
theorem bd2 {K : PySem.W.Frag} {x qual : Str} {st : Stmt} {f : Addr} {fd : FuncData} {p0 p1 : Str} (F : Fun K x qual st f fd) (h : ∀ (kV doc pm : Value) (an : Option Addr) (cdv ct a0 a1 : Value), bindArgs (PySem.W.fnOf x qual (defArgs st) (defBody st) (defScope st) .none kV doc pm an cdv ct) ⟨[a0, a1], []⟩ = pure (([p0, p1] : List Str).zip [a0, a1])) : L2.Binds K fd [p0, p1] [] :=
  F.binds fun kV doc pm an cdv ct us hl => match us, hl with | [_, _], _ => h kV doc pm an cdv ct _ _
theorem bd3 {K : PySem.W.Frag} {x qual : Str} {st : Stmt} {f : Addr} {fd : FuncData} {p0 p1 p2 : Str} (F : Fun K x qual st f fd) (h : ∀ (kV doc pm : Value) (an : Option Addr) (cdv ct a0 a1 a2 : Value), bindArgs (PySem.W.fnOf x qual (defArgs st) (defBody st) (defScope st) .none kV doc pm an cdv ct) ⟨[a0, a1, a2], []⟩ = pure (([p0, p1, p2] : List Str).zip [a0, a1, a2])) : L2.Binds K fd [p0, p1, p2] [] :=
  F.binds fun kV doc pm an cdv ct us hl => match us, hl with | [_, _, _], _ => h kV doc pm an cdv ct _ _ _
theorem bd4 {K : PySem.W.Frag} {x qual : Str} {st : Stmt} {f : Addr} {fd : FuncData} {p0 p1 p2 p3 : Str} (F : Fun K x qual st f fd) (h : ∀ (kV doc pm : Value) (an : Option Addr) (cdv ct a0 a1 a2 a3 : Value), bindArgs (PySem.W.fnOf x qual (defArgs st) (defBody st) (defScope st) .none kV doc pm an cdv ct) ⟨[a0, a1, a2, a3], []⟩ = pure (([p0, p1, p2, p3] : List Str).zip [a0, a1, a2, a3])) : L2.Binds K fd [p0, p1, p2, p3] [] :=
  F.binds fun kV doc pm an cdv ct us hl => match us, hl with | [_, _, _, _], _ => h kV doc pm an cdv ct _ _ _ _
structure ShapeIn (K : PySem.W.Frag) (C : Addr) : Prop where
  cls : ClsIn K "Shape" C
  n_kind : PySem.W.findIn K (.ref C) "kind" = some none
  n_parts : PySem.W.findIn K (.ref C) "parts" = some none
  m_init : ∃ f, MethIn K C "__init__" "Shape.__init__" (inClass (top 32) 0) f
  m_all_points : ∃ f, MethIn K C "all_points" "Shape.all_points" (inClass (top 32) 1) f
structure LandIn (K : PySem.W.Frag) (C : Addr) : Prop where
  cls : ClsIn K "Land" C
  n_shapes : PySem.W.findIn K (.ref C) "shapes" = some none
  m_init : ∃ f, MethIn K C "__init__" "Land.__init__" (inClass (top 69) 0) f
  m_answer : ∃ f, MethIn K C "answer" "Land.answer" (inClass (top 69) 1) f
  m_take_file : ∃ f, MethIn K C "take_file" "Land.take_file" (inClass (top 69) 2) f
  m_tell_holders : ∃ f, MethIn K C "tell_holders" "Land.tell_holders" (inClass (top 69) 3) f
/-- the module's facts -/
structure Facts (K : PySem.W.Frag) : Prop where
  d_exact : ∃ f, DefIn K "exact" "exact" (top 7) f
  d_is_coordinate : ∃ f, DefIn K "is_coordinate" "is_coordinate" (top 6) f
  d_box_of : ∃ f, DefIn K "box_of" "box_of" (top 8) f
  d_exact_point : ∃ f, DefIn K "exact_point" "exact_point" (top 9) f
  d_ways : ∃ f, DefIn K "ways" "ways" (top 10) f
  d_goes_round : ∃ f, DefIn K "goes_round" "goes_round" (top 11) f
  d_whole_low : ∃ f, DefIn K "whole_low" "whole_low" (top 13) f
  d_whole_high : ∃ f, DefIn K "whole_high" "whole_high" (top 14) f
  d_double_bits : ∃ f, DefIn K "double_bits" "double_bits" (top 15) f
  d_doubles : ∃ f, DefIn K "doubles" "doubles" (top 16) f
  d_all_zero : ∃ f, DefIn K "all_zero" "all_zero" (top 17) f
  d_require : ∃ f, DefIn K "require" "require" (top 33) f
  d_read_points : ∃ f, DefIn K "read_points" "read_points" (top 41) f
  d_cut : ∃ f, DefIn K "cut" "cut" (top 42) f
  d_is_part : ∃ f, DefIn K "is_part" "is_part" (top 43) f
  d_read_parts : ∃ f, DefIn K "read_parts" "read_parts" (top 40) f
  d_read_shape : ∃ f, DefIn K "read_shape" "read_shape" (top 39) f
  d_read_content : ∃ f, DefIn K "read_content" "read_content" (top 38) f
  d_read_records : ∃ f, DefIn K "read_records" "read_records" (top 37) f
  d_require_head : ∃ f, DefIn K "require_head" "require_head" (top 35) f
  d_require_head_box : ∃ f, DefIn K "require_head_box" "require_head_box" (top 36) f
  d_read_file : ∃ f, DefIn K "read_file" "read_file" (top 34) f
  d_turn : ∃ f, DefIn K "turn" "turn" (top 49) f
  d_is_between : ∃ f, DefIn K "is_between" "is_between" (top 47) f
  d_lies_on : ∃ f, DefIn K "lies_on" "lies_on" (top 46) f
  d_is_crossed : ∃ f, DefIn K "is_crossed" "is_crossed" (top 48) f
  d_holds : ∃ f, DefIn K "holds" "holds" (top 45) f
  d_without_last_bits : ∃ f, DefIn K "without_last_bits" "without_last_bits" (top 55) f
  d_nearest_double : ∃ f, DefIn K "nearest_double" "nearest_double" (top 54) f
  d_size_bits : ∃ f, DefIn K "size_bits" "size_bits" (top 53) f
  d_first_of : ∃ f, DefIn K "first_of" "first_of" (top 73) f
  d_tell_box : ∃ f, DefIn K "tell_box" "tell_box" (top 71) f
  d_tell_part : ∃ f, DefIn K "tell_part" "tell_part" (top 72) f
  d_answer_of_shape : ∃ f, DefIn K "answer_of_shape" "answer_of_shape" (top 70) f
  d_answers : ∃ f, DefIn K "answers" "answers" (top 74) f
  n_SIGN : NumIn K "SIGN" (9223372036854775808)
  n_FRACTION : NumIn K "FRACTION" (4503599627370495)
  n_HIDDEN_ONE : NumIn K "HIDDEN_ONE" (4503599627370496)
  n_EXPONENT : NumIn K "EXPONENT" (2047)
  n_FARTHEST : NumIn K "FARTHEST" (4787326403894837248)
  n_NOTHING : NumIn K "NOTHING" (0)
  n_POINT : NumIn K "POINT" (1)
  n_LINES : NumIn K "LINES" (3)
  n_AREA : NumIn K "AREA" (5)
  n_LONGEST_FILE : NumIn K "LONGEST_FILE" (4194304)
  n_HEAD_LENGTH : NumIn K "HEAD_LENGTH" (100)
  n_RECORD_HEAD_LENGTH : NumIn K "RECORD_HEAD_LENGTH" (8)
  n_NOTHING_LENGTH : NumIn K "NOTHING_LENGTH" (4)
  n_POINT_LENGTH : NumIn K "POINT_LENGTH" (20)
  n_PLACES_START : NumIn K "PLACES_START" (44)
  n_MOST_PARTS : NumIn K "MOST_PARTS" (65536)
  n_MOST_POINTS : NumIn K "MOST_POINTS" (65536)
  n_DOUBLE_WIDTH : NumIn K "DOUBLE_WIDTH" (53)
  n_FEWEST_DROPPED : NumIn K "FEWEST_DROPPED" (1075)
  n_CALL_BEGIN : NumIn K "CALL_BEGIN" (0)
  n_CALL_OPEN : NumIn K "CALL_OPEN" (1)
  n_CALL_COUNT : NumIn K "CALL_COUNT" (2)
  n_CALL_ABOUT : NumIn K "CALL_ABOUT" (3)
  n_CALL_BOX : NumIn K "CALL_BOX" (4)
  n_CALL_PART : NumIn K "CALL_PART" (5)
  n_CALL_AT : NumIn K "CALL_AT" (6)
  n_REFUSED : NumIn K "REFUSED" (-1)
  n_REFUSED_NOTHING : NumIn K "REFUSED_NOTHING" (-2)
  n_NO_FILE : NumIn K "NO_FILE" (-4)
  n_MOST_TOLD : NumIn K "MOST_TOLD" (65536)
  b_len : PySem.W.nsIn K mainGlobals "len" = some none
  b_any : PySem.W.nsIn K mainGlobals "any" = some none
  b_min : PySem.W.nsIn K mainGlobals "min" = some none
  b_max : PySem.W.nsIn K mainGlobals "max" = some none
  b_sum : PySem.W.nsIn K mainGlobals "sum" = some none
  b_zip : PySem.W.nsIn K mainGlobals "zip" = some none
  b_range : PySem.W.nsIn K mainGlobals "range" = some none
  b_list : PySem.W.nsIn K mainGlobals "list" = some none
  b_abs : PySem.W.nsIn K mainGlobals "abs" = some none
  b_enumerate : PySem.W.nsIn K mainGlobals "enumerate" = some none
  tab : TabIn K
  exc : ∃ C, PySem.W.nsIn K mainGlobals "NotAFile" = some (some (.ref C)) ∧ PySem.W.excIn K C excMro "Exception.__new__" = true
  cls : ∃ S L, ShapeIn K S ∧ LandIn K L ∧ S ≠ L
theorem exc_in {K : PySem.W.Frag} {C : Addr} (a : PySem.W.nsIn K mainGlobals "NotAFile" = some (some (.ref C))) (b : PySem.W.excIn K C excMro "Exception.__new__" = true) : ∃ C, PySem.W.nsIn K mainGlobals "NotAFile" = some (some (.ref C)) ∧ PySem.W.excIn K C excMro "Exception.__new__" = true := ⟨C, a, b⟩
theorem cls_in {K : PySem.W.Frag} {S L : Addr} (a : PySem.W.nsIn K mainGlobals "Shape" = some (some (.ref S))) (b : PySem.W.nsIn K mainGlobals "Land" = some (some (.ref L))) (c : ShapeIn K S) (d : LandIn K L) (e : S ≠ L) : ∃ S L, ShapeIn K S ∧ LandIn K L ∧ S ≠ L := ⟨S, L, c, d, e⟩
set_option maxHeartbeats 0 in
theorem all_ok (w : World) (K : PySem.W.Frag) (mg : Str → Option Value) (fa : Addr) (h : Heap) (T : Facts K) (X : K.In h) (G : h.Ns mainGlobals mg) (hmg : mg "answers" = some (.ref fa)) : ∃ fd : FuncData, (∀ (s : Shared) (us : List Value), us.length = (["calls"] : List Str).length → BindsTo s fd ⟨us, []⟩ ((["calls"] : List Str).zip us)) ∧
    ∀ base : Heap, K.In base → base.Ns mainGlobals mg → L2.FnOk PySem.Challenge.rw_landshapes_s01_answers.prog w K mg base L2.CX0 12 fa fd ["calls"] (spAns K) := by
  have TN : Names mg := {
    sign := T.n_SIGN.num X G
    fraction := T.n_FRACTION.num X G
    hidden := T.n_HIDDEN_ONE.num X G
    exponent := T.n_EXPONENT.num X G
    farthest := T.n_FARTHEST.num X G
    nothing := T.n_NOTHING.num X G
    point := T.n_POINT.num X G
    lines := T.n_LINES.num X G
    area := T.n_AREA.num X G
    longest := T.n_LONGEST_FILE.num X G
    headLen := T.n_HEAD_LENGTH.num X G
    recHead := T.n_RECORD_HEAD_LENGTH.num X G
    nothingLen := T.n_NOTHING_LENGTH.num X G
    pointLen := T.n_POINT_LENGTH.num X G
    places := T.n_PLACES_START.num X G
    mostParts := T.n_MOST_PARTS.num X G
    mostPoints := T.n_MOST_POINTS.num X G
    dWidth := T.n_DOUBLE_WIDTH.num X G
    fewest := T.n_FEWEST_DROPPED.num X G
    cBegin := T.n_CALL_BEGIN.num X G
    cOpen := T.n_CALL_OPEN.num X G
    cCount := T.n_CALL_COUNT.num X G
    cAbout := T.n_CALL_ABOUT.num X G
    cBox := T.n_CALL_BOX.num X G
    cPart := T.n_CALL_PART.num X G
    cAt := T.n_CALL_AT.num X G
    refused := T.n_REFUSED.num X G
    refNothing := T.n_REFUSED_NOTHING.num X G
    noFile := T.n_NO_FILE.num X G
    mostTold := T.n_MOST_TOLD.num X G
    nLen := PySem.W.ns_none_of X G T.b_len
    nAny := PySem.W.ns_none_of X G T.b_any
    nMin := PySem.W.ns_none_of X G T.b_min
    nMax := PySem.W.ns_none_of X G T.b_max
    nSum := PySem.W.ns_none_of X G T.b_sum
    nZip := PySem.W.ns_none_of X G T.b_zip
    nRange := PySem.W.ns_none_of X G T.b_range
    nList := PySem.W.ns_none_of X G T.b_list
    nAbs := PySem.W.ns_none_of X G T.b_abs
    nEnum := PySem.W.ns_none_of X G T.b_enumerate
  }
  obtain ⟨f_exact, e_exact⟩ := T.d_exact
  obtain ⟨m_exact, fd_exact, F_exact⟩ := e_exact.fn X G
  have b_exact : L2.Binds K fd_exact ["bits"] [] := bd1 F_exact (fun _ _ _ _ _ _ _ => rfl)
  obtain ⟨f_is_coordinate, e_is_coordinate⟩ := T.d_is_coordinate
  obtain ⟨m_is_coordinate, fd_is_coordinate, F_is_coordinate⟩ := e_is_coordinate.fn X G
  have b_is_coordinate : L2.Binds K fd_is_coordinate ["bits"] [] := bd1 F_is_coordinate (fun _ _ _ _ _ _ _ => rfl)
  obtain ⟨f_box_of, e_box_of⟩ := T.d_box_of
  obtain ⟨m_box_of, fd_box_of, F_box_of⟩ := e_box_of.fn X G
  have b_box_of : L2.Binds K fd_box_of ["points"] [] := bd1 F_box_of (fun _ _ _ _ _ _ _ => rfl)
  obtain ⟨f_exact_point, e_exact_point⟩ := T.d_exact_point
  obtain ⟨m_exact_point, fd_exact_point, F_exact_point⟩ := e_exact_point.fn X G
  have b_exact_point : L2.Binds K fd_exact_point ["point"] [] := bd1 F_exact_point (fun _ _ _ _ _ _ _ => rfl)
  obtain ⟨f_ways, e_ways⟩ := T.d_ways
  obtain ⟨m_ways, fd_ways, F_ways⟩ := e_ways.fn X G
  have b_ways : L2.Binds K fd_ways ["points"] [] := bd1 F_ways (fun _ _ _ _ _ _ _ => rfl)
  obtain ⟨f_goes_round, e_goes_round⟩ := T.d_goes_round
  obtain ⟨m_goes_round, fd_goes_round, F_goes_round⟩ := e_goes_round.fn X G
  have b_goes_round : L2.Binds K fd_goes_round ["ring"] [] := bd1 F_goes_round (fun _ _ _ _ _ _ _ => rfl)
  obtain ⟨f_whole_low, e_whole_low⟩ := T.d_whole_low
  obtain ⟨m_whole_low, fd_whole_low, F_whole_low⟩ := e_whole_low.fn X G
  have b_whole_low : L2.Binds K fd_whole_low ["data", "place"] [] := bd2 F_whole_low (fun _ _ _ _ _ _ _ _ => rfl)
  obtain ⟨f_whole_high, e_whole_high⟩ := T.d_whole_high
  obtain ⟨m_whole_high, fd_whole_high, F_whole_high⟩ := e_whole_high.fn X G
  have b_whole_high : L2.Binds K fd_whole_high ["data", "place"] [] := bd2 F_whole_high (fun _ _ _ _ _ _ _ _ => rfl)
  obtain ⟨f_double_bits, e_double_bits⟩ := T.d_double_bits
  obtain ⟨m_double_bits, fd_double_bits, F_double_bits⟩ := e_double_bits.fn X G
  have b_double_bits : L2.Binds K fd_double_bits ["data", "place"] [] := bd2 F_double_bits (fun _ _ _ _ _ _ _ _ => rfl)
  obtain ⟨f_doubles, e_doubles⟩ := T.d_doubles
  obtain ⟨m_doubles, fd_doubles, F_doubles⟩ := e_doubles.fn X G
  have b_doubles : L2.Binds K fd_doubles ["data", "place", "many"] [] := bd3 F_doubles (fun _ _ _ _ _ _ _ _ _ => rfl)
  obtain ⟨f_all_zero, e_all_zero⟩ := T.d_all_zero
  obtain ⟨m_all_zero, fd_all_zero, F_all_zero⟩ := e_all_zero.fn X G
  have b_all_zero : L2.Binds K fd_all_zero ["data", "start", "end"] [] := bd3 F_all_zero (fun _ _ _ _ _ _ _ _ _ => rfl)
  obtain ⟨f_require, e_require⟩ := T.d_require
  obtain ⟨m_require, fd_require, F_require⟩ := e_require.fn X G
  have b_require : L2.Binds K fd_require ["holds"] [] := bd1 F_require (fun _ _ _ _ _ _ _ => rfl)
  obtain ⟨f_read_points, e_read_points⟩ := T.d_read_points
  obtain ⟨m_read_points, fd_read_points, F_read_points⟩ := e_read_points.fn X G
  have b_read_points : L2.Binds K fd_read_points ["content", "place", "many"] [] := bd3 F_read_points (fun _ _ _ _ _ _ _ _ _ => rfl)
  obtain ⟨f_cut, e_cut⟩ := T.d_cut
  obtain ⟨m_cut, fd_cut, F_cut⟩ := e_cut.fn X G
  have b_cut : L2.Binds K fd_cut ["points", "places"] [] := bd2 F_cut (fun _ _ _ _ _ _ _ _ => rfl)
  obtain ⟨f_is_part, e_is_part⟩ := T.d_is_part
  obtain ⟨m_is_part, fd_is_part, F_is_part⟩ := e_is_part.fn X G
  have b_is_part : L2.Binds K fd_is_part ["part", "kind"] [] := bd2 F_is_part (fun _ _ _ _ _ _ _ _ => rfl)
  obtain ⟨f_read_parts, e_read_parts⟩ := T.d_read_parts
  obtain ⟨m_read_parts, fd_read_parts, F_read_parts⟩ := e_read_parts.fn X G
  have b_read_parts : L2.Binds K fd_read_parts ["content", "kind"] [] := bd2 F_read_parts (fun _ _ _ _ _ _ _ _ => rfl)
  obtain ⟨f_read_shape, e_read_shape⟩ := T.d_read_shape
  obtain ⟨m_read_shape, fd_read_shape, F_read_shape⟩ := e_read_shape.fn X G
  have b_read_shape : L2.Binds K fd_read_shape ["content", "kind"] [] := bd2 F_read_shape (fun _ _ _ _ _ _ _ _ => rfl)
  obtain ⟨f_read_content, e_read_content⟩ := T.d_read_content
  obtain ⟨m_read_content, fd_read_content, F_read_content⟩ := e_read_content.fn X G
  have b_read_content : L2.Binds K fd_read_content ["data", "place", "number"] [] := bd3 F_read_content (fun _ _ _ _ _ _ _ _ _ => rfl)
  obtain ⟨f_read_records, e_read_records⟩ := T.d_read_records
  obtain ⟨m_read_records, fd_read_records, F_read_records⟩ := e_read_records.fn X G
  have b_read_records : L2.Binds K fd_read_records ["data", "kind"] [] := bd2 F_read_records (fun _ _ _ _ _ _ _ _ => rfl)
  obtain ⟨f_require_head, e_require_head⟩ := T.d_require_head
  obtain ⟨m_require_head, fd_require_head, F_require_head⟩ := e_require_head.fn X G
  have b_require_head : L2.Binds K fd_require_head ["data"] [] := bd1 F_require_head (fun _ _ _ _ _ _ _ => rfl)
  obtain ⟨f_require_head_box, e_require_head_box⟩ := T.d_require_head_box
  obtain ⟨m_require_head_box, fd_require_head_box, F_require_head_box⟩ := e_require_head_box.fn X G
  have b_require_head_box : L2.Binds K fd_require_head_box ["data", "shapes"] [] := bd2 F_require_head_box (fun _ _ _ _ _ _ _ _ => rfl)
  obtain ⟨f_read_file, e_read_file⟩ := T.d_read_file
  obtain ⟨m_read_file, fd_read_file, F_read_file⟩ := e_read_file.fn X G
  have b_read_file : L2.Binds K fd_read_file ["data"] [] := bd1 F_read_file (fun _ _ _ _ _ _ _ => rfl)
  obtain ⟨f_turn, e_turn⟩ := T.d_turn
  obtain ⟨m_turn, fd_turn, F_turn⟩ := e_turn.fn X G
  have b_turn : L2.Binds K fd_turn ["point", "start", "end"] [] := bd3 F_turn (fun _ _ _ _ _ _ _ _ _ => rfl)
  obtain ⟨f_is_between, e_is_between⟩ := T.d_is_between
  obtain ⟨m_is_between, fd_is_between, F_is_between⟩ := e_is_between.fn X G
  have b_is_between : L2.Binds K fd_is_between ["one", "value", "other"] [] := bd3 F_is_between (fun _ _ _ _ _ _ _ _ _ => rfl)
  obtain ⟨f_lies_on, e_lies_on⟩ := T.d_lies_on
  obtain ⟨m_lies_on, fd_lies_on, F_lies_on⟩ := e_lies_on.fn X G
  have b_lies_on : L2.Binds K fd_lies_on ["point", "start", "end"] [] := bd3 F_lies_on (fun _ _ _ _ _ _ _ _ _ => rfl)
  obtain ⟨f_is_crossed, e_is_crossed⟩ := T.d_is_crossed
  obtain ⟨m_is_crossed, fd_is_crossed, F_is_crossed⟩ := e_is_crossed.fn X G
  have b_is_crossed : L2.Binds K fd_is_crossed ["point", "start", "end"] [] := bd3 F_is_crossed (fun _ _ _ _ _ _ _ _ _ => rfl)
  obtain ⟨f_holds, e_holds⟩ := T.d_holds
  obtain ⟨m_holds, fd_holds, F_holds⟩ := e_holds.fn X G
  have b_holds : L2.Binds K fd_holds ["shape", "point"] [] := bd2 F_holds (fun _ _ _ _ _ _ _ _ => rfl)
  obtain ⟨f_without_last_bits, e_without_last_bits⟩ := T.d_without_last_bits
  obtain ⟨m_without_last_bits, fd_without_last_bits, F_without_last_bits⟩ := e_without_last_bits.fn X G
  have b_without_last_bits : L2.Binds K fd_without_last_bits ["whole", "dropped"] [] := bd2 F_without_last_bits (fun _ _ _ _ _ _ _ _ => rfl)
  obtain ⟨f_nearest_double, e_nearest_double⟩ := T.d_nearest_double
  obtain ⟨m_nearest_double, fd_nearest_double, F_nearest_double⟩ := e_nearest_double.fn X G
  have b_nearest_double : L2.Binds K fd_nearest_double ["size"] [] := bd1 F_nearest_double (fun _ _ _ _ _ _ _ => rfl)
  obtain ⟨f_size_bits, e_size_bits⟩ := T.d_size_bits
  obtain ⟨m_size_bits, fd_size_bits, F_size_bits⟩ := e_size_bits.fn X G
  have b_size_bits : L2.Binds K fd_size_bits ["shape"] [] := bd1 F_size_bits (fun _ _ _ _ _ _ _ => rfl)
  obtain ⟨f_first_of, e_first_of⟩ := T.d_first_of
  obtain ⟨m_first_of, fd_first_of, F_first_of⟩ := e_first_of.fn X G
  have b_first_of : L2.Binds K fd_first_of ["row", "most"] [] := bd2 F_first_of (fun _ _ _ _ _ _ _ _ => rfl)
  obtain ⟨f_tell_box, e_tell_box⟩ := T.d_tell_box
  obtain ⟨m_tell_box, fd_tell_box, F_tell_box⟩ := e_tell_box.fn X G
  have b_tell_box : L2.Binds K fd_tell_box ["shape"] [] := bd1 F_tell_box (fun _ _ _ _ _ _ _ => rfl)
  obtain ⟨f_tell_part, e_tell_part⟩ := T.d_tell_part
  obtain ⟨m_tell_part, fd_tell_part, F_tell_part⟩ := e_tell_part.fn X G
  have b_tell_part : L2.Binds K fd_tell_part ["shape", "number", "start", "most"] [] := bd4 F_tell_part (fun _ _ _ _ _ _ _ _ _ _ => rfl)
  obtain ⟨f_answer_of_shape, e_answer_of_shape⟩ := T.d_answer_of_shape
  obtain ⟨m_answer_of_shape, fd_answer_of_shape, F_answer_of_shape⟩ := e_answer_of_shape.fn X G
  have b_answer_of_shape : L2.Binds K fd_answer_of_shape ["shape", "call", "numbers"] [] := bd3 F_answer_of_shape (fun _ _ _ _ _ _ _ _ _ => rfl)
  obtain ⟨f_answers, e_answers⟩ := T.d_answers
  obtain ⟨m_answers, fd_answers, F_answers⟩ := e_answers.fn X G
  have b_answers : L2.Binds K fd_answers ["calls"] [] := bd1 F_answers (fun _ _ _ _ _ _ _ => rfl)
  obtain ⟨S, L, iS, iL, neSL⟩ := T.cls
  obtain ⟨C, aC, xC⟩ := T.exc
  obtain ⟨fS_init, eS_init⟩ := iS.m_init
  obtain ⟨MS_init, fdS_init, FS_init⟩ := eS_init.fn
  have bS_init : L2.Binds K fdS_init ["self", "kind", "parts"] [] := bd3 FS_init (fun _ _ _ _ _ _ _ _ _ => rfl)
  obtain ⟨fS_all_points, eS_all_points⟩ := iS.m_all_points
  obtain ⟨MS_all_points, fdS_all_points, FS_all_points⟩ := eS_all_points.fn
  have bS_all_points : L2.Binds K fdS_all_points ["self"] [] := bd1 FS_all_points (fun _ _ _ _ _ _ _ => rfl)
  obtain ⟨fL_init, eL_init⟩ := iL.m_init
  obtain ⟨ML_init, fdL_init, FL_init⟩ := eL_init.fn
  have bL_init : L2.Binds K fdL_init ["self"] [] := bd1 FL_init (fun _ _ _ _ _ _ _ => rfl)
  obtain ⟨fL_answer, eL_answer⟩ := iL.m_answer
  obtain ⟨ML_answer, fdL_answer, FL_answer⟩ := eL_answer.fn
  have bL_answer : L2.Binds K fdL_answer ["self", "call", "numbers"] [] := bd3 FL_answer (fun _ _ _ _ _ _ _ _ _ => rfl)
  obtain ⟨fL_take_file, eL_take_file⟩ := iL.m_take_file
  obtain ⟨ML_take_file, fdL_take_file, FL_take_file⟩ := eL_take_file.fn
  have bL_take_file : L2.Binds K fdL_take_file ["self", "data"] [] := bd2 FL_take_file (fun _ _ _ _ _ _ _ _ => rfl)
  obtain ⟨fL_tell_holders, eL_tell_holders⟩ := iL.m_tell_holders
  obtain ⟨ML_tell_holders, fdL_tell_holders, FL_tell_holders⟩ := eL_tell_holders.fn
  have bL_tell_holders : L2.Binds K fdL_tell_holders ["self", "x", "y", "most"] [] := bd4 FL_tell_holders (fun _ _ _ _ _ _ _ _ _ _ => rfl)
  have TS : ShapeCls K mg S fS_init fS_all_points := ⟨iS.cls.cl, iS.n_kind, iS.n_parts, PySem.W.mg_of X G iS.cls.bound, MethIn.made iS.cls eS_init, MS_all_points⟩
  have TL : LandCls K mg L S := ⟨iL.cls.cl, neSL, iL.n_shapes, PySem.W.mg_of X G iL.cls.bound⟩
  have ML : Mk K L fL_init := MethIn.made iL.cls eL_init
  cases hmg.symm.trans m_answers
  refine ⟨fd_answers, fun s us hu => ?_, fun base XB GB => ?_⟩
  · obtain ⟨oc, od, kV, doc, pm, an, cdv, ct, osl, e, _, _⟩ := F_answers.ex
    subst e
    match us, hu with
    | [_], _ => exact .of_eq rfl
  have OC : OwnCls "NotAFile" C excMro "Exception.__new__" mg base := own_mk XB (PySem.W.mg_of X G aC) xC
  have SI : FnOk PySem.Challenge.rw_landshapes_s01_answers.prog w K mg base (CXE PySem.Challenge.rw_landshapes_s01_answers.prog w C) 1 fS_init fdS_init ["self", "kind", "parts"] (spShInit S) := ok_shInit FS_init TS
  have bSI := bS_init
  have SA : FnOk PySem.Challenge.rw_landshapes_s01_answers.prog w K mg base (CXE PySem.Challenge.rw_landshapes_s01_answers.prog w C) 1 fS_all_points fdS_all_points ["self"] (spAll S) := ok_all FS_all_points TS
  have bSA := bS_all_points
  have g_exact := ok_exact (P := PySem.Challenge.rw_landshapes_s01_answers.prog) (w := w) (base := base) (C := C) F_exact m_exact b_exact TN
  have g_is_coordinate := ok_coord (P := PySem.Challenge.rw_landshapes_s01_answers.prog) (w := w) (base := base) (C := C) F_is_coordinate m_is_coordinate b_is_coordinate TN
  have g_box_of := ok_box (P := PySem.Challenge.rw_landshapes_s01_answers.prog) (w := w) (base := base) (C := C) F_box_of m_box_of b_box_of TN g_exact
  have g_exact_point := ok_pt (P := PySem.Challenge.rw_landshapes_s01_answers.prog) (w := w) (base := base) (C := C) F_exact_point m_exact_point b_exact_point g_exact
  have g_ways := ok_ways (P := PySem.Challenge.rw_landshapes_s01_answers.prog) (w := w) (base := base) (C := C) F_ways m_ways b_ways TN g_exact_point
  have g_goes_round := ok_round (P := PySem.Challenge.rw_landshapes_s01_answers.prog) (w := w) (base := base) (C := C) F_goes_round m_goes_round b_goes_round TN g_ways
  have g_whole_low := ok_low (P := PySem.Challenge.rw_landshapes_s01_answers.prog) (w := w) (base := base) (C := C) F_whole_low m_whole_low b_whole_low 
  have g_whole_high := ok_high (P := PySem.Challenge.rw_landshapes_s01_answers.prog) (w := w) (base := base) (C := C) F_whole_high m_whole_high b_whole_high 
  have g_double_bits := ok_double (P := PySem.Challenge.rw_landshapes_s01_answers.prog) (w := w) (base := base) (C := C) F_double_bits m_double_bits b_double_bits g_whole_low
  have g_doubles := ok_doubles (P := PySem.Challenge.rw_landshapes_s01_answers.prog) (w := w) (base := base) (C := C) F_doubles m_doubles b_doubles TN g_double_bits
  have g_all_zero := ok_zero (P := PySem.Challenge.rw_landshapes_s01_answers.prog) (w := w) (base := base) (C := C) F_all_zero m_all_zero b_all_zero TN
  have g_require := ok_req (P := PySem.Challenge.rw_landshapes_s01_answers.prog) (w := w) (base := base) (C := C) F_require m_require b_require OC
  have g_read_points := ok_rdPts (P := PySem.Challenge.rw_landshapes_s01_answers.prog) (w := w) (base := base) (C := C) F_read_points m_read_points b_read_points TN g_doubles g_is_coordinate g_require
  have g_cut := ok_cut (P := PySem.Challenge.rw_landshapes_s01_answers.prog) (w := w) (base := base) (C := C) F_cut m_cut b_cut TN g_require
  have g_is_part := ok_isPart (P := PySem.Challenge.rw_landshapes_s01_answers.prog) (w := w) (base := base) (C := C) F_is_part m_is_part b_is_part TN g_goes_round
  have g_read_parts := ok_rdParts (P := PySem.Challenge.rw_landshapes_s01_answers.prog) (w := w) (base := base) (C := C) F_read_parts m_read_parts b_read_parts TN g_whole_low g_require g_read_points g_doubles g_box_of g_cut g_is_part
  have g_read_shape := ok_rdShape (P := PySem.Challenge.rw_landshapes_s01_answers.prog) (w := w) (base := base) (C := C) F_read_shape m_read_shape b_read_shape TN TS SI bSI g_whole_low g_require g_read_points g_read_parts
  have g_read_content := ok_content (P := PySem.Challenge.rw_landshapes_s01_answers.prog) (w := w) (base := base) (C := C) F_read_content m_read_content b_read_content TN g_whole_high g_require
  have g_read_records := ok_records (P := PySem.Challenge.rw_landshapes_s01_answers.prog) (w := w) (base := base) (C := C) F_read_records m_read_records b_read_records TN g_read_content g_read_shape
  have g_require_head := ok_head (P := PySem.Challenge.rw_landshapes_s01_answers.prog) (w := w) (base := base) (C := C) F_require_head m_require_head b_require_head TN g_whole_low g_whole_high g_all_zero g_require
  have g_require_head_box := ok_headBox (P := PySem.Challenge.rw_landshapes_s01_answers.prog) (w := w) (base := base) (C := C) F_require_head_box m_require_head_box b_require_head_box TN TS SA bSA g_doubles g_box_of g_require
  have g_read_file := ok_file (P := PySem.Challenge.rw_landshapes_s01_answers.prog) (w := w) (base := base) (C := C) F_read_file m_read_file b_read_file TN g_require g_require_head g_whole_low g_read_records g_require_head_box
  have g_turn := ok_turn (P := PySem.Challenge.rw_landshapes_s01_answers.prog) (w := w) (base := base) (C := C) F_turn m_turn b_turn 
  have g_is_between := ok_between (P := PySem.Challenge.rw_landshapes_s01_answers.prog) (w := w) (base := base) (C := C) F_is_between m_is_between b_is_between 
  have g_lies_on := ok_on (P := PySem.Challenge.rw_landshapes_s01_answers.prog) (w := w) (base := base) (C := C) F_lies_on m_lies_on b_lies_on g_is_between g_turn
  have g_is_crossed := ok_crossed (P := PySem.Challenge.rw_landshapes_s01_answers.prog) (w := w) (base := base) (C := C) F_is_crossed m_is_crossed b_is_crossed g_turn
  have g_holds := ok_holds (P := PySem.Challenge.rw_landshapes_s01_answers.prog) (w := w) (base := base) (C := C) F_holds m_holds b_holds TN TS g_exact_point g_ways g_lies_on g_is_crossed
  have g_without_last_bits := ok_wlb (P := PySem.Challenge.rw_landshapes_s01_answers.prog) (w := w) (base := base) (C := C) F_without_last_bits m_without_last_bits b_without_last_bits 
  have g_nearest_double := ok_near (P := PySem.Challenge.rw_landshapes_s01_answers.prog) (w := w) (base := base) (C := C) F_nearest_double m_nearest_double b_nearest_double TN g_without_last_bits
  have g_size_bits := ok_size (P := PySem.Challenge.rw_landshapes_s01_answers.prog) (w := w) (base := base) (C := C) F_size_bits m_size_bits b_size_bits TN TS g_nearest_double g_goes_round
  have g_first_of := ok_first (P := PySem.Challenge.rw_landshapes_s01_answers.prog) (w := w) (base := base) (C := C) F_first_of m_first_of b_first_of TN
  have g_tell_box := ok_tBox (P := PySem.Challenge.rw_landshapes_s01_answers.prog) (w := w) (base := base) (C := C) F_tell_box m_tell_box b_tell_box TN TS SA bSA g_box_of
  have g_tell_part := ok_tPart (P := PySem.Challenge.rw_landshapes_s01_answers.prog) (w := w) (base := base) (C := C) F_tell_part m_tell_part b_tell_part TN TS g_first_of
  have g_answer_of_shape := ok_shape (P := PySem.Challenge.rw_landshapes_s01_answers.prog) (w := w) (base := base) (C := C) F_answer_of_shape m_answer_of_shape b_answer_of_shape TN TS SA bSA g_tell_box g_tell_part g_size_bits
  have LI : FnOk PySem.Challenge.rw_landshapes_s01_answers.prog w K mg base (CXE PySem.Challenge.rw_landshapes_s01_answers.prog w C) 1 fL_init fdL_init ["self"] (spLdInit L) := ok_ldInit FL_init TL
  have LT := ok_take (P := PySem.Challenge.rw_landshapes_s01_answers.prog) (w := w) (base := base) (C := C) FL_take_file TL (T.n_REFUSED.num X G) OC g_read_file
  have LH := ok_holders (P := PySem.Challenge.rw_landshapes_s01_answers.prog) (w := w) (base := base) (C := C) FL_tell_holders TL TN g_is_coordinate g_exact_point g_holds g_first_of
  have LA := ok_answer (P := PySem.Challenge.rw_landshapes_s01_answers.prog) (w := w) (base := base) (C := C) FL_answer TL TN ML_take_file LT bL_take_file ML_tell_holders LH bL_tell_holders g_answer_of_shape
  exact quiet (ok_answers (P := PySem.Challenge.rw_landshapes_s01_answers.prog) (w := w) (base := base) (C := C) F_answers TN TL (T.n_CALL_OPEN.num X G) (T.tab.behind X G) ML LI bL_init ML_answer LA bL_answer) fun vs H Q E q => q
end Ls
theorem PySem.W.Fast.te8208676143448172538 : True := trivial
theorem PySem.W.Fast.tw9128844603371554026 : True := trivial
theorem PySem.W.Fast.tw5743184017930979850 : True := trivial
theorem PySem.W.Fast.tw8985234347280450138 : True := trivial
theorem PySem.W.Fast.tw17104889450498092657 : True := trivial
theorem PySem.W.Fast.tw10609717169855804728 : True := trivial
theorem PySem.W.Fast.tw9915121438284998424 : True := trivial
def PySem.W.Fast.tw237513621786033830 : PySem.Program := PySem.Challenge.pw_landshapes_s01_answers
theorem PySem.W.Fast.te237513621786033830 : PySem.Challenge.pw_landshapes_s01_answers = PySem.W.Fast.tw237513621786033830 := rfl
open PySem PySem.W PyProof.Rows
set_option maxRecDepth 100000 in
set_option maxHeartbeats 0 in
theorem PySem.Challenge.cw_landshapes_s01_answers_holds : PySem.Challenge.rw_landshapes_s01_answers.Holds := by
  w_on; k_headS; (case hw => exact ⟨[.list []], by decide +kernel, by decide +kernel⟩)
  k_fillS
  refine L2.walk_specK (r := PySem.Challenge.rw_landshapes_s01_answers) (k := 12) (CX := L2.CX0) (ps := ["calls"]) (sp := Ls.spAns) (by decide +kernel) rfl rfl ⟨rfl, by decide, by decide⟩ (fun w h Y => PySem.W.kIn_of Y) ?F ?S (fun _ _ _ _ z => z)
  case F =>
    intro w mg fa h Y KX G hmg
    refine Ls.all_ok w _ mg fa h ?_ KX G hmg
    constructor
    · refine' Ls.def_in ?a ?l ?c ?k
      (case a => k_is); (case l => k_is); (case c => k_is); (case k => k_is)
    · refine' Ls.def_in ?a ?l ?c ?k
      (case a => k_is); (case l => k_is); (case c => k_is); (case k => k_is)
    · refine' Ls.def_in ?a ?l ?c ?k
      (case a => k_is); (case l => k_is); (case c => k_is); (case k => k_is)
    · refine' Ls.def_in ?a ?l ?c ?k
      (case a => k_is); (case l => k_is); (case c => k_is); (case k => k_is)
    · refine' Ls.def_in ?a ?l ?c ?k
      (case a => k_is); (case l => k_is); (case c => k_is); (case k => k_is)
    · refine' Ls.def_in ?a ?l ?c ?k
      (case a => k_is); (case l => k_is); (case c => k_is); (case k => k_is)
    · refine' Ls.def_in ?a ?l ?c ?k
      (case a => k_is); (case l => k_is); (case c => k_is); (case k => k_is)
    · refine' Ls.def_in ?a ?l ?c ?k
      (case a => k_is); (case l => k_is); (case c => k_is); (case k => k_is)
    · refine' Ls.def_in ?a ?l ?c ?k
      (case a => k_is); (case l => k_is); (case c => k_is); (case k => k_is)
    · refine' Ls.def_in ?a ?l ?c ?k
      (case a => k_is); (case l => k_is); (case c => k_is); (case k => k_is)
    · refine' Ls.def_in ?a ?l ?c ?k
      (case a => k_is); (case l => k_is); (case c => k_is); (case k => k_is)
    · refine' Ls.def_in ?a ?l ?c ?k
      (case a => k_is); (case l => k_is); (case c => k_is); (case k => k_is)
    · refine' Ls.def_in ?a ?l ?c ?k
      (case a => k_is); (case l => k_is); (case c => k_is); (case k => k_is)
    · refine' Ls.def_in ?a ?l ?c ?k
      (case a => k_is); (case l => k_is); (case c => k_is); (case k => k_is)
    · refine' Ls.def_in ?a ?l ?c ?k
      (case a => k_is); (case l => k_is); (case c => k_is); (case k => k_is)
    · refine' Ls.def_in ?a ?l ?c ?k
      (case a => k_is); (case l => k_is); (case c => k_is); (case k => k_is)
    · refine' Ls.def_in ?a ?l ?c ?k
      (case a => k_is); (case l => k_is); (case c => k_is); (case k => k_is)
    · refine' Ls.def_in ?a ?l ?c ?k
      (case a => k_is); (case l => k_is); (case c => k_is); (case k => k_is)
    · refine' Ls.def_in ?a ?l ?c ?k
      (case a => k_is); (case l => k_is); (case c => k_is); (case k => k_is)
    · refine' Ls.def_in ?a ?l ?c ?k
      (case a => k_is); (case l => k_is); (case c => k_is); (case k => k_is)
    · refine' Ls.def_in ?a ?l ?c ?k
      (case a => k_is); (case l => k_is); (case c => k_is); (case k => k_is)
    · refine' Ls.def_in ?a ?l ?c ?k
      (case a => k_is); (case l => k_is); (case c => k_is); (case k => k_is)
    · refine' Ls.def_in ?a ?l ?c ?k
      (case a => k_is); (case l => k_is); (case c => k_is); (case k => k_is)
    · refine' Ls.def_in ?a ?l ?c ?k
      (case a => k_is); (case l => k_is); (case c => k_is); (case k => k_is)
    · refine' Ls.def_in ?a ?l ?c ?k
      (case a => k_is); (case l => k_is); (case c => k_is); (case k => k_is)
    · refine' Ls.def_in ?a ?l ?c ?k
      (case a => k_is); (case l => k_is); (case c => k_is); (case k => k_is)
    · refine' Ls.def_in ?a ?l ?c ?k
      (case a => k_is); (case l => k_is); (case c => k_is); (case k => k_is)
    · refine' Ls.def_in ?a ?l ?c ?k
      (case a => k_is); (case l => k_is); (case c => k_is); (case k => k_is)
    · refine' Ls.def_in ?a ?l ?c ?k
      (case a => k_is); (case l => k_is); (case c => k_is); (case k => k_is)
    · refine' Ls.def_in ?a ?l ?c ?k
      (case a => k_is); (case l => k_is); (case c => k_is); (case k => k_is)
    · refine' Ls.def_in ?a ?l ?c ?k
      (case a => k_is); (case l => k_is); (case c => k_is); (case k => k_is)
    · refine' Ls.def_in ?a ?l ?c ?k
      (case a => k_is); (case l => k_is); (case c => k_is); (case k => k_is)
    · refine' Ls.def_in ?a ?l ?c ?k
      (case a => k_is); (case l => k_is); (case c => k_is); (case k => k_is)
    · refine' Ls.def_in ?a ?l ?c ?k
      (case a => k_is); (case l => k_is); (case c => k_is); (case k => k_is)
    · refine' Ls.def_in ?a ?l ?c ?k
      (case a => k_is); (case l => k_is); (case c => k_is); (case k => k_is)
    · refine' Ls.num_in ?a
      (case a => k_is)
    · refine' Ls.num_in ?a
      (case a => k_is)
    · refine' Ls.num_in ?a
      (case a => k_is)
    · refine' Ls.num_in ?a
      (case a => k_is)
    · refine' Ls.num_in ?a
      (case a => k_is)
    · refine' Ls.num_in ?a
      (case a => k_is)
    · refine' Ls.num_in ?a
      (case a => k_is)
    · refine' Ls.num_in ?a
      (case a => k_is)
    · refine' Ls.num_in ?a
      (case a => k_is)
    · refine' Ls.num_in ?a
      (case a => k_is)
    · refine' Ls.num_in ?a
      (case a => k_is)
    · refine' Ls.num_in ?a
      (case a => k_is)
    · refine' Ls.num_in ?a
      (case a => k_is)
    · refine' Ls.num_in ?a
      (case a => k_is)
    · refine' Ls.num_in ?a
      (case a => k_is)
    · refine' Ls.num_in ?a
      (case a => k_is)
    · refine' Ls.num_in ?a
      (case a => k_is)
    · refine' Ls.num_in ?a
      (case a => k_is)
    · refine' Ls.num_in ?a
      (case a => k_is)
    · refine' Ls.num_in ?a
      (case a => k_is)
    · refine' Ls.num_in ?a
      (case a => k_is)
    · refine' Ls.num_in ?a
      (case a => k_is)
    · refine' Ls.num_in ?a
      (case a => k_is)
    · refine' Ls.num_in ?a
      (case a => k_is)
    · refine' Ls.num_in ?a
      (case a => k_is)
    · refine' Ls.num_in ?a
      (case a => k_is)
    · refine' Ls.num_in ?a
      (case a => k_is)
    · refine' Ls.num_in ?a
      (case a => k_is)
    · refine' Ls.num_in ?a
      (case a => k_is)
    · refine' Ls.num_in ?a
      (case a => k_is)
    · k_is
    · k_is
    · k_is
    · k_is
    · k_is
    · k_is
    · k_is
    · k_is
    · k_is
    · k_is
    · refine' Ls.tab_in ?a ?l
      (case a => k_is); (case l => k_is)
    · refine' Ls.exc_in ?a ?b
      (case a => k_is); (case b => k_exc)
    · refine' Ls.cls_in ?a ?b ?c ?d ?e
      (case a => k_is); (case b => k_is)
      case c =>
        constructor
        · constructor <;> k_is
        · k_is
        · k_is
        · refine' Ls.meth_in ?a ?i ?l ?c ?k
          (case a => k_is); (case i => k_is); (case l => k_is); (case c => k_is); (case k => k_is)
        · refine' Ls.meth_in ?a ?i ?l ?c ?k
          (case a => k_is); (case i => k_is); (case l => k_is); (case c => k_is); (case k => k_is)
      case d =>
        constructor
        · constructor <;> k_is
        · k_is
        · refine' Ls.meth_in ?a ?i ?l ?c ?k
          (case a => k_is); (case i => k_is); (case l => k_is); (case c => k_is); (case k => k_is)
        · refine' Ls.meth_in ?a ?i ?l ?c ?k
          (case a => k_is); (case i => k_is); (case l => k_is); (case c => k_is); (case k => k_is)
        · refine' Ls.meth_in ?a ?i ?l ?c ?k
          (case a => k_is); (case i => k_is); (case l => k_is); (case c => k_is); (case k => k_is)
        · refine' Ls.meth_in ?a ?i ?l ?c ?k
          (case a => k_is); (case i => k_is); (case l => k_is); (case c => k_is); (case k => k_is)
      case e => decide
  case S =>
    intro K H xs a hO hwi hask hx
    cases hx with
    | cons h1 h2 =>
      cases h2
      cases h1 with
      | lst hs ha =>
        have e := L2.ints_dw a.1 _ ha
        subst e
        have q : ((Codec.inLen 0 16000 a.1 && a.1.all (Codec.inInt (Int.negSucc 2147483647) (Int.ofNat 18446744073709551615))) && true) = true := hwi
        rw [Bool.and_eq_true, Bool.and_eq_true] at q
        exact ⟨_, a.1, rfl, hs, (Codec.inNat_iff.mp q.1.1).2, hask, fun H' p hp => .lst (L2.SqL.of hp) (L2.dw_ints _)⟩
#print axioms PySem.Challenge.cw_landshapes_s01_answers_holds

